import PyProof.Rows.All
import Wide.All
import OpenK.AllK
import Wide.FinOn
import PyProof.EqAt
import PyProof.EqKinds
import PyProof.TupleCall
import KE.BitLaws
import PyProof.PassesOwn
import PyProof.StationsW
import PyProof.ExcInit
import PyProof.InstStoreFacts
import PyProof.ExcBaseAll.Exception
import Rb35Spec
import OpenK.KCls
import PyProof.ExcAttrAll.Exception
import KE.KLam
import PyRb35
import KE.OsGo
import Open.SpecLaws
import PySem.Challenge.RW0_secretparts_s06_open_by
import PySem.Challenge.RW_secretparts_s06_open_by
set_option Elab.async false
section
set_option linter.all false
set_option maxRecDepth 100000
namespace L2
open PySem PySem.Spec PyProof.Rows
abbrev Key:=Sum Int Str
def yW:Key→Value→Bool
 | .inl k,v=>Value.isInt k v
 | .inr x,v=>Value.isStrOf x v
def keyH (w:World):Key→Int
 | .inl k=>hashInt k
 | .inr x=>hashStr w x
theorem gI:∀ {k:Key}{v:Value},yW k v=true→(∃ i t,k=Sum.inl i∧v=Value.int i t)∨(∃ x t,k=Sum.inr x∧v=Value.str x t)
 | .inl i,v,h=>by
  obtain ⟨t,e⟩:=Value.isInt_shape (k:=i) (v:=v) h
  exact .inl ⟨i,t,rfl,e⟩
 | .inr x,v,h=>by
  obtain ⟨t,e⟩:=Value.isStrOf_shape (x:=x) (v:=v) h
  exact .inr ⟨x,t,rfl,e⟩
theorem dAc (i:Int) (t:Tok):yW (.inl i) (.int i t)=true:=by simp [yW,Value.isInt]
theorem dBx (x:Str) (t:Tok):yW (.inr x) (.str x t)=true:=by simp [yW,Value.isStrOf]
theorem dFo (a b:Int):decide ((Sum.inl a:Key)=Sum.inl b)=(a==b):=by
 by_cases e:a=b
 ·subst e;simp
 ·have h:¬ (Sum.inl a:Key)=Sum.inl b:=fun q=>e (Sum.inl.inj q)
  rw [decide_eq_false h]
  exact (beq_eq_false_iff_ne.mpr e).symm
theorem dFW (a b:Str):decide ((Sum.inr a:Key)=Sum.inr b)=decide (a=b):=by
 by_cases e:a=b
 ·subst e;simp
 ·have h:¬ (Sum.inr a:Key)=Sum.inr b:=fun q=>e (Sum.inr.inj q)
  rw [decide_eq_false h,decide_eq_false e]
theorem dGJ (a:Int) (b:Str):decide ((Sum.inl a:Key)=Sum.inr b)=false:=decide_eq_false (fun q=>nomatch q)
theorem dG0 (a:Str) (b:Int):decide ((Sum.inr a:Key)=Sum.inl b)=false:=decide_eq_false (fun q=>nomatch q)
def gE (prog:Program) (w:World):PySem.KeyKind prog w Key where
 is:=yW
 hash:=keyH w
 inj:=fun v a b ha hb=>by
  rcases gI ha with ⟨i,t,rfl,rfl⟩ | ⟨x,t,rfl,rfl⟩
  ·rcases gI hb with ⟨j,u,rfl,e⟩ | ⟨y,u,rfl,e⟩
   ·injection e with e1 _;rw [e1]
   ·exact nomatch e
  ·rcases gI hb with ⟨j,u,rfl,e⟩ | ⟨y,u,rfl,e⟩
   ·exact nomatch e
   ·injection e with e1 _;rw [e1]
 byValue:=fun k v h=>by
  rcases gI h with ⟨i,t,rfl,rfl⟩ | ⟨x,t,rfl,rfl⟩ <;> rfl
 pyHash:=fun hv h=>by
  rcases gI hv with ⟨i,t,rfl,rfl⟩ | ⟨x,t,rfl,rfl⟩
  ·exact wpAny_pyHash_int h
  ·exact wpAny_pyHash_str h
 eqBool:=fun hu hv h=>by
  rcases gI hu with ⟨i,t,rfl,rfl⟩ | ⟨x,t,rfl,rfl⟩
  ·rcases gI hv with ⟨j,u,rfl,rfl⟩ | ⟨y,u,rfl,rfl⟩
   ·rw [dFo] at h;exact wpAny_eqBool_int h
   ·rw [dGJ] at h;exact SeqAt.EqAt.int_str i t y u _ _ _ _ h
  ·rcases gI hv with ⟨j,u,rfl,rfl⟩ | ⟨y,u,rfl,rfl⟩
   ·rw [dG0] at h;exact SeqAt.EqAt.str_int x t j u _ _ _ _ h
   ·rw [dFW] at h;exact wpAny_eqBool_str h
 «strs»:=fun k x t v h=>by
  rcases gI h with ⟨i,u,rfl,e⟩ | ⟨y,u,rfl,e⟩
  ·exact nomatch e
  ·injection e with e1 _
   subst e1
   cases v <;> rfl
theorem d8c (prog:Program) (w:World) (i:Int) (t:Tok):(gE prog w).is (.inl i) (.int i t)=true:=dAc i t
theorem d8a (prog:Program) (w:World) (x:Str) (t:Tok):(gE prog w).is (.inr x) (.str x t)=true:=dBx x t
end L2
namespace L2
open PySem PySem.Spec PyProof.Rows
inductive V where
 | non | bl (b:Bool) | int (i:Int) | str (x:Str) | byt (b:Array UInt8) | flt (b:UInt64) | ref (a:Addr) | ty (n:String)
 deriving DecidableEq
def RelV:V→Value→Prop
 | .non,u=>u=Value.none
 | .bl b,u=>u=Value.bool b
 | .int i,u=>∃ t,u=Value.int i t
 | .str x,u=>∃ t,u=Value.str x t
 | .byt b,u=>∃ t,u=Value.bytes b t
 | .flt b,u=>∃ t,u=Value.float b t
 | .ref a,u=>u=Value.ref a
 | .ty n,u=>u=Value.type n
abbrev Vals:List V→List Value→Prop:=Paired RelV
theorem Vals.length {xs:List V}{us:List Value} (r:Vals xs us):xs.length=us.length:=Paired.length r
theorem Vals.get:∀ {xs:List V}{us:List Value}{i:Nat}{x:V},Vals xs us→xs[i]?=some x→∃ u,us[i]?=some u∧RelV x u
 | _,_,_,_,.nil,e=>by simp at e
 | _,_,0,_,.cons r _,e=>by simp at e;subst e;exact ⟨_,rfl,r⟩
 | _,_,i+1,x,.cons _ t,e=>by
  obtain ⟨u,h1,h2⟩:=Vals.get (i:=i) (x:=x) t (by simpa using e)
  exact ⟨u,by simpa using h1,h2⟩
theorem Vals.append:∀ {xs ys:List V}{us ws:List Value},Vals xs us→Vals ys ws→Vals (xs++ys) (us++ws)
 | _,_,_,_,.nil,s=>s
 | _,_,_,_,.cons r t,s=>.cons r (Vals.append t s)
theorem Vals.take:∀ {xs:List V}{us:List Value} (n:Nat),Vals xs us→Vals (xs.take n) (us.take n)
 | _,_,0,_=>.nil
 | _,_,_+1,.nil=>.nil
 | _,_,n+1,.cons r t=>.cons r (Vals.take n t)
theorem Vals.drop:∀ {xs:List V}{us:List Value} (n:Nat),Vals xs us→Vals (xs.drop n) (us.drop n)
 | _,_,0,r=>r
 | _,_,_+1,.nil=>.nil
 | _,_,n+1,.cons _ t=>Vals.drop n t
def RelO:Option V→Option Value→Prop
 | some v,some u=>RelV v u
 | none,none=>True
 | _,_=>False
def KV {κ:Type}:List (κ×V)→List (κ×Value)→Prop:=Paired fun (p:κ×V) (q:κ×Value)=>p.1=q.1∧RelV p.2 q.2
def kV:Key→V
 | .inl i=>.int i
 | .inr x=>.str x
inductive HO where
 | lst (xs:List V)
 | tup (xs:List V)
 | dK (kvs:List (Key×V)) | dT (kvs:List (List Key×V))
 | set (S:Int→Bool) (n:Nat)
 | ins (C dx:Addr) (fs:List (Str×V))
 | own (x:Addr)
 | xd (fs:List (Str×V))
 | met (f x:Addr)
 | rng (lo hi:Int)
 | frz (o:Obj) (u:HO)
 | tbl (ps:Array Value)
 | ext (φ:Heap→Prop)
abbrev Hp:=Addr→Option HO
def upd (H:Hp) (a:Addr) (o:HO):Hp:=fun b=>if b=a then some o else H b
theorem d9 {H:Hp}{a:Addr}{o:HO}:upd H a o a=some o:=by unfold upd;rw [if_pos rfl]
theorem d8 {H:Hp}{a b:Addr}{o:HO} (h:b≠a):upd H a o b=H b:=by unfold upd;rw [if_neg h]
theorem jL {H:Hp}{a:Addr}{o u:HO}:upd (upd H a o) a u=upd H a u:=by
 funext b;unfold upd;split <;> rfl
theorem uq {H:Hp}{a b:Addr}{o u:HO} (h:H a=some o) (h':H b=some u) (d:o≠u):a≠b:=by
 intro e;subst e;rw [h] at h';exact d (Option.some.inj h')
theorem dC {H:Hp}{a b:Addr}{o:HO} (h:H a=some o) (h':H b=none):a≠b:=by
 intro e;subst e;rw [h] at h';cases h'
section
variable (P:Program) (w:World)
def ObjOk (H:Hp) (h:Heap) (a:Addr):HO→Prop
 | .lst xs=>xs.length≤sizeLine∧∃ (its:List Value) (n:Nat),Vals xs its∧h.get? a=some { cls:=.type "list",data:=.seq its.toArray n }
 | .tup xs=>xs.length≤sizeLine∧∃ its:List Value,Vals xs its∧IsTup h a its.toArray
 | .dK kvs=>kvs.length≤sizeLine∧(a==sysModules)=false∧∃ vs,KV kvs vs∧h.DictOf (gE P w) a vs
 | .dT kvs=>kvs.length≤sizeLine∧(a==sysModules)=false∧∃ xs:List (List Key×Addr×Value),
   Paired (fun (p:List Key×V) (q:List Key×Addr×Value)=>p.1=q.1∧H q.2.1=some (.tup (p.1.map kV))∧RelV p.2 q.2.2) kvs xs ∧
   ∃ o es ep,h.get? a=some o∧o.ExactDict∧o.data=.dict es ep∧es.toList=xs.map (entryOfKey (tupleKind (gE P w)))∧(xs.map (·.1)).Nodup
 | .set S n=>h.SetOf (intKind P w) a S n
 | .ins C dx fs=>H dx=some (.own a)∧fs.length≤1000∧dx≠a∧h.get? a=some (PySem.W.instObj C dx) ∧
   ∃ mA,h.Ns1 dx mA∧(∀ f,RelO (fs.lookup f) (mA f))∧PySem.Within mA (fs.map (·.1))
 | .own _=>∃ o,h.get? a=some o
 | .xd fs=>∃ mA,h.Ns1 a mA∧∀ f,RelO (fs.lookup f) (mA f)
 | .rng lo hi=>∃ t u v,h.get? a=some { cls:=.type "range",data:=.fields #[.int lo t,.int hi u,.int 1 v] }
 | .frz o u=>h.get? a=some o∧ObjOk H h a u
 | .tbl ps=>h.get? a=some { cls:=.none,data:=.fields ps }
 | .met f x=>h.get? a=some (PySem.W.methodObj (.ref f) (.ref x))
 | .ext φ=>φ h∧(∃ o,h.get? a=some o)∧∀ h1 h2:Heap,φ h1→(∀ o,h1.get? a=some o→h2.get? a=some o)→φ h2
def HOk (H:Hp) (h:Heap):Prop:=∀ a o,H a=some o→ObjOk P w H h a o
end
section
variable {P:Program}{w:World}{H H':Hp}{h h':Heap}{a:Addr}{o:HO}
theorem ObjOk.lt (x:ObjOk P w H h a o):a < h.objs.size:=by
 cases o with
 | lst xs=>obtain ⟨_,_,_,_,e⟩:=x;exact Heap.lt_size e
 | tup xs=>obtain ⟨_,_,_,p⟩:=x;exact p.lt
 | dK kvs=>obtain ⟨_,_,_,_,o,_,_,e,_⟩:=x;exact Heap.lt_size e
 | dT kvs=>obtain ⟨_,_,_,_,o,_,_,e,_⟩:=x;exact Heap.lt_size e
 | set S n=>obtain ⟨o,_,_,_,e,_⟩:=x;exact Heap.lt_size e
 | ins C dx fs=>obtain ⟨_,_,_,e,_⟩:=x;exact Heap.lt_size e
 | own y=>obtain ⟨_,e⟩:=x;exact Heap.lt_size e
 | xd fs=>obtain ⟨_,⟨_,_,_,e,_⟩,_⟩:=x;exact Heap.lt_size e
 | rng lo hi=>obtain ⟨_,_,_,e⟩:=x;exact Heap.lt_size e
 | frz ob u=>obtain ⟨e,_⟩:=x;exact Heap.lt_size e
 | tbl ps=>exact Heap.lt_size (show h.get? a=some _ from x)
 | met f y=>exact Heap.lt_size (show h.get? a=some _ from x)
 | ext φ=>obtain ⟨_,⟨_,e⟩,_⟩:=x;exact Heap.lt_size e
theorem Paired.mapP {α β:Type}{F G:α→β→Prop}:∀ {l₁:List α}{l₂:List β},Paired F l₁ l₂→(∀ a b,F a b→G a b)→Paired G l₁ l₂
 | _,_,.nil,_=>.nil
 | _,_,.cons r t,f=>.cons (f _ _ r) (Paired.mapP t f)
theorem ObjOk.stay (x:ObjOk P w H h a o) (k:∀ b u,(b=a∨H b=some (.own a))→h.get? b=some u→h'.get? b=some u)
  (ho:∀ b,H b=some (.own a)→H' b=some (.own a)) (ht:∀ b xs,H b=some (.tup xs)→H' b=some (.tup xs)):ObjOk P w H' h' a o:=by
 induction o with
 | lst xs=>obtain ⟨z,its,n,r,e⟩:=x;exact ⟨z,its,n,r,k _ _ (.inl rfl) e⟩
 | tup xs=>obtain ⟨z,its,r,ob,e,c⟩:=x;exact ⟨z,its,r,ob,k _ _ (.inl rfl) e,c⟩
 | dK kvs=>obtain ⟨z,y,vs,r,ob,es,ep,e,c⟩:=x;exact ⟨z,y,vs,r,ob,es,ep,k _ _ (.inl rfl) e,c⟩
 | dT kvs=>
  obtain ⟨z,y,xs,r,ob,es,ep,e,c⟩:=x
  exact ⟨z,y,xs,Paired.mapP r fun p q z=>⟨z.1,ht _ _ z.2.1,z.2.2⟩,ob,es,ep,k _ _ (.inl rfl) e,c⟩
 | set S n=>obtain ⟨ob,es,ep,t,e,c⟩:=x;exact ⟨ob,es,ep,t,k _ _ (.inl rfl) e,c⟩
 | ins C dx fs=>
  obtain ⟨d,z,ne,e,mA,⟨od,es,ep,e2,c⟩,r⟩:=x
  exact ⟨ho _ d,z,ne,k _ _ (.inl rfl) e,mA,⟨od,es,ep,k _ _ (.inr d) e2,c⟩,r⟩
 | own y=>obtain ⟨ob,e⟩:=x;exact ⟨ob,k _ _ (.inl rfl) e⟩
 | xd fs=>obtain ⟨mA,⟨od,es,ep,e,c⟩,r⟩:=x;exact ⟨mA,⟨od,es,ep,k _ _ (.inl rfl) e,c⟩,r⟩
 | rng lo hi=>obtain ⟨t,u,v,e⟩:=x;exact ⟨t,u,v,k _ _ (.inl rfl) e⟩
 | frz ob u ih=>obtain ⟨e,q⟩:=x;exact ⟨k _ _ (.inl rfl) e,ih q⟩
 | tbl ps=>
  have e:h.get? a=some { cls:=.none,data:=.fields ps }:=x
  show h'.get? a=some { cls:=.none,data:=.fields ps }
  exact k a _ (.inl rfl) e
 | met f y=>
  have e:h.get? a=some (PySem.W.methodObj (.ref f) (.ref y)):=x
  show h'.get? a=some (PySem.W.methodObj (.ref f) (.ref y))
  exact k a _ (.inl rfl) e
 | ext φ=>obtain ⟨p,⟨o,e⟩,st⟩:=x;exact ⟨st _ _ p fun o q=>k _ _ (.inl rfl) q,⟨o,k _ _ (.inl rfl) e⟩,st⟩
theorem HOk.lt (x:HOk P w H h) (e:H a=some o):a < h.objs.size:=(x a o e).lt
theorem HOk.fresh (x:HOk P w H h) (e:h.objs.size≤a):H a=none:=by
 cases q:H a with
 | none=>rfl
 | some u=>exact absurd (Nat.lt_of_lt_of_le (x.lt q) e) (Nat.lt_irrefl _)
theorem HOk.kept (x:HOk P w H h) (k:∀ b u,h.get? b=some u→h'.get? b=some u):HOk P w H h':=fun a o e=>
 (x a o e).stay (fun b u _ q=>k b u q) (fun _ q=>q) fun _ _ q=>q
theorem HOk.laid (x:HOk P w H h) (k:∀ b u,h.get? b=some u→h'.get? b=some u) (hp:h.objs.size≤a) (new:ObjOk P w (upd H a o) h' a o):HOk P w (upd H a o) h':=fun b u e=>by
 have hn:=x.fresh hp
 by_cases hb:b=a
 ·subst hb;rw [d9] at e;cases e;exact new
 ·rw [d8 hb] at e
  exact (x b u e).stay (fun c v _ q=>k c v q) (fun c q=>by rw [d8 (dC q hn)];exact q) fun c xs q=>by rw [d8 (dC q hn)];exact q
end
def Rd (H:Hp) (a:Addr) (u:HO):Prop:=H a=some u∨∃ o,H a=some (.frz o u)
theorem Rd.ok {P:Program}{w:World}{H:Hp}{h:Heap}{a:Addr}{u:HO} (r:Rd H a u) (x:HOk P w H h):ObjOk P w H h a u:=by
 rcases r with r | ⟨o,r⟩
 ·exact x a u r
 ·obtain ⟨_,q⟩:=x a _ r
  exact q
def Mut:Option HO→Prop
 | some (.lst _)=>True
 | some (.dK _)=>True
 | some (.dT _)=>True
 | some (.set _ _)=>True
 | some (.ins _ _ _)=>True
 | some (.ext _)=>True
 | _=>False
section
variable {P:Program}{w:World}{H:Hp}{h h':Heap}{x e:Addr}{o':HO}
theorem HOk.write (ok:HOk P w H h) (mu:Mut (H x)) (he:e=x∨H e=some (.own x)) (k:∀ b u,b≠e→h.get? b=some u→h'.get? b=some u) (heo:∃ u,h'.get? e=some u)
  (new:ObjOk P w (upd H x o') h' x o'):HOk P w (upd H x o') h':=fun b u q=>by
 have nown:∀ c y,H c=some (.own y)→c≠x:=fun c y r z=>by subst z;rw [r] at mu;exact mu
 have ntup:∀ c xs,H c=some (.tup xs)→c≠x:=fun c xs r z=>by subst z;rw [r] at mu;exact mu
 by_cases hb:b=x
 ·subst hb;rw [d9] at q;cases q;exact new
 ·rw [d8 hb] at q
  by_cases hbe:b=e
  ·have q':H b=some (.own x):=by
    rcases he with z | z
    ·exact absurd (hbe.trans z) hb
    ·rw [hbe];exact z
   rw [q] at q';cases q'
   obtain ⟨v,hv⟩:=heo
   exact ⟨v,by rw [hbe];exact hv⟩
  ·refine (ok b u q).stay (fun c v hc r=>k c v ?_ r) (fun c r=>by rw [d8 (nown c b r)];exact r) fun c xs r=>by rw [d8 (ntup c xs r)];exact r
   rcases hc with rfl | hc
   ·exact hbe
   ·rintro rfl
    rcases he with z | z
    ·exact nown c b hc z
    ·rw [hc] at z;cases z;exact hb rfl
end
structure Un (fs ex:List Addr) (H H':Hp) (h h':Heap):Prop where
 keep:∀ b o,h.get? b=some o→H b=none→b∉fs→b∉ex→h'.get? b=some o
 slot:∀ b o,h.get? b=some o→H b=none→b∈fs→b∉ex→∃ sl,h'.get? b=some { o with slots:=sl }
 free:∀ b o,h.get? b=some o→H b=none→b∉ex→H' b=none
 there:∀ b o,h.get? b=some o→b∉ex→∃ o',h'.get? b=some o'
 tups:∀ b xs,H b=some (.tup xs)→H' b=some (.tup xs)
 frzs:∀ b o u,H b=some (.frz o u)→H' b=some (.frz o u)
 tbls:∀ b ps,H b=some (.tbl ps)→∃ more,H' b=some (.tbl (ps++more))
section
variable {fs fs' ex ex':List Addr}{H H1 H2:Hp}{h h1 h2 h':Heap}{a x e:Addr}{o:HO}
theorem Un.any (u:Un fs ex H H1 h h1) {b:Addr}{ob:Obj} (q:h.get? b=some ob) (n:H b=none) (hx:b∉ex):∃ sl,h1.get? b=some { ob with slots:=sl }:=by
 by_cases hb:b∈fs
 ·exact u.slot b ob q n hb hx
 ·exact ⟨ob.slots,u.keep b ob q n hb hx⟩
theorem Un.kept (k:∀ b u,h.get? b=some u→h'.get? b=some u):Un fs ex H H h h':=
 ⟨fun b ob q _ _ _=>k b ob q,fun b ob q _ _ _=>⟨ob.slots,k b ob q⟩,fun _ _ _ n _=>n,fun b ob q _=>⟨ob,k b ob q⟩,fun _ _ q=>q,fun _ _ _ q=>q,fun _ ps q=>⟨#[],by rw [q];simp⟩⟩
theorem Un.refl:Un fs ex H H h h:=Un.kept fun _ _ q=>q
theorem Un.laid (k:∀ b u,h.get? b=some u→h'.get? b=some u) (hp:h.objs.size≤a) (hn:H a=none):Un fs ex H (upd H a o) h h' where
 keep:=fun b u q _ _ _=>k b u q
 slot:=fun b u q _ _ _=>⟨u.slots,k b u q⟩
 free:=fun b u q n _=>by rw [d8 (Nat.ne_of_lt (Nat.lt_of_lt_of_le (Heap.lt_size q) hp))];exact n
 there:=fun b u q _=>⟨u,k b u q⟩
 tups:=fun b xs q=>by rw [d8 (dC q hn)];exact q
 frzs:=fun b u xs q=>by rw [d8 (dC q hn)];exact q
 tbls:=fun b ps q=>⟨#[],by rw [d8 (dC q hn),q];simp⟩
theorem Un.write (mu:Mut (H x)) (he:e=x∨H e=some (.own x)) (k:∀ b u,b≠e→h.get? b=some u→h'.get? b=some u) (heo:∃ u,h'.get? e=some u):Un fs ex H (upd H x o) h h':=by
 have hx:∀ b,H b=none→b≠x:=fun b n z=>by subst z;rw [n] at mu;exact mu
 have hb:∀ b,H b=none→b≠e:=fun b n z=>by
  subst z
  rcases he with r | r
  ·exact hx b n r
  ·rw [n] at r;cases r
 have hm:∀ b u,H b=some u→¬ Mut (some u)→b≠x:=fun b u q nm z=>by subst z;rw [q] at mu;exact nm mu
 refine ⟨fun b u q n _ _=>k b u (hb b n) q,fun b u q n _ _=>⟨u.slots,k b u (hb b n) q⟩,fun b u q n _=>by rw [d8 (hx b n)];exact n,fun b u q _=>?_,
  fun b xs q=>by rw [d8 (hm b _ q fun z=>z)];exact q,fun b u xs q=>by rw [d8 (hm b _ q fun z=>z)];exact q,fun b ps q=>⟨#[],by rw [d8 (hm b _ q fun z=>z),q];simp⟩⟩
 by_cases hbe:b=e
 ·subst hbe;exact heo
 ·exact ⟨u,k b u hbe q⟩
end
def trk (h:Heap) (H:Hp):List Addr:=(List.range h.objs.size).filter fun a=>(H a).isSome
def hidT (h:Heap) (H:Hp):Heap:=PySem.W.hideAll h (trk h H)
theorem dBy (h:Heap) (H:Hp):(hidT h H).objs.size=h.objs.size:=PySem.W.hideAll_size _ _
theorem vV {h:Heap}{H:Hp}{b:Addr}{o:Obj} (e:h.get? b=some o) (n:H b=none):(hidT h H).get? b=some o:=
 PySem.W.hideAll_get _ e fun hm=>by
  have q:(H b).isSome=true:=(List.mem_filter.mp hm).2
  rw [n] at q;simp at q
theorem dEZ {h:Heap}{H:Hp}{b:Addr}{o:Obj} (e:(hidT h H).get? b=some o):h.get? b=some o∧H b=none:=by
 have e':h.get? b=some o:=PySem.W.of_hideAll (trk h H) e
 refine ⟨e',?_⟩
 cases q:H b with
 | none=>rfl
 | some x=>
  have hm:b∈trk h H:=List.mem_filter.mpr ⟨List.mem_range.mpr (Heap.lt_size e'),by simp [q]⟩
  have z:(hidT h H).get? b=none:=PySem.W.hideAll_none (trk h H) hm
  rw [z] at e;cases e
end L2
namespace L2
open PySem PySem.Spec PyProof.Rows
structure Mod (K:PySem.W.Frag) (mg:Str→Option Value) (base:Heap):Prop where
 kin:K.In base
 glob:base.Ns mainGlobals mg
 blt:∃ mb,base.Ns builtinsNs mb∧∀ x:Str,x≠"__name__"→mb x=bootBuiltins x
 nolimit:base.NoLimit
structure Cx where
 prog:Program
 w:World
 K:PySem.W.Frag
 mg:Str→Option Value
 base:Heap
 A:Around
 N:List Str
 s_0:Shared
 H_0:Hp
 env:Env
 outer:List Env
 stack:List Env
 ex:List Addr
 fn:Str→Bool
 calm:Bool
 pn:List (Addr×Obj)
 xe:Value→Shared→Prop
def frs (l:List Env):List Addr:=l.filterMap (·.frame)
abbrev Cx.fs (X:Cx):List Addr:=frs X.outer
def Vis (sc:Scope) (x:Str):Prop:=sc.names.lookup x=some .local∨sc.names.lookup x=some .cell∨sc.names.lookup x=some .free
def Loc (sc:Scope) (x:Str):Prop:=sc.names.lookup x=some .local∨sc.names.lookup x=some .cell
def Look (env:Env) (h:Heap) (m:Str→Option Value) (x:Str) (u:Value):Prop:=
 (env.kindOf x=some .local∧m x=some u)∨((env.kindOf x=some .cell∨env.kindOf x=some .free)∧∃ c,env.cells.lookup x=some c∧h.IsCell c (some u))
structure Cx.Ok (X:Cx):Prop where
 mod:Mod X.K X.mg X.base
 kind:X.env.scope.kind=.function
 glob:X.env.globals=mainGlobals
 blt:X.env.builtins=builtinsNs
 above:X.s_0.heap.objs.size≤X.env.locals
 inj:∀ x y c,X.env.cells.lookup x=some c→X.env.cells.lookup y=some c→x=y
 has:∀ x,(X.env.kindOf x=some .cell∨X.env.kindOf x=some .free)→∃ c,X.env.cells.lookup x=some c
 cab:∀ x c,X.fn x=true→X.env.cells.lookup x=some c→X.s_0.heap.objs.size≤c
 hd:X.calm=true→X.A.handled=none
 frames:X.A.frames=some X.stack
 stk:X.stack=X.outer∨(X.stack=X.env::X.outer∧X.env.frame=some X.env.locals)
 exf:∀ b∈X.ex,b≠X.env.locals∧∀ x c,X.env.cells.lookup x=some c→c≠b
 bs:∀ b o,X.base.get? b=some o→X.s_0.heap.get? b=some o∧X.H_0 b=none
 bsz:X.base.objs.size≤X.s_0.heap.objs.size
 noex:∀ b o,X.base.get? b=some o→b∉X.ex
 exfs:∀ b∈X.ex,b∉X.fs
 funs:X.s_0.heap.FunFrames X.base X.outer
 frf:∀ b∈X.fs,X.H_0 b=none
structure Inv (X:Cx) (pins:List (Addr×Obj)) (σ:List (Option V)) (H:Hp) (s:Shared):Prop where
 ok:X.Ok
 os:s.os=X.s_0.os
 bare:AllBare s.gens
 base:Un X.fs X.ex X.H_0 H X.s_0.heap s.heap
 loc:∃ m,s.heap.Ns X.env.locals m∧∀ (i:Nat) (x:Str) (v:V),X.N[i]?=some x→σ[i]?=some (some v)→Vis X.env.scope x→∃ u,RelV v u∧Look X.env s.heap m x u
 cell:∀ x c,X.env.cells.lookup x=some c→∃ v,s.heap.IsCell c v
 free:H X.env.locals=none
 freeC:∀ x c,X.env.cells.lookup x=some c→H c=none
 pin:∀ p∈X.pn++pins,s.heap.get? p.1=some p.2∧H p.1=none∧p.1≠X.env.locals∧p.1∉X.fs∧∀ v,p.2.data≠.cell v
 hok:HOk X.prog X.w H s.heap
 len:σ.length=X.N.length
section
variable {X:Cx}{pins:List (Addr×Obj)}{σ:List (Option V)}{H H':Hp}{s:Shared}{h':Heap}
theorem Cx.Ok.nofr (ok:X.Ok) {b:Addr}{o:Obj} (e:X.base.get? b=some o):b∉X.fs:=fun hb=>by
 have:=(ok.funs.mem hb).1
 rw [e] at this;cases this
theorem Inv.bs (I:Inv X pins σ H s):∀ b o,X.base.get? b=some o→s.heap.get? b=some o∧H b=none:=fun b o e=>
 ⟨I.base.keep b o (I.ok.bs b o e).1 (I.ok.bs b o e).2 (I.ok.nofr e) (I.ok.noex b o e),I.base.free b o (I.ok.bs b o e).1 (I.ok.bs b o e).2 (I.ok.noex b o e)⟩
theorem Inv.bk (I:Inv X pins σ H s):∀ b o,X.base.get? b=some o→s.heap.get? b=some o:=fun b o e=>(I.bs b o e).1
theorem Inv.mod (I:Inv X pins σ H s):Mod X.K X.mg X.base:=I.ok.mod
theorem Inv.kIn (I:Inv X pins σ H s):X.K.In s.heap:=I.ok.mod.kin.keeps I.bk
theorem Inv.lt (I:Inv X pins σ H s):X.env.locals < s.heap.objs.size:=let ⟨_,hn,_⟩:=I.loc;hn.lt
theorem Inv.sz (I:Inv X pins σ H s):X.s_0.heap.objs.size≤s.heap.objs.size:=Nat.le_trans I.ok.above (Nat.le_of_lt I.lt)
theorem Inv.nofs (I:Inv X pins σ H s) {a:Addr} (h:s.heap.objs.size≤a):a∉X.fs:=fun hb=>by
 obtain ⟨_,o,ho,_⟩:=I.ok.funs.mem hb
 exact absurd (Nat.lt_of_lt_of_le (Heap.lt_size ho) (Nat.le_trans I.sz h)) (Nat.lt_irrefl _)
theorem Inv.cne (I:Inv X pins σ H s):∀ x c,X.env.cells.lookup x=some c→c≠X.env.locals:=fun x c e z=>by
 obtain ⟨v,o,ho,hd⟩:=I.cell x c e
 obtain ⟨m,⟨o',es,ep,ho',hd',_⟩,_⟩:=I.loc
 rw [z,ho'] at ho;cases ho;rw [hd'] at hd;cases hd
theorem Inv.funs (I:Inv X pins σ H s):s.heap.FunFrames X.base X.outer:=by
 have all:∀ (l:List Env),(∀ b∈frs l,b∈X.fs)→X.s_0.heap.FunFrames X.base l→s.heap.FunFrames X.base l:=by
  intro l
  induction l with
  | nil=>intro _ _;trivial
  | cons env r ih=>
   intro hs hl
   obtain ⟨hk,⟨L,o,hf,hn,ho,hd⟩,hr⟩:=hl
   have hL:L∈X.fs:=hs L (by unfold frs;rw [List.filterMap_cons,hf];exact List.mem_cons_self)
   obtain ⟨sl,e⟩:=I.base.slot L o ho (I.ok.frf L hL) hL fun z=>I.ok.exfs L z hL
   exact ⟨hk,⟨L,_,hf,hn,e,hd⟩,ih (fun b hb=>hs b (by unfold frs;rw [List.filterMap_cons,hf];exact List.mem_cons_of_mem _ hb)) hr⟩
 exact all X.outer (fun _ hb=>hb) I.ok.funs
theorem Inv.stack (I:Inv X pins σ H s):s.heap.FunFrames X.base X.stack:=by
 rcases I.ok.stk with e | ⟨e,hf⟩
 ·rw [e];exact I.funs
 ·rw [e]
  obtain ⟨m,hn,_⟩:=I.loc
  refine .cons (by rw [I.ok.kind];decide) hf hn ?_ I.funs
  exact Heap.get?_none_of_le (Nat.le_trans I.ok.bsz I.ok.above)
theorem Inv.stkSub (I:Inv X pins σ H s):∀ b∈frs X.stack,b∈X.env.locals::X.fs:=fun b hb=>by
 rcases I.ok.stk with e | ⟨e,hf⟩
 ·rw [e] at hb;exact List.mem_cons_of_mem _ hb
 ·rw [e] at hb
  unfold frs at hb
  rw [List.filterMap_cons,hf] at hb
  exact hb
theorem Inv.stkFree (I:Inv X pins σ H s):∀ b∈frs X.stack,H b=none:=fun b hb=>by
 rcases List.mem_cons.mp (I.stkSub b hb) with e | hb
 ·rw [e];exact I.free
 ·obtain ⟨_,o,ho,_⟩:=I.ok.funs.mem hb
  exact I.base.free b o ho (I.ok.frf b hb) fun z=>I.ok.exfs b z hb
theorem Inv.step {g':Array GenState}{t':Nat}{d':Drawn}{ch:List Addr} (I:Inv X pins σ H s)
  (hch:∀ b∈ch,(b∈X.ex∨X.s_0.heap.objs.size≤b)∧b≠X.env.locals∧(∀ x c,X.env.cells.lookup x=some c→c≠b)∧∀ p∈X.pn++pins,p.1≠b)
  (keep:∀ b o,b≠X.env.locals→b∉X.fs→b∉ch→s.heap.get? b=some o→H b=none→h'.get? b=some o)
  (slot:∀ b o,b≠X.env.locals→b∈X.fs→b∉ch→s.heap.get? b=some o→H b=none→∃ sl,h'.get? b=some { o with slots:=sl }) (free:∀ b o,b∉ch→s.heap.get? b=some o→H b=none→H' b=none)
  (there:∀ b o,b∉ch→s.heap.get? b=some o→∃ o',h'.get? b=some o')
  (tups:∀ b xs,H b=some (.tup xs)→H' b=some (.tup xs)) (frzs:∀ b o u,H b=some (.frz o u)→H' b=some (.frz o u)) (tbls:∀ b ps,H b=some (.tbl ps)→∃ more,H' b=some (.tbl (ps++more)))
  (ns:∀ m,s.heap.Ns X.env.locals m→h'.Ns X.env.locals m) (hok:HOk X.prog X.w H' h') (hg:AllBare g') :
  Inv X pins σ H' { s with heap:=h',gens:=g',drawn:=d',toks:=t' }:=by
 have neL:∀ b o,X.s_0.heap.get? b=some o→b≠X.env.locals:=fun b o e=>Nat.ne_of_lt (Nat.lt_of_lt_of_le (Heap.lt_size e) I.ok.above)
 have neC:∀ b o,X.s_0.heap.get? b=some o→b∉X.ex→b∉ch:=fun b o e hx hb=>by
  rcases (hch b hb).1 with z | z
  ·exact hx z
  ·exact absurd (Nat.lt_of_lt_of_le (Heap.lt_size e) z) (Nat.lt_irrefl _)
 have cellK:∀ x c,X.env.cells.lookup x=some c→∀ v,s.heap.IsCell c v→h'.IsCell c v:=fun x c e v ⟨o,ho,hd⟩=>by
  have nch:c∉ch:=fun z=>(hch c z).2.2.1 x c e rfl
  by_cases hc:c∈X.fs
  ·obtain ⟨sl,q⟩:=slot c o (I.cne x c e) hc nch ho (I.freeC x c e)
   exact ⟨_,q,hd⟩
  ·exact ⟨o,keep c o (I.cne x c e) hc nch ho (I.freeC x c e),hd⟩
 refine ⟨I.ok,I.os,hg,⟨fun b o e n hb hx=>?_,fun b o e n hb hx=>?_,fun b o e n hx=>?_,fun b o e hx=>?_,fun b xs e=>tups b xs (I.base.tups b xs e),fun b o xs e=>frzs b o xs (I.base.frzs b o xs e),fun b ps e=>?_⟩,?_,fun x c e=>?_,?_,fun x c e=>?_,fun p hp=>?_,hok,I.len⟩
 ·exact keep b o (neL b o e) hb (neC b o e hx) (I.base.keep b o e n hb hx) (I.base.free b o e n hx)
 ·obtain ⟨sl,e1⟩:=I.base.slot b o e n hb hx
  obtain ⟨sl',e2⟩:=slot b _ (neL b o e) hb (neC b o e hx) e1 (I.base.free b o e n hx)
  exact ⟨sl',e2⟩
 ·obtain ⟨o',e1⟩:=I.base.there b o e hx
  exact free b o' (neC b o e hx) e1 (I.base.free b o e n hx)
 ·obtain ⟨o',e1⟩:=I.base.there b o e hx
  exact there b o' (neC b o e hx) e1
 ·obtain ⟨m1,e1⟩:=I.base.tbls b ps e
  obtain ⟨m2,e2⟩:=tbls b _ e1
  exact ⟨m1++m2,by rw [e2,Array.append_assoc]⟩
 ·obtain ⟨m,hn,hl⟩:=I.loc
  refine ⟨m,ns m hn,fun i x v e1 e2 e3=>?_⟩
  obtain ⟨u,r,l⟩:=hl i x v e1 e2 e3
  refine ⟨u,r,?_⟩
  rcases l with l | ⟨k,c,e,z⟩
  ·exact .inl l
  ·exact .inr ⟨k,c,e,cellK x c e _ z⟩
 ·obtain ⟨v,z⟩:=I.cell x c e
  exact ⟨v,cellK x c e v z⟩
 ·obtain ⟨m,⟨o,_,_,ho,_⟩,_⟩:=I.loc
  exact free _ o (fun z=>(hch _ z).2.1 rfl) ho I.free
 ·obtain ⟨v,o,ho,hd⟩:=I.cell x c e
  exact free c o (fun z=>(hch c z).2.2.1 x c e rfl) ho (I.freeC x c e)
 ·obtain ⟨e,n,ne,nf,d⟩:=I.pin p hp
  have nch:p.1∉ch:=fun z=>(hch p.1 z).2.2.2 p hp rfl
  exact ⟨keep p.1 p.2 ne nf nch e n,free p.1 p.2 nch e n,ne,nf,d⟩
theorem Inv.un {t':Nat} (I:Inv X pins σ H s) (u:Un X.fs [] H H' s.heap h') (hok:HOk X.prog X.w H' h'):Inv X pins σ H' { s with heap:=h',toks:=t' }:=by
 obtain ⟨m,⟨o,es,ep,ho,r⟩,_⟩:=id I.loc
 obtain ⟨sl,hL⟩:=u.any ho I.free (by simp)
 exact I.step (g':=s.gens) (d':=s.drawn) (ch:=[]) (fun _ z=>nomatch z) (fun b o _ hb _ e n=>u.keep b o e n hb (by simp)) (fun b o _ hb _ e n=>u.slot b o e n hb (by simp)) (fun b o _ e n=>u.free b o e n (by simp)) (fun b o _ e=>u.there b o e (by simp)) u.tups u.frzs u.tbls (fun m' hm=>by
  obtain ⟨o',es',ep',ho',r'⟩:=hm
  rw [ho] at ho';cases ho'
  exact ⟨_,es',ep',hL,r'⟩) hok I.bare
theorem Inv.call {g':Array GenState}{t':Nat}{d':Drawn}{ch:List Addr} (I:Inv X pins σ H s) (u:Un (frs X.stack) ch H H' s.heap h') (hok:HOk X.prog X.w H' h') (hg:AllBare g')
  (hch:∀ b∈ch,(b∈X.ex∨X.s_0.heap.objs.size≤b)∧b≠X.env.locals∧(∀ x c,X.env.cells.lookup x=some c→c≠b)∧∀ p∈X.pn++pins,p.1≠b) :
  Inv X pins σ H' { s with heap:=h',gens:=g',drawn:=d',toks:=t' }:=by
 obtain ⟨m,⟨o,es,ep,ho,r⟩,_⟩:=id I.loc
 obtain ⟨sl,hL⟩:=u.any ho I.free fun z=>(hch _ z).2.1 rfl
 exact I.step (ch:=ch) hch (fun b o hL hb hc e n=>u.keep b o e n (fun z=>(List.mem_cons.mp (I.stkSub b z)).elim hL hb) hc) (fun b o _ _ hc e n=>u.any e n hc) (fun b o hc e n=>u.free b o e n hc) (fun b o hc e=>u.there b o e hc) u.tups u.frzs u.tbls (fun m' hm=>by
  obtain ⟨o',es',ep',ho',r'⟩:=hm
  rw [ho] at ho';cases ho'
  exact ⟨_,es',ep',hL,r'⟩) hok hg
theorem Inv.turned {t':Nat}{it:Addr} (I:Inv X pins σ H s) (k:∀ b o,b≠it→s.heap.get? b=some o→h'.get? b=some o) (hn:H it=none) (hL:it≠X.env.locals)
  (h1:it∈X.ex∨X.s_0.heap.objs.size≤it) (h2:∀ x c,X.env.cells.lookup x=some c→c≠it) (h3:∀ p∈X.pn++pins,p.1≠it):Inv X pins σ H { s with heap:=h',toks:=t' }:=by
 have nit:∀ b u,H b=some u→b≠it:=fun b u e z=>by rw [z,hn] at e;cases e
 refine I.step (g':=s.gens) (d':=s.drawn) (ch:=[it]) (fun b hb=>?_) (fun b o _ _ hc e _=>k b o (fun z=>hc (by simp [z])) e) (fun b o _ _ hc e _=>⟨o.slots,k b o (fun z=>hc (by simp [z])) e⟩) (fun _ _ _ _ n=>n)
  (fun b o hc e=>⟨o,k b o (fun z=>hc (by simp [z])) e⟩) (fun _ _ e=>e) (fun _ _ _ e=>e) (fun b ps e=>⟨#[],by rw [e];simp⟩) (fun m hm=>?_) (fun b u e=>?_) I.bare
 ·have e:b=it:=by simpa using hb
  subst e
  exact ⟨h1,hL,h2,h3⟩
 ·obtain ⟨o,es,ep,ho,r⟩:=hm
  exact ⟨o,es,ep,k _ o (Ne.symm hL) ho,r⟩
 ·refine (I.hok b u e).stay (fun c v hc q=>k c v ?_ q) (fun _ q=>q) fun _ _ q=>q
  rcases hc with z | z
  ·rw [z];exact nit b u e
  ·exact nit c _ z
theorem Inv.tok (I:Inv X pins σ H s) (t:Nat):Inv X pins σ H { s with toks:=t }:=I.un (h':=s.heap) (t':=t) Un.refl I.hok
theorem Inv.kept {t':Nat} (I:Inv X pins σ H s) (k:∀ b u,s.heap.get? b=some u→h'.get? b=some u):Inv X pins σ H { s with heap:=h',toks:=t' }:=I.un (Un.kept k) (I.hok.kept k)
theorem Inv.laid {a:Addr}{o:HO}{t':Nat} (I:Inv X pins σ H s) (k:∀ b u,s.heap.get? b=some u→h'.get? b=some u) (hp:s.heap.objs.size≤a) (new:ObjOk X.prog X.w (upd H a o) h' a o) :
  Inv X pins σ (upd H a o) { s with heap:=h',toks:=t' }:=I.un (Un.laid k hp (I.hok.fresh hp)) (I.hok.laid k hp new)
theorem Inv.write {x e:Addr}{o:HO}{t':Nat} (I:Inv X pins σ H s) (mu:Mut (H x)) (he:e=x∨H e=some (.own x)) (k:∀ b u,b≠e→s.heap.get? b=some u→h'.get? b=some u) (heo:∃ u,h'.get? e=some u)
  (new:ObjOk X.prog X.w (upd H x o) h' x o):Inv X pins σ (upd H x o) { s with heap:=h',toks:=t' }:=I.un (Un.write mu he k heo) (I.hok.write mu he k heo new)
theorem Inv.weak {σ':List (Option V)} (I:Inv X pins σ H s) (hl:σ'.length=σ.length) (w:∀ (i:Nat) v,σ'[i]?=some (some v)→σ[i]?=some (some v)):Inv X pins σ' H s:=
 ⟨I.ok,I.os,I.bare,I.base,let ⟨m,hn,hl'⟩:=I.loc;⟨m,hn,fun i x v e1 e2 e3=>hl' i x v e1 (w i v e2) e3⟩,I.cell,I.free,I.freeC,I.pin,I.hok,hl.trans I.len⟩
theorem Inv.pins_of {pins':List (Addr×Obj)} (I:Inv X pins σ H s) (h:∀ p∈pins',s.heap.get? p.1=some p.2∧H p.1=none∧p.1≠X.env.locals∧p.1∉X.fs∧∀ v,p.2.data≠.cell v):Inv X pins' σ H s:=
 ⟨I.ok,I.os,I.bare,I.base,I.loc,I.cell,I.free,I.freeC,fun p hp=>(List.mem_append.mp hp).elim (fun z=>I.pin p (List.mem_append_left _ z)) (h p),I.hok,I.len⟩
theorem yZ {N:List Str} (hN:N.Nodup) {i j:Nat}{x:Str} (a:N[i]?=some x) (b:N[j]?=some x):i=j:=by
 obtain ⟨h1,e1⟩:=List.getElem?_eq_some_iff.mp a
 obtain ⟨h2,e2⟩:=List.getElem?_eq_some_iff.mp b
 exact (List.getElem_inj hN).mp (e1.trans e2.symm)
theorem d4R {M:Model}{A:Around}{E:Value→Shared→Prop}{i:Nat}{x:Str}{v:V}{u:Value}{Q:Unit→Shared→Prop} (I:Inv X pins σ H s) (hN:X.N.Nodup) (hi:X.N[i]?=some x) (hx:Loc X.env.scope x) (r:RelV v u)
  (h:∀ s',Inv X pins (σ.set i (some v)) H s'→(∃ a,Heap.SameBut a s.heap s'.heap∧(a=X.env.locals∨X.env.cells.lookup x=some a))→Q () s') (hf:X.fn x=true∨X.env.scope.names.lookup x=some .local:=by first | exact .inl rfl | exact .inr rfl | assumption):wpAny M A (storeName X.env x u) Q E s:=by
 obtain ⟨m,hn,hl⟩:=id I.loc
 have hcls:(X.env.scope.kind==.class||(X.env.scope.kind==.module&&X.env.locals != X.env.globals))=false:=by rw [I.ok.kind];rfl
 have hiσ:i < σ.length:=by rw [I.len];exact (List.getElem?_eq_some_iff.mp hi).1
 have cne:=I.cne
 have tracked:∀ {a:Addr}{h':Heap},(∃ o,s.heap.get? a=some o∧H a=none)→Heap.SameBut a s.heap h'→HOk X.prog X.w H h':=fun {a h'} ha hs b ob e=>by
  obtain ⟨_,_,hfree⟩:=ha
  refine (I.hok b ob e).stay (fun c w' hc q=>(hs.2 c ?_).trans q) (fun _ q=>q) fun _ _ q=>q
  rintro rfl
  rcases hc with rfl | hc
  ·rw [hfree] at e;cases e
  ·rw [hfree] at hc;cases hc
 rcases hx with hk | hk
 ·refine wpAny_storeName_local hk hn (fun h' hn' hs=>?_) hcls
  obtain ⟨oL,_,_,hoL,_⟩:=id hn
  refine h _ ⟨I.ok,I.os,I.bare,⟨fun b o e n hb hx=>?_,fun b o e n hb hx=>?_,I.base.free,fun b o e hx=>?_,I.base.tups,I.base.frzs,I.base.tbls⟩,⟨_,hn',fun j y v' e1 e2 e3=>?_⟩,fun y c e=>?_,I.free,I.freeC,fun p hp=>?_,tracked ⟨oL,hoL,I.free⟩ hs,by simpa using I.len⟩ ⟨_,hs,.inl rfl⟩
  ·exact (hs.2 b (Nat.ne_of_lt (Nat.lt_of_lt_of_le (Heap.lt_size e) I.ok.above))).trans (I.base.keep b o e n hb hx)
  ·obtain ⟨sl,e1⟩:=I.base.slot b o e n hb hx
   exact ⟨sl,(hs.2 b (Nat.ne_of_lt (Nat.lt_of_lt_of_le (Heap.lt_size e) I.ok.above))).trans e1⟩
  ·obtain ⟨o',e1⟩:=I.base.there b o e hx
   exact ⟨o',(hs.2 b (Nat.ne_of_lt (Nat.lt_of_lt_of_le (Heap.lt_size e) I.ok.above))).trans e1⟩
  ·by_cases hj:j=i
   ·subst hj
    rw [hi] at e1;cases e1
    rw [List.getElem?_set_self hiσ] at e2
    cases e2
    exact ⟨u,r,.inl ⟨hk,by simp⟩⟩
   ·rw [List.getElem?_set_ne (Ne.symm hj)] at e2
    obtain ⟨u',r',q⟩:=hl j y v' e1 e2 e3
    refine ⟨u',r',?_⟩
    rcases q with ⟨k,e⟩ | ⟨k,c,e,z⟩
    ·refine .inl ⟨k,?_⟩
     have:y≠x:=fun e=>hj (yZ hN e1 (e▸hi))
     simp [this,e]
    ·exact .inr ⟨k,c,e,z.sameBut hs (cne y c e)⟩
  ·obtain ⟨w',z⟩:=I.cell y c e
   exact ⟨w',z.sameBut hs (cne y c e)⟩
  ·obtain ⟨e,n,ne,nf,d⟩:=I.pin p hp
   exact ⟨(hs.2 p.1 ne).trans e,n,ne,nf,d⟩
 ·have hfn:X.fn x=true:=by
   rcases hf with z | z
   ·exact z
   ·rw [z] at hk;cases hk
  obtain ⟨c,hc⟩:=I.ok.has x (.inl hk)
  obtain ⟨w',z⟩:=I.cell x c hc
  refine wpAny_storeName_cell I.ok.kind hk hc z (fun h' hc' hs=>?_)
  obtain ⟨oc,hoc,hocd⟩:=id z
  refine h { s with heap:=h' } ⟨I.ok,I.os,I.bare,⟨fun b o e n hb hx=>?_,fun b o e n hb hx=>?_,I.base.free,fun b o e hx=>?_,I.base.tups,I.base.frzs,I.base.tbls⟩,⟨m,hn.sameBut hs (Ne.symm (cne x c hc)),fun j y v' e1 e2 e3=>?_⟩,fun y c' e=>?_,I.free,I.freeC,fun p hp=>?_,tracked ⟨oc,hoc,I.freeC x c hc⟩ hs,by simpa using I.len⟩ ⟨c,hs,.inr hc⟩
  ·exact (hs.2 b (Nat.ne_of_lt (Nat.lt_of_lt_of_le (Heap.lt_size e) (I.ok.cab x c hfn hc)))).trans (I.base.keep b o e n hb hx)
  ·obtain ⟨sl,e1⟩:=I.base.slot b o e n hb hx
   exact ⟨sl,(hs.2 b (Nat.ne_of_lt (Nat.lt_of_lt_of_le (Heap.lt_size e) (I.ok.cab x c hfn hc)))).trans e1⟩
  ·obtain ⟨o',e1⟩:=I.base.there b o e hx
   exact ⟨o',(hs.2 b (Nat.ne_of_lt (Nat.lt_of_lt_of_le (Heap.lt_size e) (I.ok.cab x c hfn hc)))).trans e1⟩
  ·by_cases hj:j=i
   ·subst hj
    rw [hi] at e1;cases e1
    rw [List.getElem?_set_self hiσ] at e2
    cases e2
    exact ⟨u,r,.inr ⟨.inl hk,c,hc,hc'⟩⟩
   ·rw [List.getElem?_set_ne (Ne.symm hj)] at e2
    obtain ⟨u',r',q⟩:=hl j y v' e1 e2 e3
    refine ⟨u',r',?_⟩
    rcases q with q | ⟨k,c',e,z'⟩
    ·exact .inl q
    ·refine .inr ⟨k,c',e,z'.sameBut hs ?_⟩
     rintro rfl
     exact hj (yZ hN e1 (I.ok.inj _ _ _ e hc▸hi))
  ·by_cases hcc:c'=c
   ·subst hcc;exact ⟨_,hc'⟩
   ·obtain ⟨w2,z2⟩:=I.cell y c' e
    exact ⟨w2,z2.sameBut hs hcc⟩
  ·obtain ⟨e,n,ne,nf,d⟩:=I.pin p hp
   refine ⟨(hs.2 p.1 ?_).trans e,n,ne,nf,d⟩
   intro q
   rw [q,hoc] at e
   have q':oc=p.2:=Option.some.inj e
   exact d w' (by rw [←q'];exact hocd)
theorem vY {M:Model}{A:Around}{E:Value→Shared→Prop}{i:Nat}{x:Str}{v:V}{u:Value}{Q:Unit→Shared→Prop} (I:Inv X pins σ H s) (hN:X.N.Nodup) (hi:X.N[i]?=some x) (hx:Loc X.env.scope x) (r:RelV v u)
  (h:∀ s',Inv X pins (σ.set i (some v)) H s'→Q () s') (hf:X.fn x=true∨X.env.scope.names.lookup x=some .local:=by first | exact .inl rfl | exact .inr rfl | assumption):wpAny M A (storeName X.env x u) Q E s:=
 d4R I hN hi hx r (fun s' I' _=>h s' I') hf
theorem Inv.call' {s':Shared}{ch:List Addr} (I:Inv X pins σ H s) (ho:s'.os=s.os) (u:Un (frs X.stack) ch H H' s.heap s'.heap) (hok:HOk X.prog X.w H' s'.heap) (hg:AllBare s'.gens)
  (hch:∀ b∈ch,(b∈X.ex∨X.s_0.heap.objs.size≤b)∧b≠X.env.locals∧(∀ x c,X.env.cells.lookup x=some c→c≠b)∧∀ p∈X.pn++pins,p.1≠b):Inv X pins σ H' s':=by
 obtain ⟨h',g',d',t',o'⟩:=s'
 have e:o'=s.os:=ho
 subst e
 exact I.call (g':=g') (t':=t') (d':=d') u hok hg hch
end
abbrev XK:=Value→Option Addr→Hp→Prop
abbrev St:=List (Option V)
abbrev VK:=V→Hp→Prop
abbrev TE:=St→Hp→VK→Prop
abbrev TT:=St→Hp→(Bool→Hp→Prop)→Prop
abbrev TA:=St→Hp→(List V→Hp→Prop)→Prop
structure Ends where
 nx:St→Hp→Prop
 rt:VK
 bk:St→Hp→Prop:=fun _ _=>False
 ct:St→Hp→Prop:=fun _ _=>False
abbrev TS:=Ends→St→Hp→Prop
def EP (X:Cx) (pins:List (Addr×Obj)) (σ:St) (Q:VK) (u:Value) (s':Shared):Prop:=∃ v H',Inv X pins σ H' s'∧RelV v u∧Q v H'
def TP (X:Cx) (pins:List (Addr×Obj)) (σ:St) (Q:Bool→Hp→Prop) (b:Bool) (s':Shared):Prop:=∃ H',Inv X pins σ H' s'∧Q b H'
def AP (X:Cx) (pins:List (Addr×Obj)) (σ:St) (Q:List V→Hp→Prop) (us:List Value) (s':Shared):Prop:=∃ vs H',Inv X pins σ H' s'∧Vals vs us∧Q vs H'
def SP (X:Cx) (pins:List (Addr×Obj)) (D:Ends) (f:Flow) (s':Shared):Prop:=
 match f with
 | .next=>∃ σ' H',Inv X pins σ' H' s'∧D.nx σ' H'
 | .brk=>∃ σ' H',Inv X pins σ' H' s'∧D.bk σ' H'
 | .cont=>∃ σ' H',Inv X pins σ' H' s'∧D.ct σ' H'
 | .ret u=>∃ v σ' H',Inv X pins σ' H' s'∧RelV v u∧D.rt v H'
def PE (X:Cx) (e:Expr) (t:TE):Prop:=
 ∀ (pins:List (Addr×Obj)) (s:Shared) (σ:St) (H:Hp) (Q:VK),Inv X pins σ H s→t σ H Q→wpAny (model X.prog X.w) X.A (eval e X.env) (EP X pins σ Q) X.xe s
def PT (X:Cx) (e:Expr) (t:TT):Prop:=
 ∀ (pins:List (Addr×Obj)) (s:Shared) (σ:St) (H:Hp) (Q:Bool→Hp→Prop),Inv X pins σ H s→t σ H Q→wpAny (model X.prog X.w) X.A (isTrue e X.env (eval e X.env)) (TP X pins σ Q) X.xe s
def PW (X:Cx) (e:Expr) (t:TT):Prop:=
 ∀ (whole:Sem Value) (pins:List (Addr×Obj)) (s:Shared) (σ:St) (H:Hp) (Q:Bool→Hp→Prop),Inv X pins σ H s→t σ H Q→wpAny (model X.prog X.w) X.A (isTrue e X.env whole) (TP X pins σ Q) X.xe s
theorem PW.pt {X:Cx}{e:Expr}{t:TT} (h:PW X e t):PT X e t:=h _
def PA (X:Cx) (es:List Expr) (t:TA):Prop:=
 ∀ (pos:Pos) (pins:List (Addr×Obj)) (s:Shared) (σ:St) (H:Hp) (Q:List V→Hp→Prop),Inv X pins σ H s→t σ H Q→wpAny (model X.prog X.w) X.A (spliced (backTo pos (starEach es X.env))) (AP X pins σ Q) X.xe s
def PS (X:Cx) (st:Stmt) (t:TS):Prop:=
 ∀ (pins:List (Addr×Obj)) (s:Shared) (σ:St) (H:Hp) (D:Ends),Inv X pins σ H s→t D σ H→wpAny (model X.prog X.w) X.A (exec st X.env) (SP X pins D) X.xe s
def PSs (X:Cx) (st:List Stmt) (t:TS):Prop:=
 ∀ (pins:List (Addr×Obj)) (s:Shared) (σ:St) (H:Hp) (D:Ends),Inv X pins σ H s→t D σ H→wpAny (model X.prog X.w) X.A (execs st X.env) (SP X pins D) X.xe s
theorem thn {α:Type}{t:Sem α}{Q Q':α→Shared→Prop}{M:Model}{A:Around}{E:Value→Shared→Prop}{s:Shared} (h:wpAny M A t Q E s) (hQ:∀ a s,Q a s→Q' a s):wpAny M A t Q' E s:=wpAny_mono h hQ fun _ _ x=>x
end L2
namespace L2
open PySem PySem.Spec PyProof.Rows
section
variable {X:Cx}
def tVar (i:Nat):TE:=fun σ H Q=>∃ v,σ[i]?=some (some v)∧Q v H
def tC (v:V):TE:=fun _ H Q=>Q v H
theorem dBd {i:Nat}{x:Str}{pos:Pos} (hN:X.N[i]?=some x) (hv:Vis X.env.scope x) (hd:(x==("__debug__":Str))=false:=by decide) (hcd:(x==("__classdict__":Str))=false:=by decide):PE X (.Name x pos) (tVar i):=by
 intro pins s σ H Q I h
 obtain ⟨v,e,h⟩:=h
 obtain ⟨m,hn,hl⟩:=I.loc
 obtain ⟨u,r,l⟩:=hl i x v hN e hv
 have fin:EP X pins σ Q u s:=⟨v,H,I,r,h⟩
 rcases l with ⟨hk,hm⟩ | ⟨hk,c,hc,hcell⟩
 ·exact wpAny_Name (wpAny_loadName_local I.ok.kind hk hn hm fin) hd
 ·rcases hk with hk | hk
  ·exact wpAny_Name (wpAny_loadName_cell I.ok.kind hk hc hcell fin) hd
  ·exact wpAny_Name (wpAny_loadName_free I.ok.kind hk hc hcell fin hcd) hd
theorem dS {i j pos}:PE X (.Constant (.int i) j pos) (tC (.int i)):=fun _ _ _ H _ I h=>wpAny_Constant_int ⟨.int i,H,I.tok _,⟨_,rfl⟩,h⟩
theorem dBc {b j pos}:PE X (.Constant (.bool b) j pos) (tC (.bl b)):=fun _ _ _ H _ I h=>Constant_bool ⟨.bl b,H,I,rfl,h⟩
theorem gQ {x j pos}:PE X (.Constant (.str x) j pos) (tC (.str x)):=fun _ _ _ H _ I h=>Calls.Constant_str ⟨.str x,H,I.tok _,⟨_,rfl⟩,h⟩
def Gl (X:Cx) (x:Str):Prop:=X.env.kindOf x=some .globalImplicit
theorem kM {E:Value→Shared→Prop}{pins:List (Addr×Obj)}{s:Shared}{σ:St}{H:Hp}{x:Str}{u:Value}{pos:Pos}{Q:Value→Shared→Prop} (I:Inv X pins σ H s) (hg:Gl X x) (hm:X.mg x=some u) (h:Q u s)
  (hd:(x==("__debug__":Str))=false:=by decide):wpAny (model X.prog X.w) X.A (eval (.Name x pos) X.env) Q E s:=
 Calls.Name_function_global I.ok.kind hg (Calls.loadGlobal_global (by rw [I.ok.glob];exact I.mod.glob.keeps I.bk) hm h) hd
theorem d9Z {E:Value→Shared→Prop}{pins:List (Addr×Obj)}{s:Shared}{σ:St}{H:Hp}{x:Str}{u:Value}{pos:Pos}{Q:Value→Shared→Prop} (I:Inv X pins σ H s) (hg:Gl X x) (hm:X.mg x=none) (hv:bootBuiltins x=some u) (h:Q u s)
  (hn:x≠"__name__":=by decide) (hd:(x==("__debug__":Str))=false:=by decide):wpAny (model X.prog X.w) X.A (eval (.Name x pos) X.env) Q E s:=by
 obtain ⟨mb,h1,h2⟩:=I.mod.blt
 exact Calls.Name_function_global I.ok.kind hg (Calls.loadGlobal_builtin (by rw [I.ok.glob];exact I.mod.glob.keeps I.bk) hm (by rw [I.ok.blt];exact h1.keeps I.bk) ((h2 x hn).trans hv) h) hd
theorem da {x:Str}{v:V}{u:Value}{pos:Pos} (hg:Gl X x) (hm:X.mg x=some u) (r:RelV v u) (hd:(x==("__debug__":Str))=false:=by decide):PE X (.Name x pos) (tC v):=
 fun _ _ _ H _ I h=>kM I hg hm ⟨v,H,I,r,h⟩ hd
variable {a b:Expr}{ta tb:TE}{pos:Pos}
def PC (X:Cx) (op:CmpOp) (a b:Expr) (t:TE):Prop:=
 ∀ (pins:List (Addr×Obj)) (s:Shared) (σ:St) (H:Hp) (Q:VK),Inv X pins σ H s→t σ H Q →
  wpAny (model X.prog X.w) X.A (eval a X.env) (fun v s₁=>wpAny (model X.prog X.w) X.A (eval b X.env) (fun u s₂=>wpAny (model X.prog X.w) X.A (compareOp op v u) (EP X pins σ Q) X.xe s₂) X.xe s₁) X.xe s
def tB (t:TE):TT:=fun σ H Q=>t σ H fun x H1=>∃ c,x=.bl c∧Q c H1
theorem dDo {op:CmpOp}{t:TE} (h:PC X op a b t) (h1:behindInMarks op b=false:=by first | exact nobehind _ (by decide) (by decide) | rfl):PE X (.Compare a [op] [b] pos) t:=fun pins s σ H Q I hw=>wpAny_Compare1 (h pins s σ H Q I hw) h1
theorem uF {e:Expr}{t:TE} (h:PE X e t) (he:∀ whole,isTrue e X.env whole=(do let v ←whole;standAt e.pos;holding [v] (truthy v)):=by intro _;rfl):PT X e (tB t):=by
 intro pins s σ H Q I hw
 refine isTrue_plain (thn (h pins s σ H _ I hw) fun v s1 ⟨x,H1,I1,r1,q1⟩=>?_) (he _)
 obtain ⟨d,rfl,q⟩:=q1
 cases r1
 exact wpAny_truthy_bool ⟨H1,I1,q⟩
variable {tA tB':TT}{rest:List Expr}
def tAnd (t u:TT):TT:=fun σ H Q=>t σ H fun c H1=>if c=true then u σ H1 Q else Q false H1
def tOr (t u:TT):TT:=fun σ H Q=>t σ H fun c H1=>if c=true then Q true H1 else u σ H1 Q
def tNot (t:TT):TT:=fun σ H Q=>t σ H fun c H1=>Q (!c) H1
theorem wO (ha:PT X a tA):PW X (.BoolOp .And [a] pos) tA:=by
 intro wh pins s σ H Q I h
 refine isTrue_and (thn (ha pins s σ H Q I h) fun c s1 e=>?_)
 cases c with
 | true=>exact isTrue_and_nil e
 | false=>exact e
theorem yD (ha:PT X a tA):PW X (.BoolOp .Or [a] pos) tA:=by
 intro wh pins s σ H Q I h
 refine isTrue_or (thn (ha pins s σ H Q I h) fun c s1 e=>?_)
 cases c with
 | false=>exact isTrue_or_nil e
 | true=>exact e
theorem wx (ha:PT X a tA) (hb:PW X (.BoolOp .And (b::rest) pos) tB'):PW X (.BoolOp .And (a::b::rest) pos) (tAnd tA tB'):=by
 intro wh pins s σ H Q I h
 refine isTrue_and (thn (ha pins s σ H _ I h) fun c s1 ⟨H1,I1,q1⟩=>?_)
 cases c with
 | true=>exact hb wh pins s1 σ H1 Q I1 q1
 | false=>exact ⟨H1,I1,q1⟩
theorem dA0 (ha:PT X a tA) (hb:PW X (.BoolOp .Or (b::rest) pos) tB'):PW X (.BoolOp .Or (a::b::rest) pos) (tOr tA tB'):=by
 intro wh pins s σ H Q I h
 refine isTrue_or (thn (ha pins s σ H _ I h) fun c s1 ⟨H1,I1,q1⟩=>?_)
 cases c with
 | true=>exact ⟨H1,I1,q1⟩
 | false=>exact hb wh pins s1 σ H1 Q I1 q1
theorem dB3 (ha:PT X a tA):PT X (.UnaryOp .Not a pos) (tNot tA):=by
 intro pins s σ H Q I h
 exact isTrue_not (ha pins s σ H (fun c H1=>Q (!c) H1) I h)
def dGY (ta tb:TE):TE:=fun σ H Q=>ta σ H fun x H1=>∃ c,x=.bl c∧if c=true then tb σ H1 Q else Q (.bl false) H1
theorem d9D {op}{t:TE} (h:PE X a t):PE X (.BoolOp op [a] pos) t:=fun pins s σ H Q I hw=>BoolOp_one (h pins s σ H Q I hw)
theorem d9H (ha:PE X a ta) (hb:PE X (.BoolOp .And (b::rest) pos) tb):PE X (.BoolOp .And (a::b::rest) pos) (dGY ta tb):=by
 intro pins s σ H Q I h
 refine BoolOp_and (thn (ha pins s σ H _ I h) fun v s1 ⟨x,H1,I1,r1,q1⟩=>?_)
 obtain ⟨c,rfl,q1⟩:=q1
 cases r1
 refine wpAny_truthy_bool ?_
 cases c with
 | true=>exact hb pins s1 σ H1 Q I1 q1
 | false=>exact ⟨.bl false,H1,I1,rfl,q1⟩
def tIf (t:TT) (ta tb:TE):TE:=fun σ H Q=>t σ H fun c H1=>if c=true then ta σ H1 Q else tb σ H1 Q
theorem dD7 {c:Expr} (hc:PT X c tA) (ha:PE X a ta) (hb:PE X b tb):PE X (.IfExp c a b pos) (tIf tA ta tb):=by
 intro pins s σ H Q I h
 refine wpAny_IfExp (thn (hc pins s σ H _ I h) fun d s1 ⟨H1,I1,q1⟩=>?_)
 cases d with
 | true=>exact ha pins s1 σ H1 Q I1 q1
 | false=>exact hb pins s1 σ H1 Q I1 q1
end
end L2
namespace L2
open PySem PySem.Spec PyProof.Rows
def SqL (K:PySem.W.Frag) (H:Hp) (a:Addr) (xs:List V):Prop:=
 Rd H a (.lst xs) ∨
  ∃ (o:Obj) (its:Array Value) (n:Nat),K.lookup a=some o∧o.cls=.type "list"∧o.dict=none∧o.data=.seq its n∧its.size≤sizeLine∧Vals xs its.toList
def SqT (K:PySem.W.Frag) (H:Hp) (a:Addr) (xs:List V):Prop:=
 Rd H a (.tup xs) ∨
  ∃ (o:Obj) (its:Array Value) (n:Nat),K.lookup a=some o∧o.cls=.type "tuple"∧o.data=.seq its n∧its.size≤sizeLine∧Vals xs its.toList
def absV:Value→Option V
 | .none=>some .non
 | .bool b=>some (.bl b)
 | .int i _=>some (.int i)
 | .str x _=>some (.str x)
 | .bytes b _=>some (.byt b)
 | .float b _=>some (.flt b)
 | .ref a=>some (.ref a)
 | .type n=>some (.ty n)
 | _=>none
theorem RelV.abs {x:V}{u:Value} (r:RelV x u):absV u=some x:=by
 cases x with
 | non=>cases r;rfl
 | bl _=>cases r;rfl
 | int _=>obtain ⟨t,rfl⟩:=r;rfl
 | str _=>obtain ⟨t,rfl⟩:=r;rfl
 | byt _=>obtain ⟨t,rfl⟩:=r;rfl
 | flt _=>obtain ⟨t,rfl⟩:=r;rfl
 | ref _=>cases r;rfl
 | ty _=>cases r;rfl
theorem RelV.inj {x y:V}{u:Value} (r:RelV x u) (q:RelV y u):x=y:=Option.some.inj (r.abs.symm.trans q.abs)
theorem Vals.inj:∀ {xs ys:List V}{us:List Value},Vals xs us→Vals ys us→xs=ys
 | _,_,_,.nil,.nil=>rfl
 | _,_,_,.cons r t,.cons r' t'=>by rw [r.inj r',Vals.inj t t']
section
variable {X:Cx}{pins:List (Addr×Obj)}{σ:St}{H:Hp}{s:Shared}{a:Addr}{xs ys:List V}
theorem SqL.of {K:PySem.W.Frag} (h:H a=some (.lst xs)):SqL K H a xs:=.inl (.inl h)
theorem SqT.of {K:PySem.W.Frag} (h:H a=some (.tup xs)):SqT K H a xs:=.inl (.inl h)
theorem Inv.list (I:Inv X pins σ H s) (h:SqL X.K H a xs):∃ its:List Value,Vals xs its∧PlainL s.heap a its.toArray∧xs.length≤sizeLine:=by
 rcases h with h | ⟨o,its,n,hk,hc,hd,hs,hz,r⟩
 ·obtain ⟨z,its,n,r,e⟩:=h.ok I.hok
  exact ⟨its,r,⟨_,n,e,rfl,rfl,rfl⟩,z⟩
 ·refine ⟨its.toList,r,⟨o,n,I.kIn a o hk,hc,hd,by simpa using hs⟩,?_⟩
  have e:=r.length
  simp only [Array.length_toList] at e
  omega
theorem Inv.tuple (I:Inv X pins σ H s) (h:SqT X.K H a xs):∃ its:List Value,Vals xs its∧IsTup s.heap a its.toArray∧xs.length≤sizeLine:=by
 rcases h with h | ⟨o,its,n,hk,hc,hs,hz,r⟩
 ·obtain ⟨z,its,r,p⟩:=h.ok I.hok
  exact ⟨its,r,p,z⟩
 ·refine ⟨its.toList,r,⟨o,I.kIn a o hk,hc,n,by simpa using hs⟩,?_⟩
  have e:=r.length
  simp only [Array.length_toList] at e
  omega
theorem Inv.list_inj (I:Inv X pins σ H s) (h:SqL X.K H a xs) (h':SqL X.K H a ys):xs=ys:=by
 obtain ⟨its,r,⟨o,n,e,_,_,d⟩,_⟩:=I.list h
 obtain ⟨its',r',⟨o',n',e',_,_,d'⟩,_⟩:=I.list h'
 rw [e] at e';cases e'
 rw [d] at d'
 injection d' with d1 _
 have:its=its':=by simpa using congrArg Array.toList d1
 subst this
 exact r.inj r'
theorem Inv.tuple_inj (I:Inv X pins σ H s) (h:SqT X.K H a xs) (h':SqT X.K H a ys):xs=ys:=by
 obtain ⟨its,r,⟨o,e,_,n,d⟩,_⟩:=I.tuple h
 obtain ⟨its',r',⟨o',e',_,n',d'⟩,_⟩:=I.tuple h'
 rw [e] at e';cases e'
 rw [d] at d'
 injection d' with d1 _
 have:its=its':=by simpa using congrArg Array.toList d1
 subst this
 exact r.inj r'
end
abbrev Cx.wish (X:Cx) (E:Value→Shared→Prop):Cx:={ X with xe:=E }
abbrev Cx.nox (X:Cx):Cx:=X.wish fun _ _=>False
theorem Cx.Ok.wish {X:Cx} (ok:X.Ok) (E:Value→Shared→Prop):(X.wish E).Ok:=
 ⟨ok.mod,ok.kind,ok.glob,ok.blt,ok.above,ok.inj,ok.has,ok.cab,ok.hd,ok.frames,ok.stk,ok.exf,ok.bs,ok.bsz,ok.noex,ok.exfs,ok.funs,ok.frf⟩
theorem Cx.Ok.unwish {X:Cx}{E:Value→Shared→Prop} (ok:(X.wish E).Ok):X.Ok:=
 ⟨ok.mod,ok.kind,ok.glob,ok.blt,ok.above,ok.inj,ok.has,ok.cab,ok.hd,ok.frames,ok.stk,ok.exf,ok.bs,ok.bsz,ok.noex,ok.exfs,ok.funs,ok.frf⟩
section
variable {X:Cx}{pins:List (Addr×Obj)}{σ:St}{H:Hp}{s:Shared}{E:Value→Shared→Prop}
theorem Inv.wish (I:Inv X pins σ H s) (E:Value→Shared→Prop):Inv (X.wish E) pins σ H s:=⟨I.ok.wish E,I.os,I.bare,I.base,I.loc,I.cell,I.free,I.freeC,I.pin,I.hok,I.len⟩
theorem Inv.unwish (I:Inv (X.wish E) pins σ H s):Inv X pins σ H s:=⟨I.ok.unwish,I.os,I.bare,I.base,I.loc,I.cell,I.free,I.freeC,I.pin,I.hok,I.len⟩
theorem SP.unwish {D:Ends}{f:Flow}{s':Shared} (h:SP (X.wish E) pins D f s'):SP X pins D f s':=by
 cases f with
 | next=>obtain ⟨σ',H',I,q⟩:=h;exact ⟨σ',H',I.unwish,q⟩
 | brk=>obtain ⟨σ',H',I,q⟩:=h;exact ⟨σ',H',I.unwish,q⟩
 | cont=>obtain ⟨σ',H',I,q⟩:=h;exact ⟨σ',H',I.unwish,q⟩
 | ret u=>obtain ⟨v,σ',H',I,r,q⟩:=h;exact ⟨v,σ',H',I.unwish,r,q⟩
theorem PSs.nox {st:List Stmt}{t:TS} (h:PSs X.nox st t):PSs X st t:=fun pins s σ H D I hw=>
 wpAny_mono (h pins s σ H D (I.wish _) hw) (fun _ _ q=>q.unwish) fun _ _ z=>False.elim z
end
section
variable {X:Cx}{st:Stmt}{rest:List Stmt}{t u:TS}{e:Expr}{te:TE}{pos:Pos}
def dGa:TS:=fun D σ H=>D.nx σ H
def tSeq (t u:TS):TS:=fun D σ H=>t { D with nx:=u D } σ H
theorem dq:PSs X [] dGa:=fun _ _ σ H _ I h=>wpAny_execs_nil ⟨σ,H,I,h⟩
theorem dA (h1:PS X st t) (h2:PSs X rest u):PSs X (st::rest) (tSeq t u):=by
 intro pins s σ H D I h
 refine wpAny_execs_cons (thn (h1 pins s σ H { D with nx:=u D } I h) fun f s1 q=>?_)
 cases f with
 | next=>
  obtain ⟨σ',H',I',q⟩:=q
  exact h2 pins s1 σ' H' D I' q
 | ret v=>exact q
 | brk=>exact q
 | cont=>exact q
theorem dE (h1:PS X st t):PSs X [st] t:=by
 intro pins s σ H D I h
 refine wpAny_execs_cons (thn (h1 pins s σ H D I h) fun f s1 q=>?_)
 cases f with
 | next=>exact wpAny_execs_nil q
 | ret v=>exact q
 | brk=>exact q
 | cont=>exact q
theorem Inv.quiet {pins:List (Addr×Obj)}{σ:St}{H:Hp}{s:Shared} (I:Inv X pins σ H s):interactive X.env=false:=by simp [interactive,I.ok.kind]
def dEL (te:TE):TS:=fun D σ H=>te σ H fun _ H1=>D.nx σ H1
theorem dN (he:PE X e te) (hs:swapsWith e none pos.line X.env=pure false:=by rfl):PS X (.Expr e pos) (dEL te):=by
 intro pins s σ H D I h
 exact wpAny_Expr_any (thn (he pins s σ H _ I h) fun v s1 ⟨x,H1,I1,r1,q1⟩=>⟨σ,H1,I1,q1⟩) I.quiet hs
def tRet (te:TE):TS:=fun D σ H=>te σ H D.rt
theorem dZ (he:PE X e te):PS X (.Return (some e) pos) (tRet te):=by
 intro pins s σ H D I h
 exact wpAny_Return_some (thn (he pins s σ H _ I h) fun v s1 ⟨x,H1,I1,r1,q1⟩=>⟨x,σ,H1,I1,r1,q1⟩)
def tIfS (c:TT) (t u:TS):TS:=fun D σ H=>c σ H fun b H1=>if b=true then t D σ H1 else u D σ H1
theorem gv {c:Expr}{a b:List Stmt}{tc:TT} (hc:PT X c tc) (ha:PSs X a t) (hb:PSs X b u):PS X (.If c a b pos) (tIfS tc t u):=by
 intro pins s σ H D I h
 refine wpAny_If (thn (hc pins s σ H _ I h) fun d s1 ⟨H1,I1,q1⟩=>?_)
 cases d with
 | true=>exact ha pins s1 σ H1 D I1 q1
 | false=>exact hb pins s1 σ H1 D I1 q1
end
abbrev TG:=V→St→Hp→(St→Hp→Prop)→Prop
abbrev TGs:=List V→St→Hp→(St→Hp→Prop)→Prop
def PG (X:Cx) (target:Expr) (t:TG):Prop:=
 ∀ (pins:List (Addr×Obj)) (s:Shared) (σ:St) (H:Hp) (v:V) (u:Value) (Q:St→Hp→Prop),Inv X pins σ H s→RelV v u→t v σ H Q →
  wpAny (model X.prog X.w) X.A (assign target X.env u) (fun _ s'=>∃ σ' H',Inv X pins σ' H' s'∧Q σ' H') X.xe s
def PGs (X:Cx) (ts:List Expr) (t:TGs):Prop:=
 ∀ (pins:List (Addr×Obj)) (s:Shared) (σ:St) (H:Hp) (vs:List V) (us:List Value) (Q:St→Hp→Prop),Inv X pins σ H s→Vals vs us→t vs σ H Q →
  wpAny (model X.prog X.w) X.A (assignInOrder ((assignEach ts X.env).map (·.2)) us) (fun _ s'=>∃ σ' H',Inv X pins σ' H' s'∧Q σ' H') X.xe s
abbrev TIp:=V→V→Hp→VK→Prop
def PIp (X:Cx) (op:Operator) (t:TIp):Prop:=
 ∀ (pins:List (Addr×Obj)) (s:Shared) (σ:St) (H:Hp) (x y:V) (v u:Value) (Q:VK),Inv X pins σ H s→RelV x v→RelV y u→t x y H Q →
  wpAny (model X.prog X.w) X.A (inplaceOp op v u) (EP X pins σ Q) X.xe s
section
variable {X:Cx}{pos:Pos}
def dCj (i:Nat):TG:=fun v σ H Q=>Q (σ.set i (some v)) H
theorem du {i:Nat}{x:Str} (hN:X.N.Nodup) (hi:X.N[i]?=some x) (hx:Loc X.env.scope x) (hf:X.fn x=true∨X.env.scope.names.lookup x=some .local:=by first | exact .inl rfl | exact .inr rfl | assumption):PG X (.Name x pos) (dCj i):=by
 intro pins s σ H v u Q I r h
 exact wpAny_assign_Name (vY I hN hi hx r (fun s' I'=>⟨_,H,I',h⟩) hf)
def gNil:TGs:=fun vs σ H Q=>vs=[]∧Q σ H
def dGh (t:TG) (u:TGs):TGs:=fun vs σ H Q=>∃ v r,vs=v::r∧t v σ H fun σ' H'=>u r σ' H' Q
theorem d8B:PGs X [] gNil:=by
 intro pins s σ H vs us Q I r h
 obtain ⟨e,h⟩:=h
 subst e
 cases r
 exact assignInOrder_nil ⟨σ,H,I,h⟩
theorem uB {e:Expr}{es:List Expr}{t:TG}{u:TGs} (h1:PG X e t) (h2:PGs X es u)
  (hs:(assignEach (e::es) X.env).map (·.2)=assign e X.env::(assignEach es X.env).map (·.2):=by rfl):PGs X (e::es) (dGh t u):=by
 intro pins s σ H vs us Q I r h
 obtain ⟨v,vr,e1,h⟩:=h
 subst e1
 cases r with
 | cons r rr=>
  rw [hs]
  refine assignInOrder_cons (thn (h1 pins s σ H _ _ _ I r h) fun _ s1 ⟨σ1,H1,I1,q1⟩=>?_)
  exact h2 pins s1 σ1 H1 _ _ Q I1 rr q1
def gTup (K:PySem.W.Frag) (n:Nat) (t:TGs):TG:=fun v σ H Q=>∃ a xs,v=.ref a∧SqT K H a xs∧xs.length=n∧t xs σ H Q
theorem dDz {es:List Expr}{k:Nat}{t:TGs}{n:Nat} (hc:X.calm=true) (h:PGs X es t)
  (hn:(assignEach es X.env).length=n:=by rfl) (hst:(assignEach es X.env).findIdx? (·.1)=none:=by rfl):PG X (.Tuple es k pos) (gTup X.K n t):=by
 intro pins s σ H v u Q I r hw
 obtain ⟨a,xs,e1,hq,hl,hw⟩:=hw
 subst e1
 cases r
 obtain ⟨its,rv,ht,hz⟩:=I.tuple hq
 refine assign_Tuple_tuple (I.ok.hd hc) ht (by simp [hn,←hl,rv.length]) hst fun h' hx=>?_
 have I1:Inv X pins σ H { s with heap:=h' }:=I.kept (t':=s.toks) fun b o e=>hx b o (Nat.ne_of_lt (Heap.lt_size e)) e
 exact h pins _ σ H xs _ Q I1 (by simpa using rv) hw
def tAsg (te:TE) (g:TG):TS:=fun D σ H=>te σ H fun x H1=>g x σ H1 D.nx
theorem dX {i:Nat}{x:Str}{e:Expr}{te:TE}{pos':Pos} (hN:X.N.Nodup) (hi:X.N[i]?=some x) (hx:Loc X.env.scope x) (he:PE X e te) (hs:swapsWith e (some (.Name x pos')) pos.line X.env=pure false:=by rfl) (hf:X.fn x=true∨X.env.scope.names.lookup x=some .local:=by first | exact .inl rfl | exact .inr rfl | assumption) :
  PS X (.Assign [.Name x pos'] e pos) (tAsg te (dCj i)):=by
 intro pins s σ H D I h
 refine wpAny_Assign_Name (thn (he pins s σ H _ I h) fun v s1 ⟨y,H1,I1,r1,q1⟩=>?_) hs
 exact vY I1 hN hi hx r1 (fun s2 I2=>⟨_,H1,I2,q1⟩) hf
def tAug (i:Nat) (te:TE) (ti:TIp):TS:=fun D σ H=>∃ x,σ[i]?=some (some x)∧te σ H fun y H1=>ti x y H1 fun z H2=>D.nx (σ.set i (some z)) H2
theorem d9B {i:Nat}{x:Str}{e:Expr}{te:TE}{op:Operator}{ti:TIp}{pos':Pos} (hN:X.N.Nodup) (hi:X.N[i]?=some x) (hx:Loc X.env.scope x) (he:PE X e te) (ho:PIp X op ti) (hf:X.fn x=true∨X.env.scope.names.lookup x=some .local:=by first | exact .inl rfl | exact .inr rfl | assumption) :
  PS X (.AugAssign (.Name x pos') op e pos) (tAug i te ti):=by
 intro pins s σ H D I h
 obtain ⟨v,e1,h⟩:=h
 obtain ⟨m,hn,hl⟩:=I.loc
 have vis:Vis X.env.scope x:=by rcases hx with k | k;exact .inl k;exact .inr (.inl k)
 obtain ⟨u,r,l⟩:=hl i x v hi e1 vis
 refine wpAny_AugAssign_Name ?_
 have go:wpAny (model X.prog X.w) X.A (eval e X.env) (fun w s₂=>wpAny (model X.prog X.w) X.A (inplaceOp op u w) (fun r s₃=>wpAny (model X.prog X.w) X.A (storeName X.env x r) (fun _=>SP X pins D .next) X.xe s₃) X.xe s₂) X.xe s:=by
  refine thn (he pins s σ H _ I h) fun w s1 ⟨y,H1,I1,r1,q1⟩=>?_
  refine thn (ho pins s1 σ H1 v y u w _ I1 r r1 q1) fun z s2 ⟨zv,H2,I2,r2,q2⟩=>?_
  exact vY I2 hN hi hx r2 (fun s3 I3=>⟨_,H2,I3,q2⟩) hf
 rcases l with ⟨hk,hm⟩ | ⟨hk,c,hc,hcell⟩
 ·exact wpAny_loadName_local I.ok.kind hk hn hm go
 ·rcases hk with hk | hk
  ·exact wpAny_loadName_cell I.ok.kind hk hc hcell go
  ·rcases hx with k | k
   ·have:X.env.scope.names.lookup x=some .free:=hk
    rw [k] at this;cases this
   ·have:X.env.scope.names.lookup x=some .free:=hk
    rw [k] at this;cases this
def ipI (f:Int→Int→Int):TIp:=fun x y H Q=>∃ i j,x=.int i∧y=.int j∧Q (.int (f i j)) H
theorem d9d:PIp X .Add (ipI fun i j=>i+j):=by
 intro pins s σ H x y v u Q I r1 r2 h
 obtain ⟨i,j,e1,e2,q⟩:=h
 subst e1;subst e2
 obtain ⟨t,rfl⟩:=r1
 obtain ⟨t',rfl⟩:=r2
 exact iadd_int ⟨.int _,H,I.tok _,⟨_,rfl⟩,q⟩
end
section
variable {X:Cx}{pos:Pos}
def dDx (c:TT) (tb:TS):TS:=fun D σ H=>∃ W:Nat→St→Hp→Prop,(∃ m,W m σ H)∧∀ m σ H,W m σ H →
 c σ H fun b H1=>if b=true then ∃ N:St→Hp→Prop,(∀ σ' H',N σ' H'→∃ m',m' < m∧W m' σ' H')∧tb { D with nx:=N,ct:=N,bk:=D.nx } σ H1 else D.nx σ H1
theorem jS {c:Expr}{body:List Stmt}{tc:TT}{tb:TS} (hp:PassesOwn (model X.prog X.w) X.A X.env X.xe) (hc:PT X c tc) (hb:PSs X body tb):PS X (.While c body [] pos) (dDx tc tb):=by
 intro pins s σ H D I h
 obtain ⟨W,⟨m0,w0⟩,turn⟩:=h
 refine wpAny_While (codeAny_whileLoop (fun n s'=>∃ σ' H',Inv X pins σ' H' s'∧W n σ' H') ?_ m0 ⟨σ,H,I,w0⟩)
 rintro n s1 ⟨σ1,H1,I1,w1⟩
 refine wpAny_passesOwn hp (thn (hc pins s1 σ1 H1 _ I1 (turn n σ1 H1 w1)) fun b s2 ⟨H2,I2,q2⟩=>?_)
 cases b with
 | true=>
  obtain ⟨N,hN,q2⟩:=q2
  rw [if_pos rfl]
  refine wpAny_passesOwn hp (thn (hb pins s2 σ1 H2 _ I2 q2) fun f s3 q3=>?_)
  cases f with
  | next=>
   obtain ⟨σ3,H3,I3,n3⟩:=q3
   obtain ⟨m',hm,w3⟩:=hN σ3 H3 n3
   exact ⟨m',hm,σ3,H3,I3,w3⟩
  | cont=>
   obtain ⟨σ3,H3,I3,n3⟩:=q3
   obtain ⟨m',hm,w3⟩:=hN σ3 H3 n3
   exact ⟨m',hm,σ3,H3,I3,w3⟩
  | brk=>exact q3
  | ret v=>exact q3
 | false=>
  rw [if_neg Bool.false_ne_true]
  exact wpAny_execs_nil ⟨σ1,H2,I2,q2⟩
end
structure It where
 go:Nat→Hp→Prop
 yld:Nat→Hp→V→Hp→Prop
 stop:Nat→Hp→Prop
def FpOk (X:Cx) (pins:List (Addr×Obj)) (H:Hp) (b:Addr):Prop:=
 H b=none∧b≠X.env.locals∧b∉X.fs∧(b∈X.ex∨X.s_0.heap.objs.size≤b)∧(∀ x c,X.env.cells.lookup x=some c→c≠b)∧∀ p∈X.pn++pins,p.1≠b
theorem Inv.fpOk {X:Cx}{pins:List (Addr×Obj)}{σ:St}{H H':Hp}{s:Shared}{b:Addr} (I:Inv X pins σ H s) (hb:s.heap.objs.size≤b) (hn:H' b=none):FpOk X pins H' b:=by
 refine ⟨hn,Nat.ne_of_gt (Nat.lt_of_lt_of_le I.lt hb),I.nofs hb,.inr (Nat.le_trans I.sz hb),fun x c e z=>?_,fun p hp z=>?_⟩
 ·obtain ⟨v,q⟩:=I.cell x c e
  exact absurd (Nat.lt_of_lt_of_le q.lt (by rw [z];exact hb)) (Nat.lt_irrefl _)
 ·exact absurd (Nat.lt_of_lt_of_le (Heap.lt_size (I.pin p hp).1) (by rw [z];exact hb)) (Nat.lt_irrefl _)
structure Turn (P:Program) (w:World) (K:PySem.W.Frag) (tg:Expr) (J:It) (fp:List Addr) (it:Addr) (tn:Nat→Heap→Prop):Prop where
 mem:it∈fp
 obj:∀ i h,tn i h→∀ b∈fp,∃ o,h.get? b=some o∧∀ v,o.data≠.cell v
 keep:∀ i h h',tn i h→(∀ b∈fp,∀ o,h.get? b=some o→h'.get? b=some o)→tn i h'
 item:∀ (X:Cx),X.prog=P→X.w=w→X.K=K→X.calm=true→∀ (i:Nat) (pins:List (Addr×Obj)) (s:Shared) (σ:St) (H:Hp) (E:Value→Shared→Prop),Inv X pins σ H s→(∀ b∈fp,FpOk X pins H b)→tn i s.heap→J.go i H →
  wpAny (model P w) X.A (pyNext (.ref it)) (fun r s1=>∃ u,r=some u ∧
   wpAny (model P w) X.A (letOwnedTupleGo tg (.ref it) u) (fun _ s2=>∃ x H',Inv X pins σ H' s2∧RelV x u∧J.yld i H x H'∧tn (i+1) s2.heap∧∀ b∈fp,H' b=none) E s1) E s
 done:∀ (X:Cx),X.prog=P→X.w=w→X.K=K→X.calm=true→∀ (i:Nat) (pins:List (Addr×Obj)) (s:Shared) (σ:St) (H:Hp) (E:Value→Shared→Prop),Inv X pins σ H s→(∀ b∈fp,FpOk X pins H b)→tn i s.heap→J.stop i H →
  wpAny (model P w) X.A (pyNext (.ref it)) (fun r s1=>r=none∧Inv X pins σ H s1) E s
 self:∀ (A:Around) (i:Nat) (s:Shared) (Q:Value→Shared→Prop) (E:Value→Shared→Prop),tn i s.heap→Q (.ref it) s→wpAny (model P w) A (pyIter (.ref it)) Q E s
abbrev TI:=St→Hp→(It→Hp→Prop)→Prop
def PIE (X:Cx) (pins:List (Addr×Obj)) (σ:St) (tg:Expr) (R:It→Hp→Prop) (itv:Value) (s2:Shared):Prop:=
 ∃ (it:Addr) (fp:List Addr) (tn:Nat→Heap→Prop) (J:It) (H':Hp),itv=.ref it∧Inv X pins σ H' s2∧Turn X.prog X.w X.K tg J fp it tn∧tn 0 s2.heap∧(∀ b∈fp,FpOk X pins H' b)∧R J H'
def PI (X:Cx) (tg iter:Expr) (wi:TI):Prop:=
 ∀ (pins:List (Addr×Obj)) (s:Shared) (σ:St) (H:Hp) (R:It→Hp→Prop),Inv X pins σ H s→wi σ H R →
  wpAny (model X.prog X.w) X.A (eval iter X.env) (fun v s1=>wpAny (model X.prog X.w) X.A (pyIter v) (PIE X pins σ tg R) X.xe s1) X.xe s
theorem dDR {M:Model}{A:Around}{E:Value → Shared → Prop}{s:Shared}{tg:Expr}{it:Addr}{u:Value}{o:Obj}{n:String}{vs:Array Value}{Q:Unit → Shared → Prop} (ho:s.heap.get? it=some o) (hc:o.cls=.type n) (hd:o.data=.fields vs)
    (hn:["enumerate", "zip", "dict_itemiterator", "dict_reverseitemiterator", "odict_iterator", "itertools.zip_longest", "itertools.pairwise"].contains n=false) (hQ:Q () s):wpAny M A (letOwnedTupleGo tg (.ref it) u) Q E s:= by
  unfold letOwnedTupleGo
  cases tg <;> first
    | exact wpAny_pure hQ
    | (cases u <;> first
        | exact wpAny_pure hQ
        | (refine wpAny_bind (wpAny_load ho ?_)
           rw [hc, hd]
           show wpAny M A (if (["enumerate", "zip", "dict_itemiterator", "dict_reverseitemiterator", "odict_iterator", "itertools.zip_longest", "itertools.pairwise"].contains n&&vs[0]?==some (rawInt _))=true then _ else _) Q E s
           rw [if_neg (by intro h;rw [hn, Bool.false_and] at h;cases h)]
           exact wpAny_pure hQ))
def Itl (K:PySem.W.Frag) (a:Addr):It:=
 ⟨fun i H=>∃ xs x,SqL K H a xs∧xs[i]?=some x,fun i H x H'=>H'=H∧∀ xs,SqL K H a xs→xs[i]?=some x,fun i H=>∃ xs,SqL K H a xs∧xs.length≤i⟩
def Itt (K:PySem.W.Frag) (a:Addr):It:=
 ⟨fun i H=>∃ xs x,SqT K H a xs∧xs[i]?=some x,fun i H x H'=>H'=H∧∀ xs,SqT K H a xs→xs[i]?=some x,fun i H=>∃ xs,SqT K H a xs∧xs.length≤i⟩
def Itr (lo:Int) (n:Nat):It:=⟨fun i _=>i < n,fun i H x H'=>H'=H∧x=.int (lo+i),fun i _=>n≤i⟩
theorem dC9 {P:Program}{w:World}{K:PySem.W.Frag}{tg:Expr} (a it:Addr):Turn P w K tg (Itl K a) [it] it (fun i h=>h.IsListIter it a i) where
 mem:=by simp
 obj:=fun i h st b hb=>by
  have e:b=it:=by simpa using hb
  subst e
  obtain ⟨o,e,c,d⟩:=st
  exact ⟨o,e,fun v z=>by rw [d] at z;cases z⟩
 keep:=fun i h h' st k=>st.at fun o e=>k it (by simp) o e
 item:=by
  intro X hP hw hK hc i pins s σ H E I hf st hg
  subst hP hw hK
  obtain ⟨xs,x,hq,hx⟩:=hg
  obtain ⟨its,rv,p,hz⟩:=I.list hq
  obtain ⟨u,hu,ru⟩:=rv.get hx
  obtain ⟨f0,f1,f2,f3,f4,f5⟩:=hf it (by simp)
  refine wpAny_pyNext_list_item st p.isList (x:=u) (by simpa using hu) fun h' st' sb=>?_
  have I1:Inv X pins σ H { s with heap:=h' }:=I.turned (t':=s.toks) (fun b o hb e=>(sb.2 b hb).trans e) f0 f1 f3 f4 f5
  obtain ⟨o,e,c,d⟩:=id st'
  exact ⟨u,rfl,dDR (s:={ s with heap:=h' }) e c d (by decide) ⟨x,H,I1,ru,⟨rfl,fun ys hy=>by rw [I.list_inj hy hq];exact hx⟩,st',fun b hb=>(hf b hb).1⟩⟩
 done:=by
  intro X hP hw hK hc i pins s σ H E I hf st hg
  subst hP hw hK
  obtain ⟨xs,hq,hx⟩:=hg
  obtain ⟨its,rv,p,hz⟩:=I.list hq
  obtain ⟨f0,f1,f2,f3,f4,f5⟩:=hf it (by simp)
  have hl:=rv.length
  exact wpAny_pyNext_list_end (I.ok.hd hc) st p.isList (by simp;omega) fun h' eb=>⟨rfl,I.turned (t':=s.toks) (fun b o hb e=>eb b o hb e) f0 f1 f3 f4 f5⟩
 self:=fun _ _ _ _ _ st h=>wpAny_pyIter_listiter st h
theorem dAW {P:Program}{w:World}{K:PySem.W.Frag}{tg:Expr} (a it:Addr):Turn P w K tg (Itt K a) [it] it (fun i h=>h.IsTupleIter it a i) where
 mem:=by simp
 obj:=fun i h st b hb=>by
  have e:b=it:=by simpa using hb
  subst e
  obtain ⟨o,e,c,d⟩:=st
  exact ⟨o,e,fun v z=>by rw [d] at z;cases z⟩
 keep:=fun i h h' st k=>st.at fun o e=>k it (by simp) o e
 item:=by
  intro X hP hw hK hc i pins s σ H E I hf st hg
  subst hP hw hK
  obtain ⟨xs,x,hq,hx⟩:=hg
  obtain ⟨its,rv,p,hz⟩:=I.tuple hq
  obtain ⟨u,hu,ru⟩:=rv.get hx
  obtain ⟨f0,f1,f2,f3,f4,f5⟩:=hf it (by simp)
  refine wpAny_pyNext_tuple_item st (show s.heap.IsTuple a its.toArray from p) (x:=u) (by simpa using hu) fun h' st' sb=>?_
  have I1:Inv X pins σ H { s with heap:=h' }:=I.turned (t':=s.toks) (fun b o hb e=>(sb.2 b hb).trans e) f0 f1 f3 f4 f5
  obtain ⟨o,e,c,d⟩:=id st'
  exact ⟨u,rfl,dDR (s:={ s with heap:=h' }) e c d (by decide) ⟨x,H,I1,ru,⟨rfl,fun ys hy=>by rw [I.tuple_inj hy hq];exact hx⟩,st',fun b hb=>(hf b hb).1⟩⟩
 done:=by
  intro X hP hw hK hc i pins s σ H E I hf st hg
  subst hP hw hK
  obtain ⟨xs,hq,hx⟩:=hg
  obtain ⟨its,rv,p,hz⟩:=I.tuple hq
  obtain ⟨f0,f1,f2,f3,f4,f5⟩:=hf it (by simp)
  have hl:=rv.length
  exact wpAny_pyNext_tuple_end (I.ok.hd hc) st (show s.heap.IsTuple a its.toArray from p) (by simp;omega) fun h' eb=>⟨rfl,I.turned (t':=s.toks) (fun b o hb e=>eb b o hb e) f0 f1 f3 f4 f5⟩
 self:=fun _ _ _ _ _ st h=>wpAny_pyIter_tupleiter st h
theorem d9w {P:Program}{w:World}{K:PySem.W.Frag}{tg:Expr} (it:Addr) (lo:Int) (n:Nat):Turn P w K tg (Itr lo n) [it] it (fun i h=>IsRangeIter h it (lo+(i:Nat)*1) ((n:Int)-(i:Nat)) 1) where
 mem:=by simp
 obj:=fun i h st b hb=>by
  have e:b=it:=by simpa using hb
  subst e
  exact ⟨_,st,fun v z=>by
   have z':Data.fields _=Data.cell v:=z
   cases z'⟩
 keep:=fun i h h' st k=>k it (by simp) _ st
 item:=by
  intro X hP hw hK hc i pins s σ H E I hf st hg
  subst hP hw hK
  obtain ⟨f0,f1,f2,f3,f4,f5⟩:=hf it (by simp)
  have W:=Walks.range (prog:=X.prog) (w:=X.w) (I.ok.hd hc) it lo 1 n
  refine W.item i s _ _ hg st fun v h' tk hv st' kk=>?_
  obtain ⟨t,rfl⟩:=hv
  have I1:Inv X pins σ H { s with heap:=h',toks:=tk }:=I.turned (fun b o hb e=>kk b o (by simpa using hb) e) f0 f1 f3 f4 f5
  refine ⟨_,rfl,dDR (s:={ s with heap:=h',toks:=tk }) (n:="range_iterator") st' rfl rfl (by decide) ⟨.int (lo+i),H,I1,⟨t,?_⟩,⟨rfl,rfl⟩,st',fun b hb=>(hf b hb).1⟩⟩
  rw [Int.mul_one]
 done:=by
  intro X hP hw hK hc i pins s σ H E I hf st hg
  subst hP hw hK
  obtain ⟨f0,f1,f2,f3,f4,f5⟩:=hf it (by simp)
  exact wpAny_pyNext_range_end (I.ok.hd hc) st (by have:n≤i:=hg;omega) fun h' eb=>⟨rfl,I.turned (t':=s.toks) (fun b o hb e=>eb b o hb e) f0 f1 f3 f4 f5⟩
 self:=fun _ _ _ _ _ st h=>wpAny_pyIter_rangeiter st h
end L2
namespace L2
open PySem PySem.Spec PyProof.Rows
section
variable {X:Cx}{tg:Expr}
def dGc (K:PySem.W.Frag) (tl:TE):TI:=fun σ H R=>tl σ H fun x H1=>∃ a,x=.ref a∧(∃ xs,SqL K H1 a xs)∧R (Itl K a) H1
def iTup (K:PySem.W.Frag) (tl:TE):TI:=fun σ H R=>tl σ H fun x H1=>∃ a,x=.ref a∧(∃ xs,SqT K H1 a xs)∧R (Itt K a) H1
theorem gR {l:Expr}{tl:TE} (hl:PE X l tl):PI X tg l (dGc X.K tl):=by
 intro pins s σ H R I h
 refine thn (hl pins s σ H _ I h) fun v s1 ⟨x,H1,I1,r1,q1⟩=>?_
 obtain ⟨a,e,⟨xs,hq⟩,q⟩:=q1
 subst e
 cases r1
 obtain ⟨its,rv,p,hz⟩:=I1.list hq
 refine wpAny_pyIter_list p.isList ?_
 refine ⟨s1.heap.objs.size,[s1.heap.objs.size],_,_,H1,rfl,I1.kept (t':=s1.toks) fun b o e=>Heap.get?_push_of_some _ e,dC9 a _,⟨_,Heap.get?_push_size _ rfl,rfl,rfl⟩,fun b hb=>?_,q⟩
 have e:b=s1.heap.objs.size:=by simpa using hb
 subst e
 exact I1.fpOk (Nat.le_refl _) (I1.hok.fresh (Nat.le_refl _))
theorem dGB {l:Expr}{tl:TE} (hl:PE X l tl):PI X tg l (iTup X.K tl):=by
 intro pins s σ H R I h
 refine thn (hl pins s σ H _ I h) fun v s1 ⟨x,H1,I1,r1,q1⟩=>?_
 obtain ⟨a,e,⟨xs,hq⟩,q⟩:=q1
 subst e
 cases r1
 obtain ⟨its,rv,p,hz⟩:=I1.tuple hq
 refine wpAny_pyIter_tuple (show s1.heap.IsTuple a its.toArray from p) ?_
 refine ⟨s1.heap.objs.size,[s1.heap.objs.size],_,_,H1,rfl,I1.kept (t':=s1.toks) fun b o e=>Heap.get?_push_of_some _ e,dAW a _,⟨_,Heap.get?_push_size _ rfl,rfl,rfl⟩,fun b hb=>?_,q⟩
 have e:b=s1.heap.objs.size:=by simpa using hb
 subst e
 exact I1.fpOk (Nat.le_refl _) (I1.hok.fresh (Nat.le_refl _))
theorem dCp {pins:List (Addr×Obj)}{σ:St}{H:Hp}{s:Shared}{R:It→Hp→Prop}{E:Value→Shared→Prop}{lo hi:Int}{t u v:Tok}{tk:Nat} (I:Inv X pins σ H s) (h1:-(2 ^ 62)≤lo) (h2:lo < 2 ^ 62) (h3:-(2 ^ 62)≤hi) (h4:hi < 2 ^ 62)
  (q:R (Itr lo (hi-lo).toNat) H):wpAny (model X.prog X.w) X.A (pyIter (.ref s.heap.objs.size)) (PIE X pins σ tg R) E { s with heap:=s.heap.push { cls:=.type "range",data:=.fields #[.int lo t,.int hi u,.int 1 v] },toks:=tk }:=by
 refine wpAny_pyIter_range (IsRange.new ..) (small_one h1 h2 h3 h4) ?_
 have I1:Inv X pins σ H { s with heap:=s.heap.push { cls:=.type "range",data:=.fields #[.int lo t,.int hi u,.int 1 v] },toks:=tk }:=I.kept fun b o e=>Heap.get?_push_of_some _ e
 refine ⟨(s.heap.push { cls:=.type "range",data:=.fields #[.int lo t,.int hi u,.int 1 v] }).objs.size,[(s.heap.push { cls:=.type "range",data:=.fields #[.int lo t,.int hi u,.int 1 v] }).objs.size],_,_,H,rfl,
  I1.kept (t':=tk) fun b o e=>Heap.get?_push_of_some _ e,d9w _ lo (hi-lo).toNat,?_,fun b hb=>?_,q⟩
 ·have e1:lo+((0:Nat):Int)*1=lo:=by simp
  have e2:(((hi-lo).toNat:Nat):Int)-((0:Nat):Int)=Builtin.Range.rangeSize lo hi 1:=by rw [rangeSize_one];split <;> omega
  show IsRangeIter _ _ (lo+((0:Nat):Int)*1) ((((hi-lo).toNat:Nat):Int)-((0:Nat):Int)) 1
  rw [e1,e2]
  exact Heap.get?_push_size _ rfl
 ·have e:b=(s.heap.push { cls:=.type "range",data:=.fields #[.int lo t,.int hi u,.int 1 v] }).objs.size:=by simpa using hb
  subst e
  exact I1.fpOk (Nat.le_refl _) (I1.hok.fresh (Nat.le_refl _))
def dGm (ta:TA):TI:=fun σ H R=>ta σ H fun vs H1=>∃ i j:Int,vs=[.int i,.int j]∧(-(2 ^ 62)≤i∧i < 2 ^ 62∧-(2 ^ 62)≤j∧j < 2 ^ 62)∧R (Itr i (j-i).toNat) H1
theorem dCR {a b:Expr}{ta:TA}{p pos:Pos} (hg:Gl X "range") (hm:X.mg "range"=none) (ha:PA X [a,b] ta) (hs:starEach [a,b] X.env=[(false,eval a X.env),(false,eval b X.env)]:=by rfl) (hs2:starEach [b] X.env=[(false,eval b X.env)]:=by rfl) :
  PI X tg (.Call (.Name "range" p) [a,b] [] pos) (dGm ta):=by
 intro pins s σ H R I h
 refine Call_ (d9Z I hg hm boot_range (PyProof.Rows.callWith_type1 (thn (ha pos pins s σ H _ I h) fun us s1 ⟨vs,H1,I1,r1,q1⟩=>?_) (by rw [hs,hs2]) (by rw [hs2];rfl)))
 obtain ⟨i,j,e,⟨q1,q2,q3,q4⟩,q⟩:=q1
 subst e
 cases r1 with
 | cons r rr=>
  cases rr with
  | cons r' rr=>
   cases rr
   obtain ⟨t,rfl⟩:=r
   obtain ⟨t',rfl⟩:=r'
   exact call_range_2 (dCp I1 q1 q2 q3 q4 q)
def tFor (wi:TI) (g:TG) (tb:TS):TS:=fun D σ H=>wi σ H fun J H1=>∃ W:Nat→Nat→St→Hp→Prop,(∃ m,W 0 m σ H1)∧∀ i m σ H,W i m σ H →
 (J.stop i H∧D.nx σ H)∨(J.go i H∧∃ N:St→Hp→Prop,(∀ σ' H',N σ' H'→∃ m',m' < m∧W (i+1) m' σ' H')∧∀ x H',J.yld i H x H'→g x σ H' fun σ2 H2=>tb { D with nx:=N,ct:=N,bk:=D.nx } σ2 H2)
def d42 (fp:List Addr) (h:Heap):List (Addr×Obj):=fp.filterMap fun b=>(h.get? b).map fun o=>(b,o)
theorem vF {fp:List Addr}{h:Heap}{b:Addr}{o:Obj} (hb:b∈fp) (e:h.get? b=some o):(b,o)∈d42 fp h:=List.mem_filterMap.mpr ⟨b,hb,by rw [e];rfl⟩
theorem dAv {fp:List Addr}{h:Heap}{p:Addr×Obj} (hp:p∈d42 fp h):p.1∈fp∧h.get? p.1=some p.2:=by
 obtain ⟨b,hb,e⟩:=List.mem_filterMap.mp hp
 cases q:h.get? b with
 | none=>rw [q] at e;cases e
 | some o=>
  rw [q] at e
  have e':(b,o)=p:=Option.some.inj e
  subst e'
  exact ⟨hb,q⟩
theorem Inv.pinned {pins:List (Addr×Obj)}{σ:St}{H:Hp}{s:Shared}{fp:List Addr} (I:Inv X pins σ H s) (hf:∀ b∈fp,FpOk X pins H b) (ho:∀ b∈fp,∃ o,s.heap.get? b=some o∧∀ v,o.data≠.cell v):Inv X (pins++d42 fp s.heap) σ H s:=
 I.pins_of fun p hp=>(List.mem_append.mp hp).elim (fun z=>I.pin p (List.mem_append_right _ z)) fun z=>by
  obtain ⟨hb,e⟩:=dAv z
  obtain ⟨f0,f1,f2,_⟩:=hf p.1 hb
  obtain ⟨o,e',d⟩:=ho p.1 hb
  rw [e] at e';cases e'
  exact ⟨e,f0,f1,f2,d⟩
theorem Inv.unpinned {pins pl:List (Addr×Obj)}{σ:St}{H:Hp}{s:Shared} (I:Inv X (pins++pl) σ H s):Inv X pins σ H s:=I.pins_of fun p hp=>I.pin p (List.mem_append_right _ (List.mem_append_left _ hp))
theorem yK {iter:Expr}{body:List Stmt}{wi:TI}{g:TG}{tb:TS}{pos:Pos} (hp:PassesOwn (model X.prog X.w) X.A X.env X.xe) (hc:X.calm=true) (hi:PI X tg iter wi) (hg:PG X tg g) (hb:PSs X body tb)
  (hs:∀ x,foldedSetIterable iter X.env x=pure x:=by intro _;rfl):PS X (.For tg iter body [] pos) (tFor wi g tb):=by
 intro pins s σ H D I h
 refine wpAny_For (thn (hi pins s σ H _ I h) fun v s1 h1=>thn h1 fun itv s2 h2=>?_) hs
 obtain ⟨it,fp,tn,J,H2,e,I2,T,st2,f2,W,⟨m0,w0⟩,turn⟩:=h2
 subst e
 have stat:∀ {H':Hp},(∀ b∈fp,H' b=none)→∀ b∈fp,FpOk X pins H' b:=fun hn b hb=>⟨hn b hb,(f2 b hb).2⟩
 refine codeAny_forLoop_any (fun n s'=>∃ i σ' H',Inv X pins σ' H' s'∧tn i s'.heap∧(∀ b∈fp,H' b=none)∧W i n σ' H') ?_ m0 ⟨0,σ,H2,I2,st2,fun b hb=>(f2 b hb).1,w0⟩
 rintro n s3 ⟨i,σ3,H3,I3,st3,fr3,w3⟩
 rcases turn i n σ3 H3 w3 with ⟨stop,qn⟩ | ⟨go,N,hN,step⟩
 ·refine wpAny_passesOwn hp (thn (T.done X rfl rfl rfl hc i pins s3 σ3 H3 X.xe I3 (stat fr3) st3 stop) fun r s4 ⟨hr,I4⟩=>?_)
  subst hr
  exact wpAny_execs_nil ⟨σ3,H3,I4,qn⟩
 ·refine wpAny_passesOwn hp (thn (T.item X rfl rfl rfl hc i pins s3 σ3 H3 X.xe I3 (stat fr3) st3 go) fun r s4 ⟨u,hr,h4⟩=>?_)
  subst hr
  refine wpAny_passesOwn hp (thn h4 fun _ s5 ⟨x,H5,I5,r5,y5,st5,fr5⟩=>?_)
  have I5':=I5.pinned (stat fr5) (T.obj _ _ st5)
  refine wpAny_passesOwn hp (thn (hg _ s5 σ3 H5 x u _ I5' r5 (step x H5 y5)) fun _ s6 ⟨σ6,H6,I6,q6⟩=>?_)
  refine wpAny_passesOwn hp (thn (hb _ s6 σ6 H6 _ I6 q6) fun f s7 q7=>?_)
  have again:∀ {σ7:St}{H7:Hp},Inv X (pins++d42 fp s5.heap) σ7 H7 s7→N σ7 H7→∃ m,m < n∧∃ i σ' H',Inv X pins σ' H' s7∧tn i s7.heap∧(∀ b∈fp,H' b=none)∧W i m σ' H':=fun {σ7 H7} I7 n7=>by
   obtain ⟨m',hm,w7⟩:=hN σ7 H7 n7
   refine ⟨m',hm,i+1,σ7,H7,I7.unpinned,T.keep _ _ _ st5 fun b hb o e=>(I7.pin (b,o) (List.mem_append_right _ (List.mem_append_right _ (vF hb e)))).1,fun b hb=>?_,w7⟩
   obtain ⟨o,e,d⟩:=T.obj _ _ st5 b hb
   exact (I7.pin (b,o) (List.mem_append_right _ (List.mem_append_right _ (vF hb e)))).2.1
  cases f with
  | next=>obtain ⟨σ7,H7,I7,n7⟩:=q7;exact again I7 n7
  | cont=>obtain ⟨σ7,H7,I7,n7⟩:=q7;exact again I7 n7
  | brk=>obtain ⟨σ7,H7,I7,q7⟩:=q7;exact ⟨σ7,H7,I7.unpinned,q7⟩
  | ret v=>obtain ⟨x7,σ7,H7,I7,r7,q7⟩:=q7;exact ⟨x7,σ7,H7,I7.unpinned,r7,q7⟩
end
theorem ue {K:PySem.W.Frag}{a:Addr}{xs:List V}{g:TG}{tb:TS}{D:Ends}{σ:St}{H:Hp} (Pv:Nat→St→Hp→Prop) (h0:Pv 0 σ H) (hl:∀ i σ H,i≤xs.length→Pv i σ H→SqL K H a xs)
  (hs:∀ i x σ H,xs[i]?=some x→Pv i σ H→g x σ H fun σ2 H2=>tb { D with nx:=Pv (i+1),ct:=Pv (i+1),bk:=D.nx } σ2 H2) (hd:∀ σ H,Pv xs.length σ H→D.nx σ H) :
  ∃ W:Nat→Nat→St→Hp→Prop,(∃ m,W 0 m σ H)∧∀ i m σ H,W i m σ H →
   ((Itl K a).stop i H∧D.nx σ H)∨((Itl K a).go i H∧∃ N:St→Hp→Prop,(∀ σ' H',N σ' H'→∃ m',m' < m∧W (i+1) m' σ' H')∧∀ x H',(Itl K a).yld i H x H'→g x σ H' fun σ2 H2=>tb { D with nx:=N,ct:=N,bk:=D.nx } σ2 H2):=by
 refine ⟨fun i m σ H=>m=xs.length-i∧i≤xs.length∧Pv i σ H,⟨xs.length,by simp,Nat.zero_le _,h0⟩,?_⟩
 rintro i m σ H ⟨rfl,hi,p⟩
 have q:=hl i σ H hi p
 by_cases hlt:i < xs.length
 ·refine .inr ⟨⟨xs,xs[i],q,by simp [hlt]⟩,Pv (i+1),fun σ' H' p'=>⟨xs.length-(i+1),by omega,rfl,hlt,p'⟩,fun x H' y=>?_⟩
  obtain ⟨e,y⟩:=y
  subst e
  exact hs i x σ _ (y xs q) p
 ·have e:i=xs.length:=by omega
  subst e
  exact .inl ⟨⟨xs,q,Nat.le_refl _⟩,hd σ H p⟩
theorem dFK {K:PySem.W.Frag}{a:Addr}{xs:List V}{g:TG}{tb:TS}{D:Ends}{σ:St}{H:Hp} (Pv:Nat→St→Hp→Prop) (h0:Pv 0 σ H) (hl:∀ i σ H,i≤xs.length→Pv i σ H→SqT K H a xs)
  (hs:∀ i x σ H,xs[i]?=some x→Pv i σ H→g x σ H fun σ2 H2=>tb { D with nx:=Pv (i+1),ct:=Pv (i+1),bk:=D.nx } σ2 H2) (hd:∀ σ H,Pv xs.length σ H→D.nx σ H) :
  ∃ W:Nat→Nat→St→Hp→Prop,(∃ m,W 0 m σ H)∧∀ i m σ H,W i m σ H →
   ((Itt K a).stop i H∧D.nx σ H)∨((Itt K a).go i H∧∃ N:St→Hp→Prop,(∀ σ' H',N σ' H'→∃ m',m' < m∧W (i+1) m' σ' H')∧∀ x H',(Itt K a).yld i H x H'→g x σ H' fun σ2 H2=>tb { D with nx:=N,ct:=N,bk:=D.nx } σ2 H2):=by
 refine ⟨fun i m σ H=>m=xs.length-i∧i≤xs.length∧Pv i σ H,⟨xs.length,by simp,Nat.zero_le _,h0⟩,?_⟩
 rintro i m σ H ⟨rfl,hi,p⟩
 have q:=hl i σ H hi p
 by_cases hlt:i < xs.length
 ·refine .inr ⟨⟨xs,xs[i],q,by simp [hlt]⟩,Pv (i+1),fun σ' H' p'=>⟨xs.length-(i+1),by omega,rfl,hlt,p'⟩,fun x H' y=>?_⟩
  obtain ⟨e,y⟩:=y
  subst e
  exact hs i x σ _ (y xs q) p
 ·have e:i=xs.length:=by omega
  subst e
  exact .inl ⟨⟨xs,q,Nat.le_refl _⟩,hd σ H p⟩
end L2
namespace L2
open PySem PySem.Spec PyProof.Rows
abbrev R2:=V→V→Hp→VK→Prop
def OpR (X:Cx) (f:Value→Value→Sem Value) (r:R2):Prop:=
 ∀ (pins:List (Addr×Obj)) (s:Shared) (σ:St) (H:Hp) (x y:V) (v u:Value) (Q:VK),Inv X pins σ H s→RelV x v→RelV y u→r x y H Q →
  wpAny (model X.prog X.w) X.A (f v u) (EP X pins σ Q) X.xe s
def UnR (X:Cx) (f:Value→Sem Value) (r:V→Hp→VK→Prop):Prop:=
 ∀ (pins:List (Addr×Obj)) (s:Shared) (σ:St) (H:Hp) (x:V) (v:Value) (Q:VK),Inv X pins σ H s→RelV x v→r x H Q →
  wpAny (model X.prog X.w) X.A (f v) (EP X pins σ Q) X.xe s
def w9 (X:Cx) (f:Value) (r:List V→Hp→VK→Prop):Prop:=
 ∀ (pins:List (Addr×Obj)) (s:Shared) (σ:St) (H:Hp) (xs:List V) (us:List Value) (Q:VK),Inv X pins σ H s→Vals xs us→r xs H Q →
  wpAny (model X.prog X.w) X.A (call f us) (EP X pins σ Q) X.xe s
def tOp (r:R2) (ta tb:TE):TE:=fun σ H Q=>ta σ H fun x H1=>tb σ H1 fun y H2=>r x y H2 Q
def tUn (r:V→Hp→VK→Prop) (ta:TE):TE:=fun σ H Q=>ta σ H fun x H1=>r x H1 Q
def rI (C:Int→Int→Prop) (g:Int→Int→V):R2:=fun x y H Q=>∃ i j,x=.int i∧y=.int j∧C i j∧Q (g i j) H
def rI0 (g:Int→Int→V):R2:=fun x y H Q=>∃ i j,x=.int i∧y=.int j∧Q (g i j) H
def rU (g:Int→V):V→Hp→VK→Prop:=fun x H Q=>∃ i,x=.int i∧Q (g i) H
section
variable {X:Cx}{a b c:Expr}{ta tb tc:TE}{pos:Pos}
theorem binT (ha:PE X a ta) (hb:PE X b tb) {pins:List (Addr×Obj)}{s:Shared}{σ:St}{H:Hp}{R:V→V→Hp→Prop} (I:Inv X pins σ H s)
  (h:ta σ H fun x H1=>tb σ H1 fun y H2=>R x y H2) {Q:Value→Shared→Prop}{f:Value→Value→Sem Value}
  (hf:∀ v u s2 x y H2,Inv X pins σ H2 s2→RelV x v→RelV y u→R x y H2→wpAny (model X.prog X.w) X.A (f v u) Q X.xe s2) :
  wpAny (model X.prog X.w) X.A (eval a X.env) (fun v s₁=>wpAny (model X.prog X.w) X.A (eval b X.env) (fun u s₂=>wpAny (model X.prog X.w) X.A (f v u) Q X.xe s₂) X.xe s₁) X.xe s:=by
 refine thn (ha pins s σ H _ I h) fun v s1 ⟨x,H1,I1,r1,q1⟩=>?_
 refine thn (hb pins s1 σ H1 _ I1 q1) fun u s2 ⟨y,H2,I2,r2,q2⟩=>?_
 exact hf v u s2 x y H2 I2 r1 r2 q2
theorem jT {op:Operator}{r:R2} (ho:OpR X (binaryOp op) r) (ha:PE X a ta) (hb:PE X b tb):PE X (.BinOp a op b pos) (tOp r ta tb):=by
 intro pins s σ H Q I h
 exact wpAny_BinOp (binT ha hb I h fun v u s2 x y H2 I2 rx ry q=>ho pins s2 σ H2 x y v u Q I2 rx ry q)
theorem d8U {op:UnaryOp}{r:V→Hp→VK→Prop} (ho:UnR X (unaryOp op) r) (ha:PE X a ta):PE X (.UnaryOp op a pos) (tUn r ta):=by
 intro pins s σ H Q I h
 exact UnaryOp_ (thn (ha pins s σ H _ I h) fun v s1 ⟨x,H1,I1,r1,q1⟩=>ho pins s1 σ H1 x v Q I1 r1 q1)
theorem opI {f:Value→Value→Sem Value}{C:Int→Int→Prop}{g:Int→Int→Int}
  (rule:∀ (i j:Int) (t u:Tok) (s:Shared) (Q:Value→Shared→Prop) (E:Value→Shared→Prop),C i j→Q (.int (g i j) s.toks) { s with toks:=s.toks+1 }→wpAny (model X.prog X.w) X.A (f (.int i t) (.int j u)) Q E s) :
  OpR X f (rI C fun i j=>.int (g i j)):=by
 intro pins s σ H x y v u Q I rx ry h
 obtain ⟨i,j,rfl,rfl,hc,q⟩:=h
 obtain ⟨t,rfl⟩:=rx
 obtain ⟨t',rfl⟩:=ry
 exact rule i j t t' s _ _ hc ⟨.int (g i j),H,I.tok _,⟨_,rfl⟩,q⟩
theorem opI0 {f:Value→Value→Sem Value}{g:Int→Int→Int}
  (rule:∀ (i j:Int) (t u:Tok) (s:Shared) (Q:Value→Shared→Prop) (E:Value→Shared→Prop),Q (.int (g i j) s.toks) { s with toks:=s.toks+1 }→wpAny (model X.prog X.w) X.A (f (.int i t) (.int j u)) Q E s) :
  OpR X f (rI0 fun i j=>.int (g i j)):=by
 intro pins s σ H x y v u Q I rx ry h
 obtain ⟨i,j,rfl,rfl,q⟩:=h
 obtain ⟨t,rfl⟩:=rx
 obtain ⟨t',rfl⟩:=ry
 exact rule i j t t' s _ _ ⟨.int (g i j),H,I.tok _,⟨_,rfl⟩,q⟩
theorem opB0 {f:Value→Value→Sem Value}{g:Int→Int→Bool}
  (rule:∀ (i j:Int) (t u:Tok) (s:Shared) (Q:Value→Shared→Prop) (E:Value→Shared→Prop),Q (.bool (g i j)) s→wpAny (model X.prog X.w) X.A (f (.int i t) (.int j u)) Q E s) :
  OpR X f (rI0 fun i j=>.bl (g i j)):=by
 intro pins s σ H x y v u Q I rx ry h
 obtain ⟨i,j,rfl,rfl,q⟩:=h
 obtain ⟨t,rfl⟩:=rx
 obtain ⟨t',rfl⟩:=ry
 exact rule i j t t' s _ _ ⟨.bl (g i j),H,I,rfl,q⟩
def CMul (i j:Int):Prop:=(-(2 ^ 64) < i∧i < 2 ^ 64)∨(-(2 ^ 64) < j∧j < 2 ^ 64)
theorem CMul.ok {i j:Int} (h:CMul i j):IntMulOk i j:=by
 rcases h with ⟨h1,h2⟩ | ⟨h1,h2⟩
 ·exact .of_left (intBits_le_64 h1 h2)
 ·exact .of_right (intBits_le_64 h1 h2)
theorem dAU (k:Nat):(0:Int)≤2 ^ k:=by
 rw [two_pow_cast]
 exact Int.natCast_nonneg _
theorem dBw:OpR X (binaryOp .Add) (rI0 fun i j=>.int (i+j)):=opI0 fun _ _ _ _ _ _ _ q=>add_int q
theorem wq:OpR X (binaryOp .Sub) (rI0 fun i j=>.int (i-j)):=opI0 fun _ _ _ _ _ _ _ q=>sub_int q
theorem d9L:OpR X (binaryOp .Mult) (rI CMul fun i j=>.int (i*j)):=opI fun _ _ _ _ _ _ _ hc q=>mul_int q hc.ok
theorem d94:OpR X (binaryOp .Mod) (rI (fun _ j=>0 < j) fun i j=>.int (i%j)):=opI fun i j _ _ _ _ _ hc q=>by
 have h1:(0:Int) < j:=hc
 exact mod_int' (by omega) (by rw [Int.fmod_eq_emod_of_nonneg i (by omega)];exact q)
theorem dBz:OpR X (binaryOp .RShift) (rI (fun _ j=>0≤j) fun i j=>.int (i / 2 ^ j.toNat)):=opI fun i j _ _ _ _ _ hc q=>
 rshift_int hc (by rw [Int.fdiv_eq_ediv_of_nonneg i (dAU _)];exact q)
theorem dDr:OpR X (binaryOp .BitAnd) (rI0 fun i j=>.int (Builtin.bitAnd i j)):=opI0 fun _ _ _ _ _ _ _ q=>and_int q
theorem unI {f:Value→Sem Value}{g:Int→Int}
  (rule:∀ (i:Int) (t:Tok) (s:Shared) (Q:Value→Shared→Prop) (E:Value→Shared→Prop),Q (.int (g i) s.toks) { s with toks:=s.toks+1 }→wpAny (model X.prog X.w) X.A (f (.int i t)) Q E s) :
  UnR X f (rU fun i=>.int (g i)):=by
 intro pins s σ H x v Q I rx h
 obtain ⟨i,rfl,q⟩:=h
 obtain ⟨t,rfl⟩:=rx
 exact rule i t s _ _ ⟨.int (g i),H,I.tok _,⟨_,rfl⟩,q⟩
theorem vt:UnR X (unaryOp .USub) (rU fun i=>.int (-i)):=unI fun _ _ _ _ _ q=>neg_int q
end
def scal:V→V→Bool
 | .non,.non=>true | .non,.int _=>true | .int _,.non=>true | .non,.bl _=>true | .bl _,.non=>true | .non,.str _=>true | .str _,.non=>true
 | .int _,.int _=>true | .bl _,.bl _=>true | .str _,.str _=>true | .byt _,.byt _=>true
 | .int _,.str _=>true | .str _,.int _=>true | .bl _,.str _=>true | .str _,.bl _=>true
 | _,_=>false
def rEq:R2:=fun x y H Q=>scal x y=true∧Q (.bl (decide (x=y))) H
def rNe:R2:=fun x y H Q=>scal x y=true∧Q (.bl (!decide (x=y))) H
theorem dBr {i j:Int}:decide (V.int i=V.int j)=(i==j):=by
 rw [Bool.eq_iff_iff]
 simp
theorem dE6 {i j:Bool}:decide (V.bl i=V.bl j)=(i==j):=by
 rw [Bool.eq_iff_iff]
 simp
theorem dAx {i j:Str}:decide (V.str i=V.str j)=(i==j):=by
 rw [Bool.eq_iff_iff]
 simp
theorem dBD {i j:Array UInt8}:decide (V.byt i=V.byt j)=(i.toList==j.toList):=by
 rw [Bool.eq_iff_iff]
 cases i
 cases j
 simp
section
variable {X:Cx}{a b c:Expr}{ta tb tc:TE}{pos:Pos}
theorem dw {pins:List (Addr×Obj)}{σ:St}{H:Hp}{s:Shared}{Q:VK}{k k':Bool} (I:Inv X pins σ H s) (q:Q (.bl k) H) (e:k=k'):EP X pins σ Q (.bool k') s:=by
 subst e
 exact ⟨.bl k,H,I,rfl,q⟩
theorem kL:OpR X (compareOp .Eq) rEq:=by
 intro pins s σ H x y v u Q I rx ry h
 obtain ⟨hs,q⟩:=h
 cases x with
 | non=>
  cases rx
  cases y with
  | non=>cases ry;exact PySem.EqNone.eq_none_none (dw I q (by simp))
  | bl j=>cases ry;exact PySem.EqNone.eq_none_bool (dw I q (by simp))
  | int j=>obtain ⟨t',rfl⟩:=ry;exact PySem.EqNone.eq_none_int (dw I q (by simp))
  | str j=>obtain ⟨t',rfl⟩:=ry;exact PySem.EqNone.eq_none_str (dw I q (by simp))
  | _=>exact absurd (show false=true from hs) Bool.false_ne_true
 | bl i=>
  cases rx
  cases y with
  | non=>cases ry;exact PySem.EqNone.eq_bool_none (dw I q (by simp))
  | bl j=>cases ry;exact eq_bool (dw I q dE6)
  | str j=>obtain ⟨t',rfl⟩:=ry;exact PySem.EqMixed.eq_bool_str (dw I q (by simp))
  | _=>exact absurd (show false=true from hs) Bool.false_ne_true
 | int i=>
  obtain ⟨t,rfl⟩:=rx
  cases y with
  | non=>cases ry;exact PySem.EqNone.eq_int_none (dw I q (by simp))
  | int j=>obtain ⟨t',rfl⟩:=ry;exact eq_int (dw I q dBr)
  | str j=>obtain ⟨t',rfl⟩:=ry;exact PySem.EqMixed.eq_int_str (dw I q (by simp))
  | _=>exact absurd (show false=true from hs) Bool.false_ne_true
 | str i=>
  obtain ⟨t,rfl⟩:=rx
  cases y with
  | non=>cases ry;exact PySem.EqNone.eq_str_none (dw I q (by simp))
  | bl j=>cases ry;exact PySem.EqMixed.eq_str_bool (dw I q (by simp))
  | int j=>obtain ⟨t',rfl⟩:=ry;exact PySem.EqMixed.eq_str_int (dw I q (by simp))
  | str j=>obtain ⟨t',rfl⟩:=ry;exact eq_str (dw I q dAx)
  | _=>exact absurd (show false=true from hs) Bool.false_ne_true
 | byt i=>
  obtain ⟨t,rfl⟩:=rx
  cases y with
  | byt j=>obtain ⟨t',rfl⟩:=ry;exact PySem.W.eq_bytes (dw I q dBD)
  | _=>exact absurd (show false=true from hs) Bool.false_ne_true
 | _=>cases y <;> exact absurd (show false=true from hs) Bool.false_ne_true
theorem d5B:OpR X (compareOp .NotEq) rNe:=by
 intro pins s σ H x y v u Q I rx ry h
 obtain ⟨hs,q⟩:=h
 cases x with
 | non=>
  cases rx
  cases y with
  | non=>cases ry;exact PySem.EqNone.ne_none_none (dw I q (by simp))
  | bl j=>cases ry;exact PySem.EqNone.ne_none_bool (dw I q (by simp))
  | int j=>obtain ⟨t',rfl⟩:=ry;exact PySem.EqNone.ne_none_int (dw I q (by simp))
  | str j=>obtain ⟨t',rfl⟩:=ry;exact PySem.EqNone.ne_none_str (dw I q (by simp))
  | _=>exact absurd (show false=true from hs) Bool.false_ne_true
 | bl i=>
  cases rx
  cases y with
  | non=>cases ry;exact PySem.EqNone.ne_bool_none (dw I q (by simp))
  | bl j=>cases ry;exact ne_bool (dw I q (congrArg not dE6))
  | str j=>obtain ⟨t',rfl⟩:=ry;exact PySem.EqMixed.ne_bool_str (dw I q (by simp))
  | _=>exact absurd (show false=true from hs) Bool.false_ne_true
 | int i=>
  obtain ⟨t,rfl⟩:=rx
  cases y with
  | non=>cases ry;exact PySem.EqNone.ne_int_none (dw I q (by simp))
  | int j=>obtain ⟨t',rfl⟩:=ry;exact ne_int (dw I q (congrArg not dBr))
  | str j=>obtain ⟨t',rfl⟩:=ry;exact PySem.EqMixed.ne_int_str (dw I q (by simp))
  | _=>exact absurd (show false=true from hs) Bool.false_ne_true
 | str i=>
  obtain ⟨t,rfl⟩:=rx
  cases y with
  | non=>cases ry;exact PySem.EqNone.ne_str_none (dw I q (by simp))
  | bl j=>cases ry;exact PySem.EqMixed.ne_str_bool (dw I q (by simp))
  | int j=>obtain ⟨t',rfl⟩:=ry;exact PySem.EqMixed.ne_str_int (dw I q (by simp))
  | str j=>obtain ⟨t',rfl⟩:=ry;exact ne_str (dw I q (congrArg not dAx))
  | _=>exact absurd (show false=true from hs) Bool.false_ne_true
 | byt i=>
  obtain ⟨t,rfl⟩:=rx
  cases y with
  | byt j=>obtain ⟨t',rfl⟩:=ry;exact PySem.W.ne_bytes (dw I q (congrArg not dBD))
  | _=>exact absurd (show false=true from hs) Bool.false_ne_true
 | _=>cases y <;> exact absurd (show false=true from hs) Bool.false_ne_true
theorem d8C:OpR X (compareOp .Lt) (rI0 fun i j=>.bl (decide (i < j))):=opB0 fun _ _ _ _ _ _ _ q=>lt_int q
theorem dDI:OpR X (compareOp .LtE) (rI0 fun i j=>.bl (decide (i≤j))):=opB0 fun _ _ _ _ _ _ _ q=>le_int q
theorem yq:OpR X (compareOp .Gt) (rI0 fun i j=>.bl (decide (j < i))):=opB0 fun _ _ _ _ _ _ _ q=>gt_int q
theorem dCA:OpR X (compareOp .GtE) (rI0 fun i j=>.bl (decide (j≤i))):=opB0 fun _ _ _ _ _ _ _ q=>ge_int q
theorem dW (b:Expr) {op:CmpOp} (h:op≠.In:=by decide) (h2:op≠.NotIn:=by decide):behindInMarks op b=false:=by
 have e1:(op==CmpOp.In)=false:=by cases op <;> first | rfl | exact absurd rfl h
 have e2:(op==CmpOp.NotIn)=false:=by cases op <;> first | rfl | exact absurd rfl h2
 cases b <;> simp [behindInMarks,e1,e2]
theorem gi {op:CmpOp}{r:R2} (ho:OpR X (compareOp op) r) (ha:PE X a ta) (hb:PE X b tb) (hm:behindInMarks op b=false):PE X (.Compare a [op] [b] pos) (tOp r ta tb):=by
 intro pins s σ H Q I h
 exact wpAny_Compare1 (binT ha hb I h fun v u s2 x y H2 I2 rx ry q=>ho pins s2 σ H2 x y v u Q I2 rx ry q) hm
def dGU (t:TE):TT:=fun σ H Q=>t σ H fun x H'=>∃ k,x=.bl k∧Q k H'
theorem dQ {op:CmpOp}{r:R2} (ho:OpR X (compareOp op) r) (ha:PE X a ta) (hb:PE X b tb) (hm:behindInMarks op b=false):PT X (.Compare a [op] [b] pos) (dGU (tOp r ta tb)):=by
 intro pins s σ H Q I h
 refine wpAny_isTrue_Compare1 (thn (ha pins s σ H _ I h) fun v s1 ⟨x,H1,I1,r1,q1⟩=>thn (hb pins s1 σ H1 _ I1 q1) fun u s2 ⟨y,H2,I2,r2,q2⟩=>
  thn (ho pins s2 σ H2 x y v u _ I2 r1 r2 q2) fun c s3 ⟨z,H3,I3,r3,k,e,q3⟩=>?_) hm
 subst e
 cases r3
 exact wpAny_truthy_bool ⟨H3,I3,q3⟩
theorem d4b:(sizeLine:Nat) < 2 ^ 63:=by rw [sizeLine_eq];decide
theorem d9r:OpR X (binaryOp .Add) (fun x y H Q=>∃ i j,x=.str i∧y=.str j∧i.length+j.length≤sizeLine∧Q (.str (i++j)) H):=by
 intro pins s σ H x y v u Q I rx ry h
 obtain ⟨i,j,rfl,rfl,hz,q⟩:=h
 obtain ⟨t,rfl⟩:=rx
 obtain ⟨t',rfl⟩:=ry
 exact add_str (fun t' tk=>⟨.str (i++j),H,I.tok _,⟨_,rfl⟩,q⟩) hz
theorem dCo {x:V}{us:List Value} (r:Vals [x] us):∃ u,us=[u]∧RelV x u:=by
 cases r with
 | cons r1 r2=>cases r2;exact ⟨_,rfl,r1⟩
theorem dGq {x y:V}{us:List Value} (r:Vals [x,y] us):∃ u w',us=[u,w']∧RelV x u∧RelV y w':=by
 cases r with
 | cons r1 r2=>
  cases r2 with
  | cons r3 r4=>cases r4;exact ⟨_,_,rfl,r1,r3⟩
theorem dCZ:w9 X (.builtin "ord") (fun xs H Q=>∃ x,xs=[.str x]∧x.length=1∧Q (.int (x.cps.getD 0 0:Nat)) H):=by
 intro pins s σ H xs us Q I r h
 obtain ⟨x,rfl,hz,q⟩:=h
 obtain ⟨u,rfl,t,rfl⟩:=dCo r
 exact ord_of_one hz ⟨.int _,H,I.tok _,⟨_,rfl⟩,q⟩
end
end L2
namespace L2
open PySem PySem.Spec PyProof.Rows
structure ObjM (h:Heap) (x dx C:Addr) (mA:Str→Option Value):Prop where
 obj:h.get? x=some (PySem.W.instObj C dx)
 ns:h.Ns1 dx mA
 ne:dx≠x
theorem d48 {h:Heap}{dx:Addr}{mA:Str→Option Value} (n:h.Ns1 dx mA):∃ od,h.get? dx=some od∧∀ name,PySem.W.lookIn name od=some (mA name):=by
 obtain ⟨o,es,ep,ho,hd,hk,_,hm⟩:=n
 refine ⟨o,ho,fun name=>?_⟩
 have e:=hm name
 unfold nsFind findBy at e
 rw [←Array.find?_toList] at e
 unfold PySem.W.lookIn
 rw [hd]
 dsimp only
 split
 ·rename_i y q
  rw [q] at e
  exact congrArg some e
 ·rename_i q
  rw [q] at e
  have a:es.toList.any (·.refKey)=false:=by
   rw [List.any_eq_false]
   intro y hy
   obtain ⟨z,t,hkey⟩:=hk y (Array.mem_toList_iff.mp hy)
   simp [DictEntry.refKey,hkey]
  have a':¬ es.toList.any (·.refKey)=true:=by rw [a];exact Bool.false_ne_true
  rw [if_neg a']
  exact congrArg some e
theorem ObjM.look {h:Heap}{x dx C:Addr}{mA:Str→Option Value} (I:ObjM h x dx C mA):∃ od,PySem.W.InstAt h x (PySem.W.instObj C dx) C (some od)∧∀ name,PySem.W.lookIn name od=some (mA name):=
 let ⟨od,ho,hl⟩:=d48 I.ns
 ⟨od,⟨I.obj,rfl,rfl,ho⟩,hl⟩
section
variable {prog:Program}{w:World}{A:Around}{E:Value→Shared→Prop}{s:Shared}{K:PySem.W.Frag}{x dx C f:Addr}{mA:Str→Option Value}{name:Str}{v:Value}
theorem dFI {expr:Bool}{Q:Value→Shared→Prop} (X:K.In s.heap) (I:ObjM s.heap x dx C mA) (hg:PySem.W.plainGet K C name=true) (hh:PySem.W.hasDictIn K C=true)
  (ha:PySem.W.findIn K (.ref C) name=some none) (hv:mA name=some v) (hv':PySem.W.handedIn v=true) (h:Q v { s with toks:=s.toks+1 }) :
  wpAny (model prog w) A (getAttr (.ref x) name expr) Q E s:=by
 obtain ⟨od,J,hl⟩:=I.look
 exact PySem.W.get_value X J (PySem.W.plainGet_of hg).1 (PySem.W.findObj_own hh ha rfl (by rw [hl,hv])) hv' h
theorem dCr {pl:Sem Bool}{Q:Value×List Value→Shared→Prop} (X:K.In s.heap) (I:ObjM s.heap x dx C mA) (hg:PySem.W.plainGet K C name=true)
  (hf:PySem.W.findIn K (.ref C) name=some (some (.ref f))) (ht:PySem.W.isFn K (.ref f)=true) (hv:mA name=none) (h:Q (.ref f,[.ref x]) s) :
  wpAny (model prog w) A (getMethod (.ref x) name pl) Q E s:=by
 obtain ⟨od,J,hl⟩:=I.look
 exact PySem.W.method_fn X J (PySem.W.plainGet_of hg).1 (PySem.W.plainGet_of hg).2 hf (beq_iff_eq.mp ht) (by show (PySem.W.lookIn name od).map (·.isSome)=some false;rw [hl,hv];rfl) h
theorem dEl {ns:List Str}{Q:Unit→Shared→Prop} (X:K.In s.heap) (I:ObjM s.heap x dx C mA)
  (hs:PySem.W.findIn K (.ref C) "__setattr__"=some (some (.builtin "object.__setattr__"))) (hp:PySem.W.plainOver K C=true) (ht:PySem.W.takerIn K C name=some none) (hh:PySem.W.hasDictIn K C=true)
  (hw:PySem.Within mA ns) (hsz:ns.length≤sizeLine)
  (h:∀ h',ObjM h' x dx C (fun y=>if y=name then some v else mA y)→Heap.SameBut dx s.heap h'→Q () { s with heap:=h',toks:=s.toks+2 }) :
  wpAny (model prog w) A (setAttr (.ref x) name v) Q E s:=by
 obtain ⟨od,J,hl⟩:=I.look
 refine PySem.W.set_plain X J hs (PySem.W.osa_open (s:={ s with toks:=s.toks+1 }) (r:=none) X J hp ht fun b=>?_)
 obtain ⟨cd,hc,hd'⟩:=PySem.W.any_some hh
 have hx:s.heap.get? x=some ⟨.ref C,some dx,.plain,#[]⟩:=I.obj
 refine wpAny_bind (wpAny_pure (wpAny_bind (wpAny_bind (wpAny_loadPart hx (wpAny_bind (PySem.W.Looks.here (s:={ s with toks:=s.toks+1 }) (PySem.W.looks_clsIn X hc) ?_))))))
 rw [hd']
 refine wpAny_pure (a:=some dx) (wpAny_bind (wpAny_pure (wpAny_bind ?_)))
 refine wpAny_nsSet1 (s:={ s with toks:=s.toks+1 }) I.ns fun h' hn2 hs2=>?_
 obtain ⟨oD,esD,epD,hoD,hdD,hcD⟩:=hn2.count (PySem.Within.cons name v hw)
 refine wpAny_bind (wpAny_lookBehind hoD (by rw [hdD];exact pastItsLine_dict (Nat.le_trans hcD (by rw [List.length_cons];omega))) ?_)
 exact wpAny_pure (h _ ⟨(hs2.2 _ (Ne.symm I.ne)).trans I.obj,hn2,I.ne⟩ hs2)
theorem dCy {R:Result→Shared→Prop}{vs:List Value}{kw:List (Str×Value)} (X:K.In s.heap) (hm:PySem.W.makesIn K C=true)
  (hi:PySem.W.findIn K (.ref C) "__init__"=some (some (.ref f))) (hf:PySem.W.typeIn K (.ref f)=some (.type "function"))
  (h:codeAny (model prog w) (A.under (.builtin "type.__call__" ⟨.ref C::vs,kw⟩)) (.call (.ref f) ⟨.ref (s.heap.objs.size+1)::vs,kw⟩) (PySem.W.InitBack (s.heap.objs.size+1) R)
   { s with heap:=(s.heap.push PySem.W.emptyDict).push (PySem.W.instObj C s.heap.objs.size) }) :
  codeAny (model prog w) A (.call (.ref C) ⟨vs,kw⟩) R s:=by
 obtain ⟨hh,g,d,t,os⟩:=s
 exact PySem.W.make_core (PySem.W.makes_of X hm) (PySem.W.looks_findIn X hi) (fun self=>PySem.W.bind_fn X self hf) (.inl rfl) h
end
def putF (f:Str) (v:V):List (Str×V)→List (Str×V)
 | []=>[(f,v)]
 | (g,x)::r=>if g=f then (g,v)::r else (g,x)::putF f v r
theorem wE (f g:Str) (v:V):∀ fs:List (Str×V),(putF f v fs).lookup g=if g=f then some v else fs.lookup g
 | []=>by
  show List.lookup g [(f,v)]=_
  by_cases h:g=f
  ·have hb:(g==f)=true:=beq_iff_eq.mpr h
   simp only [List.lookup,hb,if_pos h]
  ·have hb:(g==f)=false:=beq_eq_false_iff_ne.mpr h
   simp only [List.lookup,hb,if_neg h]
 | (k,x)::r=>by
  have ih:=wE f g v r
  rw [show putF f v ((k,x)::r)=(if k=f then (k,v)::r else (k,x)::putF f v r) from rfl]
  by_cases hk:k=f
  ·rw [if_pos hk]
   by_cases h:g=k
   ·have hb:(g==k)=true:=beq_iff_eq.mpr h
    simp only [List.lookup,hb,if_pos (h.trans hk)]
   ·have hb:(g==k)=false:=beq_eq_false_iff_ne.mpr h
    simp only [List.lookup,hb,if_neg (fun e:g=f=>h (e.trans hk.symm))]
  ·rw [if_neg hk]
   by_cases h:g=k
   ·have hb:(g==k)=true:=beq_iff_eq.mpr h
    simp only [List.lookup,hb,if_neg (fun e:g=f=>hk (h.symm.trans e))]
   ·have hb:(g==k)=false:=beq_eq_false_iff_ne.mpr h
    simp only [List.lookup,hb]
    exact ih
theorem wU (f:Str) (v:V):∀ fs:List (Str×V),f∈(putF f v fs).map (·.1)∧∀ g,g∈fs.map (·.1)→g∈(putF f v fs).map (·.1)
 | []=>⟨by simp [putF],fun g h=>by simp at h⟩
 | (k,x)::r=>by
  obtain ⟨i1,i2⟩:=wU f v r
  rw [show putF f v ((k,x)::r)=(if k=f then (k,v)::r else (k,x)::putF f v r) from rfl]
  by_cases hk:k=f
  ·rw [if_pos hk]
   subst hk
   exact ⟨by simp,fun g h=>by simpa using h⟩
  ·rw [if_neg hk]
   refine ⟨?_,fun g h=>?_⟩
   ·rw [List.map_cons]
    exact List.mem_cons_of_mem _ i1
   ·rw [List.map_cons] at h ⊢
    rcases List.mem_cons.mp h with e | e
    ·exact List.mem_cons.mpr (.inl e)
    ·exact List.mem_cons_of_mem _ (i2 g e)
theorem kK (f:Str) (v:V):∀ fs:List (Str×V),(putF f v fs).length≤fs.length+1
 | []=>by simp [putF]
 | (k,x)::r=>by
  have ih:=kK f v r
  rw [show putF f v ((k,x)::r)=(if k=f then (k,v)::r else (k,x)::putF f v r) from rfl]
  by_cases hk:k=f
  ·rw [if_pos hk,List.length_cons,List.length_cons];omega
  ·rw [if_neg hk,List.length_cons,List.length_cons];omega
theorem RelO.some_of {v:V}{o:Option Value} (r:RelO (some v) o):∃ u,o=some u∧RelV v u:=by
 cases o with
 | none=>exact (show False from r).elim
 | some u=>exact ⟨u,rfl,r⟩
theorem RelO.none_of {o:Option Value} (r:RelO none o):o=none:=by
 cases o with
 | none=>rfl
 | some u=>exact (show False from r).elim
theorem d49 {v:V}{u:Value} (r:RelV v u):PySem.W.handedIn u=true:=by
 cases v with
 | non=>cases (show u=Value.none from r);rfl
 | bl b=>cases (show u=Value.bool b from r);rfl
 | int i=>obtain ⟨t,e⟩:=(show ∃ t,u=Value.int i t from r);cases e;rfl
 | str x=>obtain ⟨t,e⟩:=(show ∃ t,u=Value.str x t from r);cases e;rfl
 | byt b=>obtain ⟨t,e⟩:=(show ∃ t,u=Value.bytes b t from r);cases e;rfl
 | flt b=>obtain ⟨t,e⟩:=(show ∃ t,u=Value.float b t from r);cases e;rfl
 | ref a=>cases (show u=Value.ref a from r);rfl
 | ty n=>cases (show u=Value.type n from r);rfl
section
variable {P:Program}{w:World}{H H':Hp}{h h':Heap}{a C dx:Addr}{fs fs':List (Str×V)}
theorem d8b (hok:HOk P w H h) (e:H a=some (.ins C dx fs)):∃ mA,ObjM h a dx C mA∧(∀ f,RelO (fs.lookup f) (mA f))∧PySem.Within mA (fs.map (·.1))∧fs.length≤1000∧H dx=some (.own a):=by
 obtain ⟨d,z,ne,ob,mA,n,r,q⟩:=(show ObjOk P w H h a (.ins C dx fs) from hok a _ e)
 exact ⟨mA,⟨ob,n,ne⟩,r,q,z,d⟩
end
structure Cls (K:PySem.W.Frag) (C:Addr):Prop where
 pg:PySem.W.plainGet K C Str.empty=true
 hd:PySem.W.hasDictIn K C=true
 po:PySem.W.plainOver K C=true
 sa:PySem.W.findIn K (.ref C) "__setattr__"=some (some (.builtin "object.__setattr__"))
theorem Cls.get {K:PySem.W.Frag}{C:Addr} (c:Cls K C) (f:Str):PySem.W.plainGet K C f=true:=c.pg
def NoAttr (K:PySem.W.Frag) (C:Addr) (f:Str):Prop:=PySem.W.findIn K (.ref C) f=some none
theorem NoAttr.taker {K:PySem.W.Frag}{C:Addr}{f:Str} (n:NoAttr K C f):PySem.W.takerIn K C f=some none:=by
 unfold PySem.W.takerIn
 rw [show PySem.W.findIn K (.ref C) f=some none from n]
 rfl
structure Meth (K:PySem.W.Frag) (C:Addr) (m:Str) (f:Addr):Prop where
 at_:PySem.W.findIn K (.ref C) m=some (some (.ref f))
 fn:PySem.W.isFn K (.ref f)=true
 kp:PySem.W.keepIn K (.ref f)=true
section
variable {X:Cx}{pins:List (Addr×Obj)}{σ:St}{H:Hp}{s:Shared}{a C dx:Addr}{fs:List (Str×V)}{f:Str}{v:V}{A:Around}{E:Value→Shared→Prop}
theorem yO {b:Bool}{Q:Value→Shared→Prop} (I:Inv X pins σ H s) (e:H a=some (.ins C dx fs)) (c:Cls X.K C) (n:NoAttr X.K C f) (l:fs.lookup f=some v)
  (h:∀ u s',Inv X pins σ H s'→RelV v u→Q u s'):wpAny (model X.prog X.w) A (getAttr (.ref a) f b) Q E s:=by
 obtain ⟨mA,O,r,_,_,_⟩:=d8b I.hok e
 obtain ⟨u,hu,ru⟩:=RelO.some_of (v:=v) (o:=mA f) (by rw [←l];exact r f)
 exact dFI I.kIn O (c.get f) c.hd n hu (d49 ru) (h u _ (I.tok _) ru)
theorem wu {m:Str}{g:Addr}{pl:Sem Bool}{Q:Value×List Value→Shared→Prop} (I:Inv X pins σ H s) (e:H a=some (.ins C dx fs)) (c:Cls X.K C) (k:Meth X.K C m g) (l:fs.lookup m=none)
  (h:Q (.ref g,[.ref a]) s):wpAny (model X.prog X.w) A (getMethod (.ref a) m pl) Q E s:=by
 obtain ⟨mA,O,r,_,_,_⟩:=d8b I.hok e
 have hn:mA m=none:=RelO.none_of (by rw [←l];exact r m)
 exact dCr I.kIn O (c.get m) k.at_ k.fn hn h
theorem yJ {y:V}{u:Value}{Q:Unit→Shared→Prop} (I:Inv X pins σ H s) (e:H a=some (.ins C dx fs)) (c:Cls X.K C) (n:NoAttr X.K C f) (hl:fs.length < 1000) (ry:RelV y u)
  (h:∀ s',Inv X pins σ (upd H a (.ins C dx (putF f y fs))) s'→Q () s'):wpAny (model X.prog X.w) A (setAttr (.ref a) f u) Q E s:=by
 obtain ⟨mA,O,r,wi,_,ho⟩:=d8b I.hok e
 have hz:(fs.map (·.1)).length≤sizeLine:=by rw [List.length_map,sizeLine_eq];omega
 refine dEl I.kIn O c.sa c.po n.taker c.hd wi hz fun h' O' sb=>h _ ?_
 have hd:∃ o,h'.get? dx=some o:=let ⟨o,_,_,e',_⟩:=O'.ns;⟨o,e'⟩
 refine I.write (x:=a) (e:=dx) (by rw [e];exact True.intro) (.inr ho) (fun b q hb z=>(sb.2 b hb).trans z) hd ?_
 refine ⟨by rw [d8 O.ne];exact ho,?_,O.ne,O'.obj,_,O'.ns,fun g=>?_,fun g hg=>?_⟩
 ·have:=kK f y fs;omega
 ·show RelO ((putF f y fs).lookup g) (if g=f then some u else mA g)
  rw [wE]
  by_cases q:g=f
  ·rw [if_pos q,if_pos q];exact ry
  ·rw [if_neg q,if_neg q];exact r g
 ·by_cases q:g=f
  ·rw [q];exact (wU f y fs).1
  ·refine (wU f y fs).2 g (wi g fun z=>hg ?_)
   show (if g=f then some u else mA g)=none
   rw [if_neg q];exact z
theorem Inv.made (I:Inv X pins σ H s):Inv X pins σ (upd (upd H s.heap.objs.size (.own (s.heap.objs.size+1))) (s.heap.objs.size+1) (.ins C s.heap.objs.size []))
  { s with heap:=(s.heap.push PySem.W.emptyDict).push (PySem.W.instObj C s.heap.objs.size) }:=by
 have e1:(s.heap.push PySem.W.emptyDict).get? s.heap.objs.size=some PySem.W.emptyDict:=Heap.get?_push_size s.heap rfl
 have e2:((s.heap.push PySem.W.emptyDict).push (PySem.W.instObj C s.heap.objs.size)).get? (s.heap.objs.size+1)=some (PySem.W.instObj C s.heap.objs.size):=by
  have:=Heap.get?_push_size (s.heap.push PySem.W.emptyDict) (o:=PySem.W.instObj C s.heap.objs.size) rfl
  rwa [Heap.size_push] at this
 have e3:(s.heap.push PySem.W.emptyDict).Ns s.heap.objs.size (fun _=>none):=⟨PySem.W.emptyDict,#[],_,e1,rfl,(fun e he=>absurd he (by simp)),fun _=>rfl⟩
 have I1:=I.laid (a:=s.heap.objs.size) (o:=.own (s.heap.objs.size+1)) (h':=s.heap.push PySem.W.emptyDict) (t':=s.toks) (fun b u q=>Heap.get?_push_of_some _ q) (Nat.le_refl _) ⟨_,e1⟩
 refine I1.laid (a:=s.heap.objs.size+1) (o:=.ins C s.heap.objs.size []) (t':=s.toks) (fun b u q=>Heap.get?_push_of_some _ q) (Nat.le_of_eq (Heap.size_push _ _)) ?_
 have ne:s.heap.objs.size≠s.heap.objs.size+1:=Nat.ne_of_lt (Nat.lt_succ_self _)
 refine ⟨by rw [d8 ne,d9],Nat.zero_le _,ne,e2,fun _=>none,(Heap.Ns1.of_empty e3).at fun o q=>Heap.get?_push_of_some _ q,fun _=>True.intro,fun y hy=>absurd rfl hy⟩
theorem dCS {prog:Program}{w:World}{env:Env}{e:Expr}{f:Str}{pos:Pos}{s:Shared}{Q:Value→Shared→Prop} (hb:attributeBase e f env (eval e env)=eval e env)
  (h:wpAny (model prog w) A (eval e env) (fun o s₁=>wpAny (model prog w) A (getAttr o f true) Q E s₁) E s):wpAny (model prog w) A (eval (.Attribute e f pos) env) Q E s:=
 Attribute_any_ h (by rw [arm_eval_Attribute,hb])
end
def tFld (K:PySem.W.Frag) (ta:TE) (f:Str):TE:=fun σ H Q=>ta σ H fun x H1=>∃ a C dx fs v,x=.ref a∧H1 a=some (.ins C dx fs)∧Cls K C∧NoAttr K C f∧fs.lookup f=some v∧Q v H1
def sFld (K:PySem.W.Frag) (ta tv:TE) (f:Str):TS:=fun D σ H=>tv σ H fun y H1=>ta σ H1 fun x H2=>∃ a C dx fs,x=.ref a∧H2 a=some (.ins C dx fs)∧Cls K C∧NoAttr K C f∧fs.length < 1000 ∧
 D.nx σ (upd H2 a (.ins C dx (putF f y fs)))
def InOp (X:Cx) (op:Operator) (rd:V→V→Hp→VK→Prop):Prop:=
 ∀ (pins:List (Addr×Obj)) (s:Shared) (σ:St) (H:Hp) (x y:V) (u v:Value) (Q:VK),Inv X pins σ H s→RelV x u→RelV y v→rd x y H Q→wpAny (model X.prog X.w) X.A (inplaceOp op u v) (EP X pins σ Q) X.xe s
def dEn (K:PySem.W.Frag) (ta tv:TE) (rd:V→V→Hp→VK→Prop) (f:Str):TS:=fun D σ H=>ta σ H fun x H1=>∃ a C dx fs v,x=.ref a∧H1 a=some (.ins C dx fs)∧Cls K C∧NoAttr K C f∧fs.lookup f=some v ∧
 tv σ H1 fun y H2=>rd v y H2 fun z H3=>∃ dx' fs',H3 a=some (.ins C dx' fs')∧fs'.length < 1000∧D.nx σ (upd H3 a (.ins C dx' (putF f z fs')))
section
variable {X:Cx}{o e value:Expr}{f:Str}{pos pos' tpos:Pos}{ta tv:TE}
theorem dM (he:PE X e ta) (hb:attributeBase e f X.env (eval e X.env)=eval e X.env):PE X (.Attribute e f pos) (tFld X.K ta f):=by
 intro pins s σ H Q I h
 refine dCS hb (thn (he pins s σ H _ I h) fun u s1 ⟨x,H1,I1,rx,a,C,dx,fs,v,ex,ea,c,n,l,q⟩=>?_)
 subst ex
 obtain rfl:u=Value.ref a:=rx
 exact yO I1 ea c n l fun u' s2 I2 ru=>⟨v,H1,I2,ru,q⟩
theorem j9 (ha:PE X o ta) (hv:PE X value tv) (hs:swapsWith value (some (.Attribute o f pos')) pos.line X.env=pure false):PS X (.Assign [.Attribute o f pos'] value pos) (sFld X.K ta tv f):=by
 intro pins s σ H D I h
 refine plainObj_wpAny_Assign_Attribute (thn (hv pins s σ H _ I h) fun u s1 ⟨y,H1,I1,ry,q⟩=>thn (ha pins s1 σ H1 _ I1 q) fun ov s2 ⟨x,H2,I2,rx,a,C,dx,fs,ex,ea,c,n,l,q2⟩=>?_) hs
 subst ex
 obtain rfl:ov=Value.ref a:=rx
 exact yJ I2 ea c n l ry fun s3 I3=>⟨σ,_,I3,q2⟩
theorem dAe {op:Operator}{rd:V→V→Hp→VK→Prop} (ha:PE X o ta) (hv:PE X value tv) (hop:InOp X op rd):PS X (.AugAssign (.Attribute o f tpos) op value pos) (dEn X.K ta tv rd f):=by
 intro pins s σ H D I h
 refine wpAny_AugAssign_AttributeAny (thn (ha pins s σ H _ I h) fun ov s1 ⟨x,H1,I1,rx,a,C,dx,fs,v,ex,ea,c,n,l,q⟩=>?_)
 subst ex
 obtain rfl:ov=Value.ref a:=rx
 refine yO I1 ea c n l fun u s2 I2 ru=>thn (hv pins s2 σ H1 _ I2 q) fun w3 s3 ⟨y,H2,I3,ry,q3⟩=>thn (hop pins s3 σ H2 v y u w3 _ I3 ru ry q3) fun w4 s4 ⟨z,H3,I4,rz,dx',fs',ea',l',q4⟩=>?_
 exact yJ I4 ea' c n l' rz fun s5 I5=>⟨σ,_,I5,q4⟩
def rAdd:V→V→Hp→VK→Prop:=fun x y H Q=>∃ i j,x=.int i∧y=.int j∧Q (.int (i+j)) H
theorem dFd:InOp X .Add rAdd:=by
 rintro pins s σ H x y u v Q I rx ry ⟨i,j,rfl,rfl,q⟩
 obtain ⟨t,rfl⟩:=(show ∃ t,u=Value.int i t from rx)
 obtain ⟨t',rfl⟩:=(show ∃ t',v=Value.int j t' from ry)
 exact PyProof.Rows.iadd_int ⟨.int (i+j),H,I.tok _,⟨_,rfl⟩,q⟩
end
end L2
namespace L2
open PySem PySem.Spec PyProof.Rows
structure Room (k:Nat) (A:Around):Prop where
 hd:A.handled=none
 dp:A.depth+3*k+5 < recursionLimit
 un:A.units+16*k+200 < cLine
theorem Room.mono {j k:Nat}{A:Around} (r:Room k A) (h:j≤k):Room j A:=⟨r.hd,by have:=r.dp;omega,by have:=r.un;omega⟩
theorem Room.deeper {k:Nat}{A:Around} (r:Room (k+1) A) (env:Env):Room k (A.deeper env):=
 ⟨r.hd,by have:=r.dp;show A.depth+1+3*k+5 < _;omega,by have:=r.un;show A.units+3+16*k+200 < _;omega⟩
theorem dA1 {A:Around}{C:Addr}{us:List Value}{kw:List (Str×Value)}:(A.under (.builtin "type.__call__" ⟨.ref C::us,kw⟩)).depth=A.depth+1:=by
 first | rfl | simp [Around.under,Code.weight,Code.isCreation,Code.isGuard,Code.isCaller,Code.frames,Code.isFrame,guardIds]
theorem dAS {A:Around}{C:Addr}{us:List Value}{kw:List (Str×Value)}:(A.under (.builtin "type.__call__" ⟨.ref C::us,kw⟩)).units=A.units+1:=by
 first | rfl | simp [Around.under,Code.cUnits,Code.frames,Code.isFrame]
theorem Room.make {k:Nat}{A:Around} (r:Room (k+1) A) (C:Addr) (us:List Value) (kw:List (Str×Value)):Room k (A.under (.builtin "type.__call__" ⟨.ref C::us,kw⟩)):=
 ⟨r.hd,by have:=r.dp;rw [dA1];omega,by have:=r.un;rw [dAS];omega⟩
theorem Room.depth {k:Nat}{A:Around} (r:Room k A):A.depth < recursionLimit:=by have:=r.dp;omega
theorem Room.units {k:Nat}{A:Around} (r:Room k A):A.units+64 < cLine:=by have:=r.un;omega
def tNil:TA:=fun _ H Q=>Q [] H
def dB9 (ta:TE) (tr:TA):TA:=fun σ H Q=>ta σ H fun x H1=>tr σ H1 fun xs H2=>Q (x::xs) H2
section
variable {X:Cx}{e:Expr}{es:List Expr}{te:TE}{t:TA}{pos:Pos}
theorem dD:PA X [] tNil:=fun _ _ _ _ H Q I h=>Calls.spliced_nil ⟨[],H,I,.nil,h⟩
theorem d0 (ha:PE X e te) (hr:PA X es t) (hs:starEach (e::es) X.env=(false,eval e X.env)::starEach es X.env:=by rfl):PA X (e::es) (dB9 te t):=by
 intro pos pins s σ H Q I h
 rw [hs]
 show wpAny _ _ (spliced ((false,eval e X.env)::backTo pos (starEach es X.env))) _ _ s
 refine Calls.spliced_cons (thn (ha pins s σ H _ I h) fun u s1 ⟨x,H1,I1,r1,q1⟩=>?_)
 exact thn (hr pos pins s1 σ H1 _ I1 q1) fun us s2 ⟨xs,H2,I2,r2,q2⟩=>⟨x::xs,H2,I2,.cons r1 r2,q2⟩
def tTup (t:TA):TE:=fun σ H Q=>t σ H fun xs H1=>xs.length≤sizeLine∧∀ p,H1 p=none→Q (.ref p) (upd H1 p (.tup xs))
def tLst (t:TA):TE:=fun σ H Q=>t σ H fun xs H1=>xs.length≤sizeLine∧∀ p,H1 p=none→Q (.ref p) (upd H1 p (.lst xs))
theorem dEA {x1} (h:PA X es t):PE X (.Tuple es x1 pos) (tTup t):=by
 intro pins s σ H Q I hq
 refine wpAny_Tuple_spliced (thn (h pos pins s σ H _ I hq) fun us s1 ⟨xs,H1,I1,r,z,q⟩=>⟨by rw [←r.length];exact z,?_⟩)
 have hf:H1 s1.heap.objs.size=none:=I1.hok.fresh (Nat.le_refl _)
 refine ⟨.ref s1.heap.objs.size,upd H1 s1.heap.objs.size (.tup xs),I1.laid (t':=s1.toks) (fun b u e=>Heap.get?_push_of_some _ e) (Nat.le_refl _) ?_,rfl,q _ hf⟩
 exact ⟨z,us,r,⟨_,Heap.get?_push_size _ rfl,rfl,_,rfl⟩⟩
theorem jJ (h:PA X es t):PE X (.List es pos) (tLst t):=by
 intro pins s σ H Q I hq
 refine wpAny_List_spliced (thn (h pos pins s σ H _ I hq) fun us s1 ⟨xs,H1,I1,r,z,q⟩=>⟨by rw [←r.length];exact z,?_⟩)
 have hf:H1 s1.heap.objs.size=none:=I1.hok.fresh (Nat.le_refl _)
 refine ⟨.ref s1.heap.objs.size,upd H1 s1.heap.objs.size (.lst xs),I1.laid (t':=s1.toks) (fun b u e=>Heap.get?_push_of_some _ e) (Nat.le_refl _) ?_,rfl,q _ hf⟩
 exact ⟨z,us,0,r,Heap.get?_push_size _ rfl⟩
end
abbrev Sp:=List V→Hp→VK→XK→Prop
abbrev CXT:=List Env→Hp→Shared→XK→Value→Shared→Prop
structure Env0 (P:Program) (w:World) (K:PySem.W.Frag) (mg:Str→Option Value) (base:Heap) (A:Around) (outer:List Env) (s:Shared) (H:Hp):Prop where
 frames:A.frames=some outer
 mod:Mod K mg base
 bs:∀ b o,base.get? b=some o→s.heap.get? b=some o∧H b=none
 bsz:base.objs.size≤s.heap.objs.size
 funs:s.heap.FunFrames base outer
 frf:∀ b∈frs outer,H b=none
 hok:HOk P w H s.heap
 bare:AllBare s.gens
def CE (outer:List Env) (P:Program) (w:World) (H:Hp) (s:Shared) (Q:VK) (u:Value) (s':Shared):Prop:=
 ∃ v H',s'.os=s.os∧AllBare s'.gens∧Un (frs outer) [] H H' s.heap s'.heap∧HOk P w H' s'.heap∧RelV v u∧Q v H'
def CR (CX:CXT) (outer:List Env) (P:Program) (w:World) (H:Hp) (s:Shared) (Q:VK) (E:XK) (r:Result) (s':Shared):Prop:=
 match r with
 | .ok (.ret u)=>CE outer P w H s Q u s'
 | .ok _=>False
 | .error e=>CX outer H s E e s'
structure FnOk (P:Program) (w:World) (K:PySem.W.Frag) (mg:Str→Option Value) (base:Heap) (CX:CXT) (k:Nat) (f:Addr) (fd:FuncData) (ps:List Str) (sp:Sp):Prop where
 len:∀ vs H Q E,sp vs H Q E→vs.length=ps.length
 run:∀ (A:Around) (outer:List Env) (s:Shared) (H:Hp) (args:Args) (us:List Value) (vs:List V) (Q:VK) (E:XK),Room k A→Env0 P w K mg base A outer s H→BindsTo s fd args (ps.zip us)→Vals vs us→sp vs H Q E →
  codeAny (model P w) A (.call (.ref f) args) (CR CX outer P w H s Q E) s
theorem FnOk.mono {P:Program}{w:World}{K:PySem.W.Frag}{mg:Str→Option Value}{base:Heap}{CX:CXT}{j k:Nat}{f:Addr}{fd:FuncData}{ps:List Str}{sp:Sp} (F:FnOk P w K mg base CX j f fd ps sp) (h:j≤k) :
  FnOk P w K mg base CX k f fd ps sp:=⟨F.len,fun A outer s H args us vs Q E hr=>F.run A outer s H args us vs Q E (hr.mono h)⟩
theorem Env0.make {P:Program}{w:World}{K:PySem.W.Frag}{mg:Str→Option Value}{base:Heap}{A:Around}{outer:List Env}{s:Shared}{H:Hp} (e:Env0 P w K mg base A outer s H) (C:Addr) (us:List Value) (kw:List (Str×Value)) :
  Env0 P w K mg base (A.under (.builtin "type.__call__" ⟨.ref C::us,kw⟩)) outer s H:=⟨by first | exact e.frames | (simpa [Around.under,Code.envs,Code.isFrame,pushEnvs] using e.frames),e.mod,e.bs,e.bsz,e.funs,e.frf,e.hok,e.bare⟩
section
variable {X:Cx}{pins:List (Addr×Obj)}{σ:St}{H:Hp}{s s':Shared}
theorem Inv.env0 (I:Inv X pins σ H s):Env0 X.prog X.w X.K X.mg X.base X.A X.stack s H:=
 ⟨I.ok.frames,I.ok.mod,I.bs,Nat.le_trans I.ok.bsz I.sz,I.stack,I.stkFree,I.hok,I.bare⟩
theorem Inv.after {Q:VK}{u:Value} (I:Inv X pins σ H s) (h:CE X.stack X.prog X.w H s Q u s'):EP X pins σ Q u s':=by
 obtain ⟨v,H',os,bare,un,hok,r,q⟩:=h
 obtain ⟨hh,g,d,t,os'⟩:=s'
 obtain rfl:os'=s.os:=os
 exact ⟨v,H',I.call (h':=hh) (g':=g) (d':=d) (t':=t) (ch:=[]) un hok bare (fun b z=>absurd z (by simp)),r,q⟩
end
def dF9 (sp:Sp) (dvs:List V) (E:XK) (t:TA):TE:=fun σ H Q=>t σ H fun vs H1=>sp (vs++dvs) H1 Q E
def yu (C:Addr) (m:Str) (sp:Sp) (dvs:List V) (E:XK) (ta:TE) (t:TA):TE:=fun σ H Q=>ta σ H fun x H1=>∃ a dx fs,x=.ref a∧H1 a=some (.ins C dx fs)∧fs.lookup m=none ∧
 t σ H1 fun vs H2=>sp (x::(vs++dvs)) H2 Q E
def dEP (C:Addr) (sp:Sp) (dvs:List V) (E:XK) (t:TA):TE:=fun σ H Q=>t σ H fun vs H1=>∀ x dx,H1 x=none→H1 dx=none→dx≠x →
 sp (.ref x::(vs++dvs)) (upd (upd H1 dx (.own x)) x (.ins C dx [])) (fun v H2=>v=.non∧Q (.ref x) H2) E
def Binds (K:PySem.W.Frag) (fd:FuncData) (ps:List Str) (ds:List Value):Prop:=
 ∀ (s:Shared) (us:List Value),K.In s.heap→(us++ds).length=ps.length→BindsTo s fd ⟨us,[]⟩ (ps.zip (us++ds))
theorem Binds.all {K:PySem.W.Frag}{fd:FuncData}{ps:List Str} (h:∀ us:List Value,us.length=ps.length→bindArgs fd ⟨us,[]⟩=pure (ps.zip us)):Binds K fd ps []:=fun s us _ hl=>by
 rw [List.append_nil] at hl ⊢
 exact .of_eq (h us hl)
def jF (CX:CXT) (X:Cx) (E:XK):Prop:=∀ (pins:List (Addr×Obj)) (σ:St) (H:Hp) (s:Shared) (e:Value) (s':Shared),Inv X pins σ H s→CX X.stack H s E e s'→X.xe e s'
section
variable {X:Cx}{CX:CXT}{k:Nat}{f C:Addr}{fd:FuncData}{ps:List Str}{sp:Sp}{dvs:List V}{ds:List Value}{E:XK}{x m:Str}{p pos apos:Pos}{e o:Expr}{es:List Expr}{ta:TE}{t:TA}
theorem d99 {pins:List (Addr×Obj)}{σ:St}{H:Hp}{s:Shared}{Q:VK}{us:List Value}{vs:List V} (F:FnOk X.prog X.w X.K X.mg X.base CX k f fd ps sp) (hr:Room k X.A) (hb:Binds X.K fd ps ds) (hd:Vals dvs ds) (hx:jF CX X E)
  (I:Inv X pins σ H s) (r:Vals vs us) (h:sp (vs++dvs) H Q E):wpAny (model X.prog X.w) X.A (call (.ref f) us) (EP X pins σ Q) X.xe s:=by
 have r2:Vals (vs++dvs) (us++ds):=r.append hd
 have hl:(us++ds).length=ps.length:=by rw [←r2.length];exact F.len _ _ _ _ h
 refine wpAny_call (codeAny_mono (F.run X.A X.stack s H ⟨us,[]⟩ (us++ds) (vs++dvs) Q E hr I.env0 (hb s us I.kIn hl) r2 h) fun r s' hq=>?_)
 cases r with
 | error e=>exact hx pins σ H s e s' I hq
 | ok fl=>
  cases fl with
  | ret u=>exact I.after hq
  | next=>exact False.elim hq
  | brk=>exact False.elim hq
  | cont=>exact False.elim hq
theorem dEJ (F:FnOk X.prog X.w X.K X.mg X.base CX k f fd ps sp) (hr:Room k X.A) (hg:Gl X x) (hm:X.mg x=some (.ref f)) (hk:PySem.W.keepIn X.K (.ref f)=true) (hb:Binds X.K fd ps ds) (hd:Vals dvs ds) (hx:jF CX X E)
  (ha:PA X (e::es) t) (hdb:(x==("__debug__":Str))=false:=by decide) (he:starEach (e::es) X.env=(false,eval e X.env)::starEach es X.env:=by rfl) (hpl:(backTo pos (starEach es X.env)).any (·.1)=false:=by rfl) :
  PE X (.Call (.Name x p) (e::es) [] pos) (dF9 sp dvs E t):=by
 intro pins s σ H Q I h
 refine wpAny_Call_Name_kw (kM I hg hm ?_ hdb)
 refine PySem.W.callWith_K (h₀:=X.base) I.ok.mod.kin hk (thn (ha pos pins s σ H _ I h) fun us s1 ⟨vs,H1,I1,r,q⟩=>⟨I1.kIn,?_⟩) he hpl
 exact d99 F hr hb hd hx I1 r q
theorem dF8 {pl:Sem Bool} (he:PE X o ta) (c:Cls X.K C) (hm:Meth X.K C m f) (F:FnOk X.prog X.w X.K X.mg X.base CX k f fd ps sp) (hr:Room k X.A) (hb:Binds X.K fd ps ds) (hd:Vals dvs ds) (hx:jF CX X E) (ha:PA X (e::es) t)
  (hst:starEach (e::es) X.env=(false,eval e X.env)::starEach es X.env:=by rfl) (hpl:(backTo pos (starEach es X.env)).any (·.1)=false:=by rfl)
  (ht:eval (.Call (.Attribute o m apos) (e::es) [] pos) X.env=(do
   let ov ←eval o X.env
   standAt apos.atName
   let (f,first) ←holding [ov] (getMethod ov m pl)
   callWith pos f first (backTo pos (starEach (e::es) X.env)) (backToKw pos (keywordEach [] X.env))):=by rfl) :
  PE X (.Call (.Attribute o m apos) (e::es) [] pos) (yu C m sp dvs E ta t):=by
 intro pins s σ H Q I h
 refine PySem.W.methodCall_KW (pl:=pl) (thn (he pins s σ H _ I h) fun u s1 ⟨x,H1,I1,rx,a,dx,fs,ex,ea,l,q⟩=>?_) ht
 subst ex
 obtain rfl:u=Value.ref a:=rx
 refine wu I1 ea c hm l ?_
 refine PySem.W.callWith_K (first:=[.ref a]) (h₀:=X.base) I.ok.mod.kin hm.kp (thn (ha pos pins s1 σ H1 _ I1 q) fun us s2 ⟨vs,H2,I2,r,q2⟩=>⟨I2.kIn,?_⟩) hst hpl
 exact d99 (us:=.ref a::us) (vs:=.ref a::vs) F hr hb hd hx I2 (.cons rfl r) q2
theorem dDg {pl:Sem Bool} (he:PE X o ta) (c:Cls X.K C) (hm:Meth X.K C m f) (F:FnOk X.prog X.w X.K X.mg X.base CX k f fd ps sp) (hr:Room k X.A) (hb:Binds X.K fd ps ds) (hd:Vals dvs ds) (hx:jF CX X E)
  (ht:eval (.Call (.Attribute o m apos) [] [] pos) X.env=(do
   let ov ←eval o X.env
   standAt apos.atName
   let (f,first) ←holding [ov] (getMethod ov m pl)
   callWith pos f first (backTo pos (starEach [] X.env)) (backToKw pos (keywordEach [] X.env))):=by rfl) :
  PE X (.Call (.Attribute o m apos) [] [] pos) (yu C m sp dvs E ta tNil):=by
 intro pins s σ H Q I h
 refine PySem.W.methodCall_KW (pl:=pl) (thn (he pins s σ H _ I h) fun u s1 ⟨x,H1,I1,rx,a,dx,fs,ex,ea,l,q⟩=>?_) ht
 subst ex
 obtain rfl:u=Value.ref a:=rx
 refine wu I1 ea c hm l ?_
 exact PySem.W.callWith_K0 (first:=[.ref a]) I1.kIn hm.kp (d99 (us:=[.ref a]) (vs:=[.ref a]) F hr hb hd hx I1 (.cons rfl .nil) q)
structure Mk (K:PySem.W.Frag) (C f:Addr):Prop where
 makes:PySem.W.makesIn K C=true
 init:PySem.W.findIn K (.ref C) "__init__"=some (some (.ref f))
 fn:PySem.W.isFn K (.ref f)=true
 kp:PySem.W.keepIn K (.ref C)=true
theorem dD6 {pins:List (Addr×Obj)}{σ:St}{H:Hp}{s:Shared}{Q:VK}{us:List Value}{vs:List V} (M:Mk X.K C f) (F:FnOk X.prog X.w X.K X.mg X.base CX k f fd ps sp) (hr:Room (k+1) X.A) (hb:Binds X.K fd ps ds) (hd:Vals dvs ds)
  (hx:jF CX X E) (I:Inv X pins σ H s) (r:Vals vs us)
  (h:∀ x dx,H x=none→H dx=none→dx≠x→sp (.ref x::(vs++dvs)) (upd (upd H dx (.own x)) x (.ins C dx [])) (fun v H2=>v=.non∧Q (.ref x) H2) E) :
  wpAny (model X.prog X.w) X.A (call (.ref C) us) (EP X pins σ Q) X.xe s:=by
 have hq:=h (s.heap.objs.size+1) s.heap.objs.size (I.hok.fresh (Nat.le_succ _)) (I.hok.fresh (Nat.le_refl _)) (Nat.ne_of_lt (Nat.lt_succ_self _))
 have I2:=Inv.made (C:=C) I
 have r2:Vals (V.ref (s.heap.objs.size+1)::(vs++dvs)) (Value.ref (s.heap.objs.size+1)::(us++ds)):=.cons rfl (r.append hd)
 have hl:(Value.ref (s.heap.objs.size+1)::us++ds).length=ps.length:=by
  have e:=r2.length
  rw [F.len _ _ _ _ hq] at e
  exact e.symm
 refine wpAny_call (dCy (f:=f) I.kIn M.makes M.init (beq_iff_eq.mp M.fn) (codeAny_mono (F.run _ X.stack _ _ ⟨Value.ref (s.heap.objs.size+1)::us,[]⟩ (Value.ref (s.heap.objs.size+1)::(us++ds)) _ _ E (hr.make C us [])
  (I2.env0.make C us []) (hb _ (Value.ref (s.heap.objs.size+1)::us) I2.kIn hl) r2 hq) fun r s' hq'=>?_))
 cases r with
 | error e=>exact hx pins σ _ _ e s' I2 hq'
 | ok fl=>
  cases fl with
  | ret u=>
   obtain ⟨v,H',I3,rv,ev,q3⟩:=I2.after hq'
   subst ev
   exact ⟨rv,⟨V.ref (s.heap.objs.size+1),H',I3,rfl,q3⟩⟩
  | next=>exact False.elim hq'
  | brk=>exact False.elim hq'
  | cont=>exact False.elim hq'
theorem dFD (M:Mk X.K C f) (F:FnOk X.prog X.w X.K X.mg X.base CX k f fd ps sp) (hr:Room (k+1) X.A) (hg:Gl X x) (hm:X.mg x=some (.ref C)) (hb:Binds X.K fd ps ds) (hd:Vals dvs ds) (hx:jF CX X E)
  (ha:PA X (e::es) t) (hdb:(x==("__debug__":Str))=false:=by decide) (he:starEach (e::es) X.env=(false,eval e X.env)::starEach es X.env:=by rfl) (hpl:(backTo pos (starEach es X.env)).any (·.1)=false:=by rfl) :
  PE X (.Call (.Name x p) (e::es) [] pos) (dEP C sp dvs E t):=by
 intro pins s σ H Q I h
 refine wpAny_Call_Name_kw (kM I hg hm ?_ hdb)
 refine PySem.W.callWith_K (h₀:=X.base) I.ok.mod.kin M.kp (thn (ha pos pins s σ H _ I h) fun us s1 ⟨vs,H1,I1,r,q⟩=>⟨I1.kIn,?_⟩) he hpl
 exact dD6 M F hr hb hd hx I1 r q
end
structure FnScope (N P:List Str) (sc:Scope):Prop where
 kind:sc.kind=.function
 co:sc.isCoroutine=false
 gen:sc.isGenerator=false
 nd:N.Nodup
 pre:N.take P.length=P
 par:∀ x∈P,sc.names.lookup x=some .local∨sc.names.lookup x=some .cell
 nofree:∀ y∈sc.names,y.2≠.free
theorem d6J {kindOf:Str→Option NameKind}{x:Str}:∀ {binds:List (Str×Value)}{m:Str→Option Value},(∀ v,(x,v)∉binds)→bindL kindOf binds m x=m x
 | [],_,_=>rfl
 | (n,v)::r,m,h=>by
  unfold bindL
  rw [d6J fun w hw=>h w (List.mem_cons_of_mem _ hw)]
  split
  ·have:x≠n:=by rintro rfl;exact h v List.mem_cons_self
   simp [this]
  ·rfl
theorem d6R {kindOf:Str→Option NameKind}{x:Str}:∀ {binds:List (Str×Value)}{m:Str→Option Value},(∀ v,(x,v)∉binds)→bindC kindOf binds m x=m x
 | [],_,_=>rfl
 | (n,v)::r,m,h=>by
  unfold bindC
  rw [d6R fun w hw=>h w (List.mem_cons_of_mem _ hw)]
  split
  ·rfl
  ·have:x≠n:=by rintro rfl;exact h v List.mem_cons_self
   simp [this]
theorem d3s {kindOf:Str→Option NameKind}{x:Str}{v:Value}:∀ {P:List Str}{vs:List Value}{i:Nat}{m:Str→Option Value},P.Nodup→P[i]?=some x→vs[i]?=some v→kindOf x=some .local →
  bindL kindOf (P.zip vs) m x=some v
 | [],_,_,_,_,h,_,_=>by simp at h
 | _::_,[],_,_,_,_,h,_=>by simp at h
 | p::P,w::vs,0,m,nd,h1,h2,hk=>by
  simp at h1 h2;subst h1;subst h2
  show bindL kindOf ((p,w)::P.zip vs) m p=_
  unfold bindL
  rw [d6J fun v hv=>(List.nodup_cons.mp nd).1 (List.of_mem_zip hv).1,if_pos hk]
  simp
 | p::P,w::vs,i+1,m,nd,h1,h2,hk=>by
  show bindL kindOf ((p,w)::P.zip vs) m x=_
  unfold bindL
  exact d3s (i:=i) (List.nodup_cons.mp nd).2 (by simpa using h1) (by simpa using h2) hk
theorem d76 {kindOf:Str→Option NameKind}{x:Str}{v:Value}:∀ {P:List Str}{vs:List Value}{i:Nat}{m:Str→Option Value},P.Nodup→P[i]?=some x→vs[i]?=some v→kindOf x≠some .local →
  bindC kindOf (P.zip vs) m x=some v
 | [],_,_,_,_,h,_,_=>by simp at h
 | _::_,[],_,_,_,_,h,_=>by simp at h
 | p::P,w::vs,0,m,nd,h1,h2,hk=>by
  simp at h1 h2;subst h1;subst h2
  show bindC kindOf ((p,w)::P.zip vs) m p=_
  unfold bindC
  rw [d6R fun v hv=>(List.nodup_cons.mp nd).1 (List.of_mem_zip hv).1,if_neg hk]
  simp
 | p::P,w::vs,i+1,m,nd,h1,h2,hk=>by
  show bindC kindOf ((p,w)::P.zip vs) m x=_
  unfold bindC
  exact d76 (i:=i) (List.nodup_cons.mp nd).2 (by simpa using h1) (by simpa using h2) hk
def start (N:List Str) (vs:List V):St:=vs.map some++List.replicate (N.length-vs.length) none
def cxOf (CX:CXT) (P:Program) (w:World) (K:PySem.W.Frag) (mg:Str→Option Value) (base:Heap) (N:List Str) (qual:Str) (scope:Scope) (f:Addr) (cd:Value) (A:Around) (outer:List Env) (s:Shared) (H:Hp) (E:XK):Cx where
 prog:=P
 w:=w
 K:=K
 mg:=mg
 base:=base
 A:=A.deeper (envOfC qual scope s.heap.objs.size f cd)
 N:=N
 s_0:=s
 H_0:=H
 env:=envOfC qual scope s.heap.objs.size f cd
 outer:=outer
 stack:=envOfC qual scope s.heap.objs.size f cd::outer
 ex:=[]
 calm:=true
 fn:=fun _=>true
 pn:=[]
 xe:=fun e s'=>wpAny (model P w) (A.deeper (envOfC qual scope s.heap.objs.size f cd)) (leaving (envOfC qual scope s.heap.objs.size f cd) e) (fun _ s''=>CX outer H s E e s'') (fun e' s''=>CX outer H s E e' s'') s'
theorem d8z {sc:Scope}{n:Nat}{x:Str} (h:sc.names.lookup x=some .cell):∃ c,(cellsFrom n sc.names []).lookup x=some c:=by
 have q:=PySem.W.cellsFrom_some sc.names n [] (.inl h)
 exact Option.isSome_iff_exists.mp q
theorem d43 {CX:CXT}{P:Program}{w:World}{K:PySem.W.Frag}{mg:Str→Option Value}{base:Heap}{N ps:List Str}{qual:Str}{scope:Scope}{f:Addr}{cd:Value}{A:Around}{outer:List Env}{s s1:Shared}{H:Hp}{E:XK}{us:List Value}{vs:List V}
  (S:FnScope N ps scope) (hd:A.handled=none) (e0:Env0 P w K mg base A outer s H) (hl:vs.length=ps.length) (r:Vals vs us)
  (x:InCallC s s.heap.objs.size (bindL (envOfC qual scope s.heap.objs.size f cd).kindOf (ps.zip us) fun _=>none) (cellsFrom (s.heap.objs.size+1) scope.names []) (bindC (envOfC qual scope s.heap.objs.size f cd).kindOf (ps.zip us) fun _=>none) s1) :
  Inv (cxOf CX P w K mg base N qual scope f cd A outer s H E) [] (start N vs) H s1:=by
 have hpl:ps.length≤N.length:=by have:=congrArg List.length S.pre;rw [List.length_take] at this;omega
 obtain ⟨h1,tk,rfl,hk⟩:=x.done
 have noA:∀ b:Addr,b∉(cxOf CX P w K mg base N qual scope f cd A outer s H E).ex:=fun b z=>absurd (show b∈([]:List Addr) from z) (by simp)
 refine ⟨⟨e0.mod,S.kind,rfl,rfl,Nat.le_refl _,fun y z c h1 h2=>?_,fun y hy=>?_,fun y c _ h=>?_,fun _=>hd,Around.frames_deeper e0.frames,.inr ⟨rfl,rfl⟩,fun b z=>absurd z (noA b),e0.bs,e0.bsz,fun b _ _=>noA b,fun b z=>absurd z (noA b),e0.funs,e0.frf⟩,
  rfl,e0.bare,Un.kept hk,⟨_,x.toInCall.ns,fun i y v h1 h2 h3=>?_⟩,fun y c h=>⟨_,x.cell y c h⟩,e0.hok.fresh (Nat.le_refl _),fun y c h=>?_,fun p hp=>absurd (show p∈([]:List (Addr×Obj)) from hp) (by simp),e0.hok.kept hk,?_⟩
 ·exact name_of_addr x.apart (PySem.mem_of_lookup h1) (PySem.mem_of_lookup h2)
 ·have hy:scope.names.lookup y=some .cell∨scope.names.lookup y=some .free:=hy
  rcases hy with hy | hy
  ·exact d8z hy
  ·exact absurd rfl (S.nofree _ (PySem.mem_of_lookup hy))
 ·exact Nat.le_of_lt (x.above y c (PySem.mem_of_lookup h))
 ·have hi:i < vs.length:=by
   unfold start at h2
   by_cases hi:i < vs.length
   ·exact hi
   ·rw [List.getElem?_append_right (by simpa using hi)] at h2
    rw [List.getElem?_replicate] at h2
    split at h2 <;> cases h2
  have ha:vs[i]?=some v:=by
   unfold start at h2
   rw [List.getElem?_append_left (by simpa using hi),List.getElem?_map] at h2
   cases e:vs[i]? with
   | none=>rw [e] at h2;cases h2
   | some a=>rw [e] at h2;cases h2;rfl
  obtain ⟨u,hu,rv⟩:=r.get ha
  have hp:ps[i]?=some y:=by
   rw [←S.pre,List.getElem?_take_of_lt (by omega)];exact h1
  have ndP:ps.Nodup:=by rw [←S.pre];exact S.nd.sublist (List.take_sublist _ _)
  refine ⟨u,rv,?_⟩
  rcases S.par y (List.mem_of_getElem? hp) with k | k
  ·exact .inl ⟨k,d3s ndP hp hu k⟩
  ·obtain ⟨c,e⟩:=d8z (n:=s.heap.objs.size+1) k
   refine .inr ⟨.inl k,c,e,?_⟩
   have q:=x.cell y c e
   rw [d76 ndP hp hu (by show scope.names.lookup y≠_;rw [k];decide)] at q
   exact q
 ·exact e0.hok.fresh (Nat.le_of_lt (x.above y c (PySem.mem_of_lookup h)))
 ·unfold start
  show _=N.length
  rw [List.length_append,List.length_map,List.length_replicate]
  omega
theorem dFA {CX:CXT}{P:Program}{w:World}{K:PySem.W.Frag}{mg:Str→Option Value}{base:Heap}{k:Nat}{f:Addr}{name qual:Str}{params:Arguments}{body:List Stmt}{scope:Scope}{dV kV doc pm cdv ct oc:Value}{an od:Option Addr}
  {osl:Array (Option Value)}{N ps:List Str}{sp:Sp} (lk:K.lookup f=some ⟨oc,od,.func (PySem.W.fnOf name qual params body scope dV kV doc pm an cdv ct),osl⟩) (hcd:PySem.W.codeIn K cdv qual=true) (S:FnScope N ps scope)
  (len:∀ vs H Q E,sp vs H Q E→vs.length=ps.length)
  (hbody:∀ (A:Around) (outer:List Env) (s:Shared) (H:Hp) (vs:List V) (Q:VK) (E:XK),Room k (A.deeper (envOfC qual scope s.heap.objs.size f cdv))→sp vs H Q E →
   ∃ t,PSs (cxOf CX P w K mg base N qual scope f cdv A outer s H E) body t∧t { nx:=fun _ H'=>Q .non H',rt:=Q } (start N vs) H) :
  FnOk P w K mg base CX (k+1) f (PySem.W.fnOf name qual params body scope dV kV doc pm an cdv ct) ps sp:=by
 refine ⟨len,fun A outer s H args us vs Q E hr e0 hb r hsp=>?_⟩
 have hl:=len _ _ _ _ hsp
 have KX:K.In s.heap:=e0.mod.kin.keeps fun b o e=>(e0.bs b o e).1
 have lim:s.heap.NoLimit:=e0.mod.nolimit.keeps fun b o e=>(e0.bs b o e).1
 have hkind:∀ y∈ps.zip us,scope.names.lookup y.1=some .local∨(scope.names.lookup y.1=some .cell∧((cellsFrom (s.heap.objs.size+1) scope.names []).lookup y.1).isSome=true):=fun ⟨n,v⟩ hy=>by
  rcases S.par n (List.of_mem_zip hy).1 with q | q
  ·exact .inl q
  ·exact .inr ⟨q,PySem.W.cellsFrom_some _ _ _ (.inl q)⟩
 refine codeAny_call_function hr.depth (KX _ _ lk) rfl S.co S.gen rfl (PySem.W.codeRec_of KX hcd) (hb _ _ _ _ ?_)
 refine wpAny_newFunctionEnv_cells S.kind hkind fun env he s1 x=>?_
 subst he
 refine ⟨lim.keeps x.toInCall.keep,codeAny_func ?_⟩
 obtain ⟨t,ht,hq⟩:=hbody A outer s H vs Q E (hr.deeper _) hsp
 have I:Inv (cxOf CX P w K mg base N qual scope f cdv A outer s H E) [] (start N vs) H s1:=d43 S hr.hd e0 hl r x
 refine wpAny_mono (ht [] s1 (start N vs) H _ I hq) (fun fl s' hs=>?_) fun e s' hs=>hs
 have fin:∀ {σ':St}{H':Hp}{v:V}{u:Value},Inv (cxOf CX P w K mg base N qual scope f cdv A outer s H E) [] σ' H' s'→RelV v u→Q v H'→CE outer P w H s Q u s':=
  fun {σ' H' v u} J rv q=>⟨v,H',J.os,J.bare,J.base,J.hok,rv,q⟩
 cases fl with
 | ret u=>
  obtain ⟨v,σ',H',J,rv,q⟩:=hs
  exact fin J rv q
 | next=>
  obtain ⟨σ',H',J,q⟩:=hs
  exact fin (v:=V.non) (u:=Value.none) J rfl q
 | brk=>
  obtain ⟨_,_,_,q⟩:=hs
  exact False.elim q
 | cont=>
  obtain ⟨_,_,_,q⟩:=hs
  exact False.elim q
end L2
namespace L2
open PySem PySem.Spec PyProof.Rows
section
variable {X:Cx}{x:Str}{p pos:Pos}{e:Expr}{es:List Expr}{t:TA}{id T:String}{r:List V→Hp→VK→Prop}
def tCB (r:List V→Hp→VK→Prop) (t:TA):TE:=fun σ H Q=>t σ H fun vs H1=>r vs H1 Q
theorem dP (hc:w9 X (.builtin id) r) (hg:Gl X x) (hm:X.mg x=none) (hv:bootBuiltins x=some (.builtin id)) (ha:PA X (e::es) t) (hn:x≠"__name__":=by decide) (hdb:(x==("__debug__":Str))=false:=by decide)
  (he:starEach (e::es) X.env=(false,eval e X.env)::starEach es X.env:=by rfl) (hpl:(backTo pos (starEach es X.env)).any (·.1)=false:=by rfl):PE X (.Call (.Name x p) (e::es) [] pos) (tCB r t):=by
 intro pins s σ H Q I h
 refine wpAny_Call_Name_kw (d9Z I hg hm hv ?_ hn hdb)
 exact PyProof.Rows.callWith_builtin1 (thn (ha pos pins s σ H _ I h) fun us s1 ⟨vs,H1,I1,r1,q1⟩=>hc pins s1 σ H1 vs us Q I1 r1 q1) he hpl
theorem kX (hc:w9 X (.type T) r) (hg:Gl X x) (hm:X.mg x=none) (hv:bootBuiltins x=some (.type T)) (ha:PA X (e::es) t) (hn:x≠"__name__":=by decide) (hdb:(x==("__debug__":Str))=false:=by decide)
  (he:starEach (e::es) X.env=(false,eval e X.env)::starEach es X.env:=by rfl) (hpl:(backTo pos (starEach es X.env)).any (·.1)=false:=by rfl):PE X (.Call (.Name x p) (e::es) [] pos) (tCB r t):=by
 intro pins s σ H Q I h
 refine wpAny_Call_Name_kw (d9Z I hg hm hv ?_ hn hdb)
 exact PyProof.Rows.callWith_type1 (thn (ha pos pins s σ H _ I h) fun us s1 ⟨vs,H1,I1,r1,q1⟩=>hc pins s1 σ H1 vs us Q I1 r1 q1) he hpl
end
end L2
namespace HT
open PySem PyProof.Rows
section
variable {prog:Program}{w:World}{A:Around}{E:Value→Shared→Prop}{s:Shared}
def sIx (n d:Nat):Option Int→Nat
 | none=>d
 | some v=>if v < 0 then (v+(n:Int)).toNat else min v.toNat n
theorem sIx_none (n d:Nat):sIx n d none=d:=rfl
theorem sIx_nat (n d k:Nat):sIx n d (some (k:Int))=min k n:=by
 show (if (k:Int) < 0 then ((k:Int)+(n:Int)).toNat else min (k:Int).toNat n)=min k n
 rw [if_neg (by omega),Int.toNat_natCast]
theorem sIx_le (n d:Nat) (hd:d≤n) (o:Option Int):sIx n d o≤n:=by
 cases o with
 | none=>exact hd
 | some v=>
  show (if v < 0 then (v+(n:Int)).toNat else min v.toNat n)≤n
  by_cases hv:v < 0
  ·rw [if_pos hv];omega
  ·rw [if_neg hv];exact Nat.min_le_right _ _
end
end HT
namespace L2
open PySem PySem.Spec PyProof.Rows
abbrev TO:=St→Hp→(Option Int→Hp→Prop)→Prop
def PO (X:Cx) (e:Option Expr) (t:TO):Prop:=
 ∀ (pins:List (Addr×Obj)) (s:Shared) (σ:St) (H:Hp) (Q:Option Int→Hp→Prop),Inv X pins σ H s→t σ H Q →
  wpAny (model X.prog X.w) X.A (evalPart e X.env) (fun u s'=>∃ o H',Inv X pins σ H' s'∧IsPart u o∧Q o H') X.xe s
def dEO:TO:=fun _ H Q=>Q none H
def dGW (t:TE):TO:=fun σ H Q=>t σ H fun x H1=>∃ i,x=.int i∧Q (some i) H1
section
variable {X:Cx}{e:Expr}{te:TE}{lo hi:Option Expr}{tl th:TO}{pos p2:Pos}
theorem yh:PO X none dEO:=by
 intro pins s σ H Q I h
 rw [evalPart_none]
 exact wpAny_pure ⟨none,H,I,.none,h⟩
theorem vE (h:PE X e te):PO X (some e) (dGW te):=by
 intro pins s σ H Q I hw
 rw [evalPart_some]
 refine thn (h pins s σ H _ I hw) fun u s1 ⟨x,H1,I1,r1,q1⟩=>?_
 obtain ⟨i,rfl,q⟩:=q1
 obtain ⟨t,rfl⟩:=r1
 exact ⟨some i,H1,I1,.int i t,q⟩
def SlR (X:Cx) (r:V→Option Int→Option Int→Hp→VK→Prop):Prop:=
 ∀ (pins:List (Addr×Obj)) (s:Shared) (σ:St) (H:Hp) (x:V) (v vl vu:Value) (lo hi:Option Int) (sl:Addr) (Q:VK),Inv X pins σ H s→RelV x v→s.heap.IsSliceOf sl vl vu .none→IsPart vl lo→IsPart vu hi→r x lo hi H Q →
  ∃ T id,typeLookup (.type T) "__getitem__"=pure (some (.builtin id))∧s.TypeIs v T∧wpAny (model X.prog X.w) X.A (getItem v (.ref sl)) (EP X pins σ Q) X.xe s
def tSl (r:V→Option Int→Option Int→Hp→VK→Prop) (te:TE) (tl th:TO):TE:=fun σ H Q=>te σ H fun x H1=>tl σ H1 fun l H2=>th σ H2 fun u H3=>r x l u H3 Q
theorem uu {r:V→Option Int→Option Int→Hp→VK→Prop} (hr:SlR X r) (he:PE X e te) (hl:PO X lo tl) (hu:PO X hi th):PE X (.Subscript e (.Slice lo hi none p2) pos) (tSl r te tl th):=by
 intro pins s σ H Q I h
 refine Subscript_ (thn (he pins s σ H _ I h) fun v s1 ⟨x,H1,I1,r1,q1⟩=>?_)
 refine wpAny_Slice (thn (hl pins s1 σ H1 _ I1 q1) fun vl s2 ⟨l,H2,I2,pl,q2⟩=>thn (hu pins s2 σ H2 _ I2 q2) fun vu s3 ⟨u,H3,I3,pu,q3⟩=>?_)
 rw [evalPart_none]
 refine wpAny_pure ?_
 have I4:Inv X pins σ H3 { s3 with heap:=s3.heap.push { cls:=.type "slice",data:=.fields #[vl,vu,.none] } }:=I3.kept (t':=s3.toks) fun b ob q=>Heap.get?_push_of_some _ q
 obtain ⟨T,id,hT,ht,hg⟩:=hr pins { s3 with heap:=s3.heap.push { cls:=.type "slice",data:=.fields #[vl,vu,.none] } } σ H3 x v vl vu l u s3.heap.objs.size Q I4 r1 (Heap.IsSliceOf.new ..) pl pu q3
 show wpAny (model X.prog X.w) X.A (subscriptTail e (.Slice lo hi none p2) v (.ref s3.heap.objs.size)) (EP X pins σ Q) X.xe { s3 with heap:=s3.heap.push { cls:=.type "slice",data:=.fields #[vl,vu,.none] } }
 exact tail_any (ops:=[.ref s3.heap.objs.size,v]) ht hT hg (by with_unfolding_all rfl)
def cutV (xs:List V) (lo hi:Option Int):List V:=(xs.drop (HT.sIx xs.length 0 lo)).take (HT.sIx xs.length xs.length hi-HT.sIx xs.length 0 lo)
theorem d8Z (xs:List V) (lo hi:Option Int):(cutV xs lo hi).length≤xs.length:=by
 unfold cutV
 rw [List.length_take,List.length_drop]
 omega
end
end L2
namespace L2
open PySem PySem.Spec PyProof.Rows
def ixN (n:Nat) (i:Int):Option Nat:=if 0≤i then (if i < n then some i.toNat else none) else if -(n:Int)≤i then some (i+n).toNat else none
def atI {α:Type} (xs:List α) (i:Int):Option α:=(ixN xs.length i).bind fun j=>xs[j]?
theorem dEF {n:Nat}{i:Int}{j:Nat} (h:ixN n i=some j):seqIndex? i n=some j∧j < n∧-(n:Int)≤i∧i < n:=by
 unfold ixN at h
 by_cases h0:0≤i
 ·rw [if_pos h0] at h
  by_cases h1:i < n
  ·rw [if_pos h1] at h
   have e:i.toNat=j:=Option.some.inj h
   exact ⟨by rw [seqIndex_of h0 h1,e],by omega,by omega,h1⟩
  ·rw [if_neg h1] at h;cases h
 ·rw [if_neg h0] at h
  by_cases h1:-(n:Int)≤i
  ·rw [if_pos h1] at h
   have e:(i+n).toNat=j:=Option.some.inj h
   exact ⟨by rw [seqIndex_neg (by omega) h1,e],by omega,h1,by omega⟩
  ·rw [if_neg h1] at h;cases h
theorem d8R {α:Type}{xs:List α}{i:Int}{v:α} (h:atI xs i=some v):∃ j,seqIndex? i xs.length=some j∧xs[j]?=some v∧j < xs.length∧-(xs.length:Int)≤i∧i < xs.length:=by
 unfold atI at h
 cases e:ixN xs.length i with
 | none=>rw [e] at h;cases h
 | some j=>
  rw [e] at h
  obtain ⟨h1,h2,h3,h4⟩:=dEF e
  exact ⟨j,h1,h,h2,h3,h4⟩
theorem ku {α:Type}{xs:List α}{j:Nat}{v:α} (h:xs[j]?=some v):atI xs (j:Int)=some v:=by
 have hj:j < xs.length:=(List.getElem?_eq_some_iff.mp h).1
 have e:ixN xs.length (j:Int)=some j:=by
  unfold ixN
  rw [if_pos (by omega),if_pos (by omega)];simp
 unfold atI;rw [e];exact h
theorem ya {α:Type} (xs:List α) (v:α):atI (xs++[v]) (-1)=some v:=by
 have hl:(xs++[v]).length=xs.length+1:=by simp
 have e:ixN (xs++[v]).length (-1)=some xs.length:=by
  unfold ixN
  rw [hl,if_neg (by decide),if_pos (by omega)]
  congr 1
  omega
 unfold atI
 rw [e]
 show (xs++[v])[xs.length]?=some v
 simp
def dEo (b:Expr):Prop:=∀ o i,subscripted b false o i=operate [o,i] (getItem o i)
def IxR (X:Cx) (r:R2):Prop:=
 ∀ (value slice:Expr) (pins:List (Addr×Obj)) (s:Shared) (σ:St) (H:Hp) (x y:V) (v u:Value) (Q:VK),Inv X pins σ H s→RelV x v→RelV y u→r x y H Q →
  subscripted slice false v u=operate [v,u] (getItem v u)→wpAny (model X.prog X.w) X.A (subscriptTail value slice v u) (EP X pins σ Q) X.xe s
def MtR (X:Cx) (id:String) (r:V→List V→Hp→VK→Prop):Prop:=
 ∀ (pins:List (Addr×Obj)) (s:Shared) (σ:St) (H:Hp) (x:V) (xs:List V) (v:Value) (us:List Value) (Q:VK),Inv X pins σ H s→RelV x v→Vals xs us→r x xs H Q →
  wpAny (model X.prog X.w) X.A (call (.builtin id) (v::us)) (EP X pins σ Q) X.xe s
section
variable {X:Cx}{a b:Expr}{ta tb:TE}{pos:Pos}
theorem je {r:R2} (hr:IxR X r) (ha:PE X a ta) (hb:PE X b tb) (hs:dEo b):PE X (.Subscript a b pos) (tOp r ta tb):=by
 intro pins s σ H Q I h
 exact Subscript_ (binT ha hb I h fun v u s2 x y H2 I2 rx ry q=>hr a b pins s2 σ H2 x y v u Q I2 rx ry q (hs _ _))
def rIxL (K:PySem.W.Frag):R2:=fun x y H Q=>∃ p xs i v,x=.ref p∧y=.int i∧SqL K H p xs∧atI xs i=some v∧Q v H
def rIxT (K:PySem.W.Frag):R2:=fun x y H Q=>∃ p xs i v,x=.ref p∧y=.int i∧SqT K H p xs∧atI xs i=some v∧Q v H
def rIxS:R2:=fun x y H Q=>∃ z i c,x=.str z∧y=.int i∧z.length≤sizeLine∧atI z.cps.toList i=some c∧Q (.str ⟨#[c]⟩) H
theorem gj:IxR X (rIxL X.K):=by
 intro value slice pins s σ H x y v u Q I rx ry h hs
 obtain ⟨p,xs,i,z,rfl,rfl,hq,he,q⟩:=h
 cases rx
 obtain ⟨t,rfl⟩:=ry
 obtain ⟨its,r,pl,hz⟩:=I.list hq
 obtain ⟨j,h1,h2,h3,h4,h5⟩:=d8R he
 obtain ⟨w,ew,rw'⟩:=r.get h2
 have hl:=r.length
 have hn:=d4b
 have fin:EP X pins σ Q w s:=⟨z,H,I,rw',q⟩
 by_cases h0:0≤i
 ·have hj:i.toNat=j:=by
   rw [seqIndex_of h0 h5] at h1
   exact Option.some.inj h1
  exact item_listR pl.isList h0 (by omega) (by rw [hj];simpa using ew) fin hs
 ·have hj:(i+(its.toArray.size:Int)).toNat=j:=by
   rw [seqIndex_neg (by omega) h4] at h1
   rw [List.size_toArray,←hl]
   exact Option.some.inj h1
  exact subscriptTail_builtinR (x:=w) pl.isList.typeIs slot_list_getitem.lookup
   (wpAny_getItem_list_neg (Q:=fun r s'=>r=w∧EP X pins σ Q r s') pl.isList (by omega) (by rw [List.size_toArray] <;> omega) (by omega) (by rw [hj];simpa using ew) ⟨rfl,fin⟩) hs
theorem dFb:IxR X (rIxT X.K):=by
 intro value slice pins s σ H x y v u Q I rx ry h hs
 obtain ⟨p,xs,i,z,rfl,rfl,hq,he,q⟩:=h
 cases rx
 obtain ⟨t,rfl⟩:=ry
 obtain ⟨its,r,pl,hz⟩:=I.tuple hq
 obtain ⟨j,h1,h2,h3,h4,h5⟩:=d8R he
 obtain ⟨w,ew,rw'⟩:=r.get h2
 have hl:=r.length
 have hn:=d4b
 have fin:EP X pins σ Q w s:=⟨z,H,I,rw',q⟩
 exact subscriptTail_builtinR (x:=w) pl.typeIs slot_tuple_getitem.lookup
  (getItem_tuple (j:=j) (Q:=fun r s'=>r=w∧EP X pins σ Q r s') pl (by omega) (by omega) (by rw [List.size_toArray,←hl];exact h1) (by simpa using ew) ⟨rfl,fin⟩) hs
theorem d2v:IxR X rIxS:=by
 intro value slice pins s σ H x y v u Q I rx ry h hs
 obtain ⟨z,i,c,rfl,rfl,hz,he,q⟩:=h
 obtain ⟨t,rfl⟩:=rx
 obtain ⟨t',rfl⟩:=ry
 obtain ⟨j,h1,h2,h3,h4,h5⟩:=d8R he
 have hl:z.cps.toList.length=z.length:=by simp [Str.length]
 rw [hl] at h1 h4 h5
 have hn:=d4b
 exact tail_any (typeIs_str s z t) slot_str_getitem.lookup (getItem_str (c:=c) (by
  have e1:decide (i < -(2 ^ 63:Int))=false:=decide_eq_false (by omega)
  have e2:decide (i ≥ 2 ^ 63)=false:=decide_eq_false (by omega)
  rw [e1,e2,Bool.or_false]) (by rw [h1];simpa using h2) ⟨.str ⟨#[c]⟩,H,I.tok _,⟨_,rfl⟩,q⟩) hs
theorem d5F (lo hi:Option Int) (n:Nat):(sliceBounds lo hi none n).1=((HT.sIx n 0 lo:Nat):Int)∧(sliceBounds lo hi none n).2.1=((HT.sIx n n hi:Nat):Int)∧(sliceBounds lo hi none n).2.2=1:=by
 refine ⟨?_,?_,rfl⟩
 ·cases lo with
  | none=>simp [sliceBounds,HT.sIx]
  | some i=>
   simp only [sliceBounds,HT.sIx,Option.getD_none,show (1:Int) > 0 by decide,if_true]
   by_cases h:i < 0
   ·simp only [h,if_true] <;> omega
   ·simp only [h,if_false] <;> omega
 ·cases hi with
  | none=>simp [sliceBounds,HT.sIx]
  | some i=>
   simp only [sliceBounds,HT.sIx,Option.getD_none,show (1:Int) > 0 by decide,if_true]
   by_cases h:i < 0
   ·simp only [h,if_true] <;> omega
   ·simp only [h,if_false] <;> omega
theorem yT (its:List Value) (lo hi:Option Int):slicePick its.toArray lo hi none=((its.drop (HT.sIx its.length 0 lo)).take (HT.sIx its.length its.length hi-HT.sIx its.length 0 lo)).toArray:=by
 obtain ⟨h1,h2,h3⟩:=d5F lo hi its.toArray.size
 unfold slicePick
 rw [h1,h2,h3]
 simp only [sliceRange_one,pick_run,List.size_toArray] <;> rfl
def rSlL (K:PySem.W.Frag):V→Option Int→Option Int→Hp→VK→Prop:=fun x lo hi H Q=>∃ a xs,x=.ref a∧SqL K H a xs∧∀ p,H p=none→Q (.ref p) (upd H p (.lst (cutV xs lo hi)))
theorem z3:SlR X (rSlL X.K):=by
 intro pins s σ H x v vl vu lo hi sl Q I rx hs pl pu h
 obtain ⟨a,xs,rfl,hx,q⟩:=h
 cases rx
 obtain ⟨its,r,ht,hz⟩:=I.list hx
 have hlen:=r.length
 refine ⟨"list",_,slot_list_getitem.lookup,ht.isList.typeIs,?_⟩
 refine wpAny_getItem_list_slice ht.isList hs pl pu .none (by simp) ?_ (by rw [List.size_toArray] <;> omega)
 rw [yT,←hlen]
 refine ⟨.ref s.heap.objs.size,_,I.laid (t':=s.toks) (o:=.lst (cutV xs lo hi)) (fun b ob q=>Heap.get?_push_of_some _ q) (Nat.le_refl _) ?_,rfl,q _ (I.hok.fresh (Nat.le_refl _))⟩
 exact ⟨Nat.le_trans (d8Z xs lo hi) hz,_,0,(r.drop (HT.sIx xs.length 0 lo)).take (HT.sIx xs.length xs.length hi-HT.sIx xs.length 0 lo),Heap.get?_push_size _ rfl⟩
def yo:V→Bool
 | .non=>true
 | .bl _=>true
 | .int _=>true
 | .str _=>true
 | _=>false
def eqV:V→V→Bool
 | .non,.non=>true
 | .bl a,.bl b=>a==b
 | .bl a,.int b=>(if a then 1 else 0)==b
 | .int a,.bl b=>a==(if b then 1 else 0)
 | .int a,.int b=>a==b
 | .str a,.str b=>a==b
 | _,_=>false
theorem dFQ {A:Around}{s:Shared}{y x:V}{u v:Value} (ry:RelV y u) (rx:RelV x v) (fy:yo y=true) (fx:yo x=true):SeqAt.EqAt A s u v (eqV y x):=by
 cases y with
 | non=>
  cases ry
  cases x with
  | non=>cases rx;exact SeqAt.EqAt.same _
  | bl b=>cases rx;exact SeqAt.EqAt.none_bool b
  | int b=>obtain ⟨t,rfl⟩:=rx;exact SeqAt.EqAt.none_int b t
  | str b=>obtain ⟨t,rfl⟩:=rx;exact SeqAt.EqAt.none_str b t
  | _=>exact absurd (show false=true from fx) Bool.false_ne_true
 | bl a=>
  cases ry
  cases x with
  | non=>cases rx;exact SeqAt.EqAt.bool_none a
  | bl b=>cases rx;exact SeqAt.EqAt.bool_bool a b
  | int b=>obtain ⟨t,rfl⟩:=rx;exact SeqAt.EqAt.bool_int a b t
  | str b=>obtain ⟨t,rfl⟩:=rx;exact SeqAt.EqAt.bool_str a b t
  | _=>exact absurd (show false=true from fx) Bool.false_ne_true
 | int a=>
  obtain ⟨t',rfl⟩:=ry
  cases x with
  | non=>cases rx;exact SeqAt.EqAt.int_none a t'
  | bl b=>cases rx;exact SeqAt.EqAt.int_bool a t' b
  | int b=>obtain ⟨t,rfl⟩:=rx;exact SeqAt.EqAt.int_int a t' b t
  | str b=>obtain ⟨t,rfl⟩:=rx;exact SeqAt.EqAt.int_str a t' b t
  | _=>exact absurd (show false=true from fx) Bool.false_ne_true
 | str a=>
  obtain ⟨t',rfl⟩:=ry
  cases x with
  | non=>cases rx;exact SeqAt.EqAt.str_none a t'
  | bl b=>cases rx;exact SeqAt.EqAt.str_bool a t' b
  | int b=>obtain ⟨t,rfl⟩:=rx;exact SeqAt.EqAt.str_int a t' b t
  | str b=>obtain ⟨t,rfl⟩:=rx;exact SeqAt.EqAt.str_str a t' b t
  | _=>exact absurd (show false=true from fx) Bool.false_ne_true
 | _=>exact absurd (show false=true from fy) Bool.false_ne_true
def eqU (x:V) (u:Value):Bool:=match u with
 | .none=>eqV .non x
 | .bool b=>eqV (.bl b) x
 | .int i _=>eqV (.int i) x
 | .str z _=>eqV (.str z) x
 | _=>false
theorem dDh {x y:V}{u:Value} (r:RelV y u) (f:yo y=true):eqU x u=eqV y x:=by
 cases y with
 | non=>cases r;rfl
 | bl b=>cases r;rfl
 | int i=>obtain ⟨t,rfl⟩:=r;rfl
 | str z=>obtain ⟨t,rfl⟩:=r;rfl
 | _=>exact absurd (show false=true from f) Bool.false_ne_true
theorem vo {x:V}:∀ {xs:List V}{us:List Value},Vals xs us→xs.all yo=true→us.any (eqU x)=xs.any fun y=>eqV y x
 | _,_,.nil,_=>rfl
 | y::xs,u::us,.cons r t,f=>by
  rw [List.all_cons,Bool.and_eq_true] at f
  rw [List.any_cons,List.any_cons,dDh r f.1,vo t f.2]
theorem ur {A:Around}{s:Shared}{x:V}{v:Value} (rx:RelV x v) (fx:yo x=true):∀ {xs:List V}{us:List Value},Vals xs us→xs.all yo=true→∀ u∈us,SeqAt.EqAt A s u v (eqU x u)
 | _,_,.nil,_=>fun u hu=>by cases hu
 | y::xs,u::us,.cons r t,f=>fun u' hu=>by
  rw [List.all_cons,Bool.and_eq_true] at f
  rcases List.mem_cons.mp hu with rfl | hu
  ·rw [dDh r f.1];exact dFQ r rx f.1 fx
  ·exact ur rx fx t f.2 u' hu
def inV (x:V) (xs:List V):Bool:=xs.any fun y=>eqV y x
def rIn (K:PySem.W.Frag) (neg:Bool):R2:=fun x y H Q=>∃ p xs,y=.ref p∧(SqL K H p xs∨SqT K H p xs)∧yo x=true∧xs.all yo=true∧Q (.bl (if neg then !inV x xs else inV x xs)) H
theorem dAw:OpR X (compareOp .In) (rIn X.K false):=by
 intro pins s σ H x y v u Q I rx ry h
 obtain ⟨p,xs,rfl,hq,fx,fs,q⟩:=h
 cases ry
 rcases hq with hq | hq
 ·obtain ⟨its,r,pl,hz⟩:=I.list hq
  refine SeqAt.in_listAt (eqU x) pl.isList (fun w hw=>ur rx fx r fs w (by simpa using hw)) ⟨.bl _,H,I,rfl,?_⟩
  rw [show its.toArray.any (eqU x)=its.any (eqU x) by simp,vo r fs]
  exact q
 ·obtain ⟨its,r,pl,hz⟩:=I.tuple hq
  refine SeqAt.in_tupleAt (eqU x) pl (fun w hw=>ur rx fx r fs w (by simpa using hw)) ⟨.bl _,H,I,rfl,?_⟩
  rw [show its.toArray.any (eqU x)=its.any (eqU x) by simp,vo r fs]
  exact q
theorem d2o:OpR X (compareOp .NotIn) (rIn X.K true):=by
 intro pins s σ H x y v u Q I rx ry h
 obtain ⟨p,xs,rfl,hq,fx,fs,q⟩:=h
 cases ry
 rcases hq with hq | hq
 ·obtain ⟨its,r,pl,hz⟩:=I.list hq
  refine SeqAt.notIn_listAt (eqU x) pl.isList (fun w hw=>ur rx fx r fs w (by simpa using hw)) ⟨.bl _,H,I,rfl,?_⟩
  rw [show its.toArray.any (eqU x)=its.any (eqU x) by simp,vo r fs]
  exact q
 ·obtain ⟨its,r,pl,hz⟩:=I.tuple hq
  refine SeqAt.notIn_tupleAt (eqU x) pl (fun w hw=>ur rx fx r fs w (by simpa using hw)) ⟨.bl _,H,I,rfl,?_⟩
  rw [show its.toArray.any (eqU x)=its.any (eqU x) by simp,vo r fs]
  exact q
theorem dJ:w9 X (.builtin "len") (fun xs H Q=>∃ p ys,xs=[.ref p]∧(SqL X.K H p ys∨SqT X.K H p ys)∧Q (.int ys.length) H):=by
 intro pins s σ H xs us Q I r h
 obtain ⟨p,ys,rfl,hq,q⟩:=h
 obtain ⟨u,rfl,rx⟩:=dCo r
 cases rx
 have hn:=d4b
 rcases hq with hq | hq
 ·obtain ⟨its,r',pl,hz⟩:=I.list hq
  have hlen:=r'.length
  exact Calls.call_len_list pl.isList (by simp only [List.size_toArray] <;> omega) ⟨.int ys.length,H,I.tok _,⟨s.toks+1,by rw [List.size_toArray,hlen]⟩,q⟩
 ·obtain ⟨its,r',pl,hz⟩:=I.tuple hq
  have hlen:=r'.length
  exact len_tuple pl (by simp only [List.size_toArray] <;> omega) ⟨.int ys.length,H,I.tok _,⟨s.toks+1,by rw [List.size_toArray,hlen]⟩,q⟩
theorem gn:w9 X (.builtin "len") (fun xs H Q=>∃ z,xs=[.str z]∧z.length≤sizeLine∧Q (.int z.length) H):=by
 intro pins s σ H xs us Q I r h
 obtain ⟨z,rfl,hz,q⟩:=h
 obtain ⟨u,rfl,t,rfl⟩:=dCo r
 have hn:=d4b
 exact len_str (by omega) ⟨.int z.length,H,I.tok _,⟨_,rfl⟩,q⟩
def tyV (K:PySem.W.Frag) (T:String) (x:V) (H:Hp):Prop:=match x with
 | .str _=>T="str"
 | .int _=>T="int"
 | .ref p=>(T="list"∧∃ xs,SqL K H p xs)∨(T="tuple"∧∃ o,K.lookup p=some o∧o.cls=.type "tuple"∧o.dict=none) ∨
   (T="dict"∧((∃ kvs,H p=some (.dK kvs))∨∃ kvs,H p=some (.dT kvs)))∨(T="set"∧∃ S n,H p=some (.set S n))
 | _=>False
theorem dDy {pins:List (Addr×Obj)}{σ:St}{H:Hp}{s:Shared}{T:String}{x:V}{v:Value} (I:Inv X pins σ H s) (r:RelV x v) (ty:tyV X.K T x H) :
  s.TypeIs v T∧∀ a,v=.ref a→∃ ob,s.heap.get? a=some ob∧ob.dict=none:=by
 cases x with
 | str z=>
  obtain ⟨t,rfl⟩:=r
  cases (show T="str" from ty)
  exact ⟨typeIs_str s z t,fun _ e=>nomatch e⟩
 | int i=>
  obtain ⟨t,rfl⟩:=r
  cases (show T="int" from ty)
  exact ⟨typeIs_int s i t,fun _ e=>nomatch e⟩
 | ref p=>
  cases r
  rcases ty with ⟨rfl,xs,hq⟩ | ⟨rfl,o,hk,hc,hd⟩ | ⟨rfl,hk⟩ | ⟨rfl,S,n,hk⟩
  ·obtain ⟨its,_,pl,_⟩:=I.list hq
   refine ⟨pl.isList.typeIs,fun a e=>?_⟩
   cases e
   obtain ⟨o,n,e,c,hd,_⟩:=pl
   exact ⟨o,e,hd⟩
  ·refine ⟨⟨o,I.kIn p o hk,hc⟩,fun a e=>?_⟩
   cases e
   exact ⟨o,I.kIn _ o hk,hd⟩
  ·have z:∃ o,s.heap.get? p=some o∧o.ExactDict:=by
    rcases hk with ⟨kvs,hk⟩ | ⟨kvs,hk⟩
    ·obtain ⟨_,_,_,_,o,_,_,e,ex,_⟩:=I.hok p _ hk
     exact ⟨o,e,ex⟩
    ·obtain ⟨_,_,_,_,o,_,_,e,ex,_⟩:=I.hok p _ hk
     exact ⟨o,e,ex⟩
   obtain ⟨o,e,ex⟩:=z
   refine ⟨⟨o,e,ex.1⟩,fun a e2=>?_⟩
   cases e2
   exact ⟨o,e,ex.2.1⟩
  ·obtain ⟨o,_,_,_,e,ex,_⟩:=I.hok p _ hk
   refine ⟨⟨o,e,ex.1⟩,fun a e2=>?_⟩
   cases e2
   exact ⟨o,e,ex.2.1⟩
 | _=>exact False.elim ty
def tBM0 (K:PySem.W.Frag) (T:String) (r:V→List V→Hp→VK→Prop) (to:TE):TE:=fun σ H Q=>to σ H fun x H1=>tyV K T x H1∧r x [] H1 Q
def tBM (K:PySem.W.Frag) (T:String) (r:V→List V→Hp→VK→Prop) (to:TE) (t:TA):TE:=fun σ H Q=>to σ H fun x H1=>tyV K T x H1∧t σ H1 fun xs H2=>r x xs H2 Q
variable {o e:Expr}{es:List Expr}{to:TE}{t:TA}{name:Str}{apos cpos:Pos}{T id:String}{r:V→List V→Hp→VK→Prop}
theorem dBH (pa:PlainAttrs T) (slot:Slot T name id) (hty:typeOf (.builtin id)=pure (.type "method_descriptor")) (hm:MtR X id r) (ho:PE X o to)
  (hbase:attributeBase o name X.env (eval o X.env)=eval o X.env:=by rfl) (hline:(apos.endLine==cpos.line)=true:=by rfl):PE X (.Call (.Attribute o name apos) [] [] cpos) (tBM0 X.K T r to):=by
 intro pins s σ H Q I h
 refine wpAny_Call_method0_late hbase hline (thn (ho pins s σ H _ I h) fun v s1 ⟨x,H1,I1,r1,ty,q1⟩=>?_)
 obtain ⟨h1,h2⟩:=dDy I1 r1 ty
 exact ⟨T,id,pa,slot,hty,h1,h2,Calls.callWith_builtin rfl (PySem.evalArgs_none (hm pins s1 σ H1 x [] v [] Q I1 r1 .nil q1))⟩
theorem kZ (pa:PlainAttrs T) (slot:Slot T name id) (hty:typeOf (.builtin id)=pure (.type "method_descriptor")) (hm:MtR X id r) (ho:PE X o to) (ha:PA X (e::es) t)
  (hbase:attributeBase o name X.env (eval o X.env)=eval o X.env:=by rfl)
  (hfew:((backTo cpos (starEach (e::es) X.env)).all (fun x=>!x.1)&&(backToKw cpos (keywordEach [] X.env)).all (fun x=>x.1.isSome)
   && decide ((e::es).length+([]:List Keyword).length+(if ([]:List Keyword).isEmpty then 0 else 1) < 30))=true:=by rfl)
  (hline:(apos.endLine==cpos.line)=true:=by rfl) (hs:starEach (e::es) X.env=(false,eval e X.env)::starEach es X.env:=by rfl) (hplain:(backTo cpos (starEach es X.env)).any (·.1)=false:=by rfl) :
  PE X (.Call (.Attribute o name apos) (e::es) [] cpos) (tBM X.K T r to t):=by
 intro pins s σ H Q I h
 refine wpAny_Call_method_late hbase hfew hline rfl (thn (ho pins s σ H _ I h) fun v s1 ⟨x,H1,I1,r1,ty,q1⟩=>?_)
 obtain ⟨h1,h2⟩:=dDy I1 r1 ty
 refine ⟨T,id,pa,slot,hty,h1,h2,?_⟩
 have hA:=ha cpos pins s1 σ H1 _ I1 q1
 rw [hs] at hA ⊢
 refine Calls.callWith_builtin (by show (false||(backTo cpos (starEach es X.env)).any (·.1))=false;rw [hplain] <;> rfl) (Calls.evalArgs_plain ?_)
 exact thn hA fun us s2 ⟨vs,H2,I2,r2,q2⟩=>hm pins s2 σ H2 x vs v us Q I2 r1 r2 q2
end
end L2
namespace L2
open PySem PySem.Spec PyProof.Rows
def MtM (X:Cx) (id:String) (r:V→List V→Hp→VK→Prop):Prop:=
 ∀ (pins:List (Addr×Obj)) (s:Shared) (σ:St) (H:Hp) (x:V) (xs:List V) (v:Value) (us:List Value) (Q:VK),Inv X pins σ H s→RelV x v→Vals xs us→r x xs H Q →
  wpAny (model X.prog X.w) X.A (call (.builtin id) (v::us)) (EP X pins σ Q) X.xe s
theorem Vals.one:∀ {x:V}{us:List Value},Vals [x] us→∃ u,us=[u]∧RelV x u
 | _,_,.cons r .nil=>⟨_,rfl,r⟩
theorem Vals.zero:∀ {us:List Value},Vals [] us→us=[]
 | _,.nil=>rfl
theorem Vals.dropLast {xs:List V}{us:List Value} (h:Vals xs us):Vals xs.dropLast us.dropLast:=by
 induction h with
 | nil=>exact .nil
 | cons r t ih=>
  cases t with
  | nil=>exact .nil
  | cons q t'=>exact .cons r ih
theorem Vals.reverse {xs:List V}{us:List Value} (h:Vals xs us):Vals xs.reverse us.reverse:=by
 induction h with
 | nil=>exact .nil
 | cons r t ih=>rw [List.reverse_cons,List.reverse_cons];exact Vals.append ih (.cons r .nil)
theorem dA5 {α:Type} (l:List α):l.eraseIdx (l.length-1)=l.dropLast:=by
 induction l with
 | nil=>rfl
 | cons a r ih=>
  cases r with
  | nil=>rfl
  | cons b r=>
   have e:(a::b::r).length-1=((b::r).length-1)+1:=by
    have h1:(a::b::r).length=r.length+2:=rfl
    have h2:(b::r).length=r.length+1:=rfl
    omega
   rw [e,List.eraseIdx_cons_succ,ih]
   all_goals rfl
section
variable {X:Cx}{pins:List (Addr×Obj)}{σ:St}{H:Hp}{s:Shared}{l b:Addr}{xs ys zs:List V}
theorem Inv.lset {its its':List Value}{n:Nat}{f:Array Value→Array Value}{t':Nat} (I:Inv X pins σ H s) (hH:H l=some (.lst xs))
  (e:s.heap.get? l=some { cls:=.type "list",data:=.seq its.toArray n }) (hf:f its.toArray=its'.toArray) (hv:Vals ys its') (hz:ys.length≤sizeLine) :
  Inv X pins σ (upd H l (.lst ys)) { s with heap:=s.heap.update l (Obj.mapSeq f),toks:=t' }:=by
 have q:=PySem.IsL.update e f
 rw [hf] at q
 refine I.write (x:=l) (e:=l) (by rw [hH];exact trivial) (.inl rfl) (fun b' u hb hu=>(Heap.get?_update_other s.heap (Obj.mapSeq f) (Ne.symm hb)).trans hu) ⟨_,q⟩ ?_
 exact ⟨hz,its',_,hv,q⟩
theorem Inv.lnew {its:List Value}{t':Nat} (I:Inv X pins σ H s) (hv:Vals ys its) (hz:ys.length≤sizeLine) :
  Inv X pins σ (upd H s.heap.objs.size (.lst ys)) { s with heap:=s.heap.push { cls:=.type "list",data:=.seq its.toArray },toks:=t' }:=
 I.laid (fun _ _ q=>Heap.get?_push_of_some _ q) (Nat.le_refl _) ⟨hz,its,0,hv,Heap.get?_push_size _ rfl⟩
theorem Inv.fresh (I:Inv X pins σ H s):H s.heap.objs.size=none:=I.hok.fresh (Nat.le_refl _)
theorem Inv.lstM (I:Inv X pins σ H s) (hH:H l=some (.lst xs)):xs.length≤sizeLine∧∃ (its:List Value) (n:Nat),Vals xs its∧xs.length=its.length∧s.heap.get? l=some { cls:=.type "list",data:=.seq its.toArray n }:=by
 obtain ⟨z,its,n,r,e⟩:=I.hok l _ hH
 exact ⟨z,its,n,r,r.length,e⟩
theorem dCc {n:Nat} (h:n≤sizeLine):Builtin.List.listTooLong n=false:=by
 unfold Builtin.List.listTooLong
 exact decide_eq_false (by omega)
end
section
variable {X:Cx}
def dAp:V→List V→Hp→VK→Prop:=fun x vs H Q=>∃ l xs y,x=.ref l∧vs=[y]∧H l=some (.lst xs)∧xs.length < sizeLine∧Q .non (upd H l (.lst (xs++[y])))
theorem g7:MtM X "list.append" dAp:=by
 intro pins s σ H x vs v us Q I rx rv h
 obtain ⟨l,xs,y,rfl,rfl,hH,hz,q⟩:=h
 cases rx
 obtain ⟨u,rfl,ru⟩:=rv.one
 obtain ⟨z,its,n,r,hl,e⟩:=I.lstM hH
 refine call_meets F.slot_list_append ⟨_,e,rfl⟩ F.entry_list_append (F.args_list_append_2 _ _) (PySem.list_append l its.toArray n u (by rw [List.size_toArray];omega)) ⟨e,?_⟩
 refine ⟨.non,_,I.lset (its':=its++[u]) hH e (by simp) (r.append (.cons ru .nil)) ?_,rfl,q⟩
 rw [List.length_append,List.length_singleton]
 omega
def dEQ:V→List V→Hp→VK→Prop:=fun x vs H Q=>∃ l b xs zs,x=.ref l∧vs=[.ref b]∧H l=some (.lst xs)∧H b=some (.lst zs)∧xs.length+zs.length≤sizeLine∧Q .non (upd H l (.lst (xs++zs)))
theorem dC3:MtM X "list.extend" dEQ:=by
 intro pins s σ H x vs v us Q I rx rv h
 obtain ⟨l,b,xs,zs,rfl,rfl,hH,hB,hz,q⟩:=h
 cases rx
 obtain ⟨u,rfl,ru⟩:=rv.one
 cases ru
 obtain ⟨z,its,n,r,hl,e⟩:=I.lstM hH
 obtain ⟨z2,its2,n2,r2,hl2,e2⟩:=I.lstM hB
 have hsz:its.toArray.size+its2.toArray.size≤sizeLine:=by rw [List.size_toArray,List.size_toArray];omega
 have hlong:¬ (!its.toArray.isEmpty&&Builtin.List.listTooLong (its.toArray.size+its2.toArray.size))=true:=by
  rw [dCc hsz,Bool.and_false]
  exact Bool.false_ne_true
 refine call_meets F.slot_list_extend ⟨_,e,rfl⟩ F.entry_list_extend (F.args_list_extend_2 _ _)
  (AutoSeq1.list_extend_list_list_0 l its.toArray n b its2.toArray n2 hlong (by rw [List.size_toArray];omega) (by omega)) ⟨e,e2,?_⟩
 refine ⟨.non,_,I.lset (its':=its++its2) hH e (by simp) (r.append r2) ?_,rfl,q⟩
 rw [List.length_append]
 omega
def rPop:V→List V→Hp→VK→Prop:=fun x vs H Q=>∃ l xs y,x=.ref l∧vs=[]∧H l=some (.lst xs)∧xs[xs.length-1]?=some y∧Q y (upd H l (.lst xs.dropLast))
theorem dE5:MtM X "list.pop" rPop:=by
 intro pins s σ H x vs v us Q I rx rv h
 obtain ⟨l,xs,y,rfl,rfl,hH,hy,q⟩:=h
 cases rx
 have hus:=rv.zero
 subst hus
 obtain ⟨z,its,n,r,hl,e⟩:=I.lstM hH
 obtain ⟨u,hu,ru⟩:=r.get hy
 have hy':its.toArray[its.toArray.size-1]?=some u:=by
  show its.toArray[its.length-1]?=some u
  rw [←Array.getElem?_toList,←hl]
  exact hu
 refine call_meets F.slot_list_pop ⟨_,e,rfl⟩ F.entry_list_pop (F.args_list_pop_1 _) (MeetsSeq.list_pop_last l its.toArray n u hy' (by rw [List.size_toArray];omega)) ⟨e,?_⟩
 refine ⟨y,_,I.lset (its':=its.dropLast) hH e ?_ r.dropLast ?_,ru,q⟩
 ·show its.toArray.eraseIdxIfInBounds (its.toArray.size-1)=its.dropLast.toArray
  rw [List.size_toArray,List.eraseIdxIfInBounds_toArray,dA5]
 ·rw [List.length_dropLast]
  omega
def dCk:V→List V→Hp→VK→Prop:=fun x vs H Q=>∃ l xs,x=.ref l∧vs=[]∧H l=some (.lst xs)∧Q .non (upd H l (.lst xs.reverse))
theorem dA2:MtM X "list.reverse" dCk:=by
 intro pins s σ H x vs v us Q I rx rv h
 obtain ⟨l,xs,rfl,rfl,hH,q⟩:=h
 cases rx
 have hus:=rv.zero
 subst hus
 obtain ⟨z,its,n,r,hl,e⟩:=I.lstM hH
 refine call_meets F.slot_list_reverse ⟨_,e,rfl⟩ F.entry_list_reverse (F.args_list_reverse_1 _) (AutoSeq1.list_reverse_list_0 l its.toArray n (by rw [List.size_toArray];omega)) ⟨e,?_⟩
 refine ⟨.non,_,I.lset (its':=its.reverse) hH e (by simp) r.reverse ?_,rfl,q⟩
 rw [List.length_reverse]
 omega
def rCat:R2:=fun x y H Q=>∃ l b xs zs,x=.ref l∧y=.ref b∧H l=some (.lst xs)∧H b=some (.lst zs)∧xs.length+zs.length≤sizeLine∧∀ p,H p=none→Q (.ref p) (upd H p (.lst (xs++zs)))
theorem dGP:OpR X (binaryOp .Add) rCat:=by
 intro pins s σ H x y v u Q I rx ry h
 obtain ⟨l,b,xs,zs,rfl,rfl,hH,hB,hz,q⟩:=h
 cases rx
 cases ry
 obtain ⟨z,its,n,r,hl,e⟩:=I.lstM hH
 obtain ⟨z2,its2,n2,r2,hl2,e2⟩:=I.lstM hB
 refine PySem.P.add_list e e2 ?_ (by rw [List.size_toArray,List.size_toArray];omega)
 have ea:its.toArray++its2.toArray=(its++its2).toArray:=by simp
 rw [ea]
 exact ⟨.ref _,_,I.lnew (t':=s.toks) (r.append r2) (by rw [List.length_append];omega),rfl,q _ I.fresh⟩
end
end L2
namespace L2
open PySem PySem.Spec PyProof.Rows
theorem Vals.ints:∀ {ns:List Int}{us:List Value},Vals (ns.map V.int) us→IntsAre us ns
 | [],us,h=>by
  rw [List.map_nil] at h
  cases h
  exact IntsAre.nil
 | n::ns,us,h=>by
  rw [List.map_cons] at h
  cases h with
  | cons r t=>
   obtain ⟨k,rfl⟩:=r
   exact IntsAre.cons n k (Vals.ints t)
theorem Vals.bls:∀ {bs:List Bool}{us:List Value},Vals (bs.map V.bl) us→us=bs.map Value.bool
 | [],us,h=>by
  rw [List.map_nil] at h
  cases h
  rfl
 | b::bs,us,h=>by
  rw [List.map_cons] at h
  cases h with
  | cons r t=>
   cases r
   rw [Vals.bls t,List.map_cons]
theorem Vals.ref1 {a:Addr}{us:List Value} (r:Vals [V.ref a] us):us=[Value.ref a]:=by
 cases r with
 | cons r t=>
  cases t
  cases r
  rfl
section
variable {prog:Program}{w:World}{A:Around}{E:Value→Shared→Prop}{s:Shared}{l:Addr}{its:List Value}{ns:List Int}{Q:Value→Shared→Prop}
theorem dF6 (hh:A.handled=none) (hl:s.heap.IsList l its.toArray) (hi:IntsAre its ns)
  (h:∀ h' tk t',(∀ b o,s.heap.get? b=some o→h'.get? b=some o)→Q (.int ns.sum t') { s with heap:=h',toks:=tk }):wpAny (model prog w) A (call (.builtin "sum") [.ref l]) Q E s:=by
 obtain ⟨xs,e⟩:=hi.allInts.items
 have hn:numsOf (intItems xs).toList=ns:=by rw [←e];exact hi.numsOf
 rw [nums_intItems] at hn
 rw [e] at hl
 refine PySem.sum_intListG hh hl fun h' tk t' hk=>?_
 have:=h h' tk t' hk
 rw [preSum_eq,List.take_of_length_le (by simp),hn];exact this
end
section
variable {X:Cx}
def rSum (K:PySem.W.Frag):List V→Hp→VK→Prop:=fun vs H Q=>∃ (a:Addr) (ns:List Int),vs=[V.ref a]∧SqL K H a (ns.map V.int)∧Q (.int ns.sum) H
theorem dGH (hc:X.calm=true):w9 X (.builtin "sum") (rSum X.K):=by
 intro pins s σ H vs us Q I r h
 obtain ⟨a,ns,rfl,hs,q⟩:=h
 obtain ⟨its,rv,hl,_⟩:=I.list hs
 rw [Vals.ref1 r]
 exact dF6 (I.ok.hd hc) hl.isList rv.ints fun h' tk t' hk=>⟨.int _,H,I.kept hk,⟨_,rfl⟩,q⟩
end
theorem d9A {prog:Program}{w:World}{A:Around}{E:Value→Shared→Prop}{s:Shared}{l:Addr}{items:Array Value}{Q:Value→Shared→Prop} (hl:s.heap.IsList l items)
  (h:∀ s₂:Shared,s₂={ s with heap:=s.heap.push { cls:=.type "list_iterator",data:=.fields #[.ref l,.int 0 0] } } →
   (s₂.heap.IsListIter s.heap.objs.size l 0∧s₂.heap.IsList l items)→l≠s.heap.objs.size→Q (.ref s.heap.objs.size) s₂):wpAny (model prog w) A (pyIter (.ref l)) Q E s:=by
 have hlt:l < s.heap.objs.size:=by obtain ⟨_,e,_⟩:=hl;exact Heap.lt_size e
 exact wpAny_pyIter_list hl (h _ rfl ⟨⟨_,Heap.get?_push_size _ rfl,rfl,rfl⟩,hl.push _⟩ (Nat.ne_of_lt hlt))
theorem vk {prog:Program}{w:World}{A:Around}{bs:List Bool}{its:List Value} (e:its=bs.map Value.bool) :
  TruthOf prog w A (fun i v=>its.toArray[i]?=some v) (fun i=>bs.getD i false):=fun i v s Q E hv hq=>by
 have hv':its[i]?=some v:=by simpa using hv
 rw [e,List.getElem?_map] at hv'
 obtain ⟨b,hb,rfl⟩:=Option.map_eq_some_iff.mp hv'
 have hg:bs.getD i false=b:=by rw [List.getD_eq_getElem?_getD,hb] <;> rfl
 have hq':Q (bs.getD i false) s:=hq
 rw [hg] at hq'
 exact wpAny_truthy_bool hq'
theorem d4Y:∀ bs:List Bool,(List.range bs.length).any (fun i=>bs.getD i false)=bs.any id
 | []=>rfl
 | b::bs=>by
  rw [List.length_cons,List.range_succ_eq_map,List.any_cons,List.any_map,List.any_cons,←d4Y bs]
  all_goals rfl
theorem d2q:∀ bs:List Bool,(List.range bs.length).all (fun i=>bs.getD i false)=bs.all id
 | []=>rfl
 | b::bs=>by
  rw [List.length_cons,List.range_succ_eq_map,List.all_cons,List.all_map,List.all_cons,←d2q bs]
  all_goals rfl
section
variable {X:Cx}
def rAny (K:PySem.W.Frag):List V→Hp→VK→Prop:=fun vs H Q=>∃ (a:Addr) (bs:List Bool),vs=[V.ref a]∧SqL K H a (bs.map V.bl)∧Q (.bl (bs.any id)) H
def rAll (K:PySem.W.Frag):List V→Hp→VK→Prop:=fun vs H Q=>∃ (a:Addr) (bs:List Bool),vs=[V.ref a]∧SqL K H a (bs.map V.bl)∧Q (.bl (bs.all id)) H
theorem d9O (hc:X.calm=true):w9 X (.builtin "any") (rAny X.K):=by
 intro pins s σ H vs us Q I r h
 obtain ⟨a,bs,rfl,hs,q⟩:=h
 obtain ⟨its,rv,hl,_⟩:=I.list hs
 rw [Vals.ref1 r]
 have hb:=rv.bls
 refine call_any_walk (d9A hl.isList fun s₂ e2 st hne=>?_)
 subst e2
 refine ⟨_,_,_,_,_,_,_,rfl,Walks.list (A:=X.A.in1) (I.ok.hd hc) _ a hne its.toArray,st,vk hb,fun h' tk hk=>?_⟩
 refine ⟨.bl _,H,I.kept fun b o eo=>hk b o (fun hmem=>?_) (Heap.get?_push_of_some _ eo),?_,q⟩
 ·rcases List.mem_cons.mp hmem with e1 | hmem
  ·exact absurd (e1▸Heap.lt_size eo) (Nat.lt_irrefl _)
  ·cases hmem
 ·show Value.bool _=Value.bool _
  rw [←d4Y,hb,List.size_toArray,List.length_map]
theorem dGR (hc:X.calm=true):w9 X (.builtin "all") (rAll X.K):=by
 intro pins s σ H vs us Q I r h
 obtain ⟨a,bs,rfl,hs,q⟩:=h
 obtain ⟨its,rv,hl,_⟩:=I.list hs
 rw [Vals.ref1 r]
 have hb:=rv.bls
 refine call_all_walk (d9A hl.isList fun s₂ e2 st hne=>?_)
 subst e2
 refine ⟨_,_,_,_,_,_,_,rfl,Walks.list (A:=X.A.in1) (I.ok.hd hc) _ a hne its.toArray,st,vk hb,fun h' tk hk=>?_⟩
 refine ⟨.bl _,H,I.kept fun b o eo=>hk b o (fun hmem=>?_) (Heap.get?_push_of_some _ eo),?_,q⟩
 ·rcases List.mem_cons.mp hmem with e1 | hmem
  ·exact absurd (e1▸Heap.lt_size eo) (Nat.lt_irrefl _)
  ·cases hmem
 ·show Value.bool _=Value.bool _
  rw [←d2q,hb,List.size_toArray,List.length_map]
end
end L2
namespace L2
open PySem PySem.Spec PyProof.Rows
abbrev dDq (h:Heap) (c:Addr) (v:Option Value):Prop:=h.IsCell c v
def relS (scope sc:Scope):Scope:=
 { scope with names:=scope.names.map fun (n,k)=>if (k==.free&&sc.kind==.function&&sc.names.lookup n==some .cell) then (n,.cell) else (n,k) }
def gD (cells:List (Str×Addr)):List (Str×NameKind)→List (Str×Addr)→List (Str×Addr)
 | [],acc=>acc
 | (n,k)::r,acc=>if k==.free then gD cells r ((n,(cells.lookup n).getD 0)::acc) else gD cells r acc
theorem vP (env:Env) (f:Str×NameKind→List (Str×Addr)→Sem (ForInStep (List (Str×Addr))))
  (hf:∀ n k c,f (n,k) c=if k==.free then (do let a ←cellOf env n;pure (.yield ((n,a)::c))) else pure (.yield c)) :
  ∀ (names:List (Str×NameKind)) (acc:List (Str×Addr)),(∀ y∈names,y.2=.free→∃ c,env.cells.lookup y.1=some c)→forIn names acc f=pure (gD env.cells names acc)
 | [],acc,_=>by rw [List.forIn_nil];rfl
 | (n,k)::r,acc,h=>by
  rw [List.forIn_cons,hf]
  have ih:=fun acc=>vP env f hf r acc fun y hy=>h y (List.mem_cons_of_mem _ hy)
  unfold gD
  by_cases hk:(k==NameKind.free)=true
  ·rw [if_pos hk,if_pos hk]
   obtain ⟨c,hc⟩:=h (n,k) List.mem_cons_self (by simpa using hk)
   have e:cellOf env n=pure c:=by unfold cellOf;rw [hc]
   rw [e]
   have e2:(env.cells.lookup n).getD 0=c:=by rw [hc];rfl
   rw [e2]
   exact ih _
  ·rw [if_neg hk,if_neg hk]
   exact ih _
theorem dAK {scope:Scope}{env:Env} (h:∀ y∈scope.names,y.2=.free→∃ c,env.cells.lookup y.1=some c):closureFor scope env=pure (gD env.cells scope.names []):=by
 simp only [closureFor]
 rw [vP env _ (fun n k c=>rfl) scope.names [] h]
 rfl
theorem v7 {α:Type}:∀ {l:List (Str×α)}{n:Str}{c:α},(n,c)∈l→∃ c',l.lookup n=some c'
 | (k,v)::r,n,c,h=>by
  rw [List.lookup_cons]
  cases hb:n==k with
  | true=>exact ⟨_,rfl⟩
  | false=>
   rcases List.mem_cons.mp h with e | h
   ·cases e;simp at hb
   ·exact v7 h
theorem kQ {cells:List (Str×Addr)}:∀ {names:List (Str×NameKind)}{acc:List (Str×Addr)}{n:Str}{c:Addr},(n,c)∈gD cells names acc→(n,c)∈acc∨((n,.free)∈names∧c=(cells.lookup n).getD 0)
 | [],_,_,_,h=>.inl h
 | (m,k)::r,acc,n,c,h=>by
  unfold gD at h
  split at h
  ·rename_i hk
   have hk:k=.free:=by simpa using hk
   rcases kQ h with h | ⟨h1,h2⟩
   ·rcases List.mem_cons.mp h with e | h
    ·cases e;exact .inr ⟨hk▸List.mem_cons_self,rfl⟩
    ·exact .inl h
   ·exact .inr ⟨List.mem_cons_of_mem _ h1,h2⟩
  ·rcases kQ h with h | ⟨h1,h2⟩
   ·exact .inl h
   ·exact .inr ⟨List.mem_cons_of_mem _ h1,h2⟩
theorem uS {cells:List (Str×Addr)}:∀ {names:List (Str×NameKind)}{acc:List (Str×Addr)}{p:Str×Addr},p∈acc→p∈gD cells names acc
 | [],_,_,h=>h
 | (m,k)::r,acc,p,h=>by
  unfold gD
  split
  ·exact uS (List.mem_cons_of_mem _ h)
  ·exact uS h
theorem uL {cells:List (Str×Addr)}:∀ {names:List (Str×NameKind)}{acc:List (Str×Addr)}{n:Str},(n,.free)∈names→(n,(cells.lookup n).getD 0)∈gD cells names acc
 | (m,k)::r,acc,n,h=>by
  unfold gD
  rcases List.mem_cons.mp h with e | h
  ·cases e
   exact uS List.mem_cons_self
  ·split
   ·exact uL h
   ·exact uL h
theorem km:∀ {names:List (Str×NameKind)}{h:Heap}{acc:List (Str×Addr)}{x:Str}{c:Addr},(x,c)∈cellsFrom h.objs.size names acc →
  (x,c)∈acc∨((x,.cell)∈names∧h.objs.size≤c∧dDq (pushCells h names) c none)
 | [],_,_,_,_,h=>.inl h
 | (n,k)::r,h,acc,x,c,hm=>by
  unfold cellsFrom at hm
  unfold pushCells
  split at hm
  ·rename_i hk
   rw [if_pos hk]
   have hk:k=.cell:=by simpa using hk
   rw [←Heap.size_push h { cls:=.type "cell",data:=.cell none }] at hm
   rcases km hm with hm | ⟨h1,h2,h3⟩
   ·rcases List.mem_cons.mp hm with e | hm
    ·cases e
     exact .inr ⟨hk▸List.mem_cons_self,Nat.le_refl _,_,pushCells_keeps r _ _ _ (Heap.get?_push_size _ rfl),rfl⟩
    ·exact .inl hm
   ·rw [Heap.size_push] at h2
    exact .inr ⟨List.mem_cons_of_mem _ h1,Nat.le_of_succ_le h2,h3⟩
  ·rename_i hk
   rw [if_neg hk]
   rcases km hm with hm | ⟨h1,h2,h3⟩
   ·exact .inl hm
   ·exact .inr ⟨List.mem_cons_of_mem _ h1,h2,h3⟩
theorem uW:∀ {names:List (Str×NameKind)}{n:Nat}{acc:List (Str×Addr)}{p:Str×Addr},p∈acc→p∈cellsFrom n names acc
 | [],_,_,_,h=>h
 | (m,k)::r,n,acc,p,h=>by
  unfold cellsFrom
  split
  ·exact uW (List.mem_cons_of_mem _ h)
  ·exact uW h
theorem vq:∀ {names:List (Str×NameKind)}{n:Nat}{acc:List (Str×Addr)}{x:Str},(x,.cell)∈names→∃ c,(x,c)∈cellsFrom n names acc
 | (m,k)::r,n,acc,x,h=>by
  unfold cellsFrom
  rcases List.mem_cons.mp h with e | h
  ·cases e
   exact ⟨n,uW List.mem_cons_self⟩
  ·split
   ·exact vq h
   ·exact vq h
theorem wV:∀ {names:List (Str×NameKind)}{h:Heap}{acc:List (Str×Addr)}{x y:Str}{c:Addr},(∀ p∈acc,p.2 < h.objs.size)→(∀ x y c,(x,c)∈acc→(y,c)∈acc→x=y) →
  (x,c)∈cellsFrom h.objs.size names acc→(y,c)∈cellsFrom h.objs.size names acc→x=y
 | [],_,_,_,_,_,_,hi,h1,h2=>hi _ _ _ h1 h2
 | (n,k)::r,h,acc,x,y,c,hl,hi,h1,h2=>by
  unfold cellsFrom at h1 h2
  split at h1
  ·rename_i hk
   rw [if_pos hk] at h2
   rw [←Heap.size_push h { cls:=.type "cell",data:=.cell none }] at h1 h2
   refine wV (h:=h.push _) (fun p hp=>?_) (fun x y c a b=>?_) h1 h2
   ·rw [Heap.size_push]
    rcases List.mem_cons.mp hp with rfl | hp
    ·exact Nat.lt_succ_self _
    ·exact Nat.lt_succ_of_lt (hl p hp)
   ·rcases List.mem_cons.mp a with e | a <;> rcases List.mem_cons.mp b with e' | b
    ·cases e;cases e';rfl
    ·cases e;exact absurd (hl _ b) (Nat.lt_irrefl _)
    ·cases e';exact absurd (hl _ a) (Nat.lt_irrefl _)
    ·exact hi _ _ _ a b
  ·rename_i hk
   rw [if_neg hk] at h2
   exact wV hl hi h1 h2
theorem d8Y {M:Model}{A:Around}{E:Value→Shared→Prop}{s:Shared}{scope:Scope}{globals:Addr}{closure:List (Str×Addr)}{qual:Str}{func:Option Addr}{code:Value}{around:Env}{builtins:Addr}{Q:Env→Shared→Prop}
  (h:Q (newEnv scope s.heap.objs.size globals (cellsFrom (s.heap.objs.size+1) scope.names closure) qual func code (some around) builtins)
   { s with heap:=pushCells (s.heap.push { cls:=.type "dict",data:=.dict #[] }) scope.names }) :
  wpAny M A (newFunctionEnv scope globals closure [] qual func code (some around) builtins) Q E s:=by
 simp only [newFunctionEnv,Option.isSome_some,if_true]
 refine wpAny_bind (wpAny_alloc ?_)
 refine wpAny_bind (wpAny_layCells _ (fun n k c=>rfl) scope.names closure _ _ ?_)
 rw [show ({ s with heap:=s.heap.push { cls:=.type "dict",data:=.dict #[] } }:Shared).heap.objs.size=s.heap.objs.size+1 from Heap.size_push ..]
 rw [List.forIn_nil]
 exact wpAny_bind (wpAny_pure (wpAny_pure h))
theorem uQ {sc:Scope}:∀ {names:List (Str×NameKind)}{x:Str}{k:NameKind},
  (names.map fun (n,k)=>if (k==NameKind.free&&sc.kind==.function&&sc.names.lookup n==some .cell) then (n,NameKind.cell) else (n,k)).lookup x=some k →
  ∃ k',names.lookup x=some k'∧(k=k'∨(k'=.free∧k=.cell))
 | [],_,_,h=>by simp at h
 | (n,k₀)::r,x,k,h=>by
  have ih:=@uQ sc r x k
  have h':List.lookup x ((if (k₀==NameKind.free&&sc.kind==.function&&sc.names.lookup n==some .cell)=true then (n,NameKind.cell) else (n,k₀))::(r.map _))=some k:=h
  cases hx:x==n with
  | true=>
   simp only [List.lookup_cons,hx]
   by_cases hc:(k₀==NameKind.free&&sc.kind==.function&&sc.names.lookup n==some .cell)=true
   ·rw [if_pos hc] at h'
    simp only [List.lookup_cons,hx] at h'
    cases h'
    simp only [Bool.and_eq_true,beq_iff_eq] at hc
    exact ⟨k₀,rfl,.inr ⟨hc.1.1,rfl⟩⟩
   ·rw [if_neg hc] at h'
    simp only [List.lookup_cons,hx] at h'
    cases h'
    exact ⟨_,rfl,.inl rfl⟩
  | false=>
   simp only [List.lookup_cons,hx]
   by_cases hc:(k₀==NameKind.free&&sc.kind==.function&&sc.names.lookup n==some .cell)=true
   ·rw [if_pos hc] at h'
    simp only [List.lookup_cons,hx] at h'
    exact ih h'
   ·rw [if_neg hc] at h'
    simp only [List.lookup_cons,hx] at h'
    exact ih h'
structure BlkOk (N:List Str) (sc scope:Scope) (own:List (Str×Nat)):Prop where
 kind:scope.kind=.function
 uniq:∀ y∈scope.names,scope.names.lookup y.1=some y.2
 ix:∀ p∈own,N[p.2]?=some p.1
 free:∀ y∈scope.names,y.2=.free→sc.names.lookup y.1=some .cell∨sc.names.lookup y.1=some .free
 own:∀ y∈scope.names,y.2=.local∨y.2=.cell→y.1∈own.map (·.1)∨y.1∉N
def wipe (σ:St):List Nat→St
 | []=>σ
 | v::vs=>(wipe σ vs).set v none
theorem uR (σ:St):∀ vs:List Nat,(wipe σ vs).length=σ.length
 | []=>rfl
 | v::vs=>by unfold wipe;rw [List.length_set,uR σ vs]
theorem wS {σ:St}{i:Nat}{x:V}:∀ {vs:List Nat},(wipe σ vs)[i]?=some (some x)→σ[i]?=some (some x)∧i∉vs
 | [],h=>⟨h,by simp⟩
 | v::vs,h=>by
  unfold wipe at h
  by_cases hi:v=i
  ·subst hi
   by_cases hv:v < (wipe σ vs).length
   ·rw [List.getElem?_set_self hv] at h;cases h
   ·rw [List.getElem?_eq_none (by simpa using hv)] at h;cases h
  ·rw [List.getElem?_set_ne hi] at h
   obtain ⟨h1,h2⟩:=wS h
   exact ⟨h1,by simp only [List.mem_cons,not_or];exact ⟨fun e=>hi e.symm,h2⟩⟩
abbrev Cx.blk (X:Cx) (s:Shared) (H:Hp) (scope:Scope) (cenv:Env) (fp:List Addr):Cx:={ X with s_0:=s,H_0:=H,env:=cenv,outer:=X.stack,ex:=fp,fn:=fun x=>scope.names.lookup x==some .cell,pn:=[],xe:=fun _ _=>False }
section
variable {X:Cx}{pins:List (Addr×Obj)}{σ:St}{H:Hp}{s:Shared}
theorem d8M {scope:Scope}{own:List (Str×Nat)}{fp:List Addr} (I:Inv X pins σ H s) (ok:BlkOk X.N X.env.scope scope own) (hN:X.N.Nodup) (hfp:∀ b∈fp,FpOk X pins H b∧b < s.heap.objs.size) :
  Inv (X.blk s H scope (compEnvC scope (cellsFrom (s.heap.objs.size+1) scope.names (gD X.env.cells scope.names [])) s.heap.objs.size X.env) fp) [] (wipe σ (own.map (·.2))) H { s with heap:=pushCells (s.heap.push { cls:=.type "dict",data:=.dict #[] }) scope.names }:=by
 have hfree:∀ y∈scope.names,y.2=.free→∃ c,X.env.cells.lookup y.1=some c:=fun y hy e=>by
  rcases ok.free y hy e with k | k
  ·exact I.ok.has _ (.inl k)
  ·exact I.ok.has _ (.inr k)
 generalize hcenv:compEnvC scope (cellsFrom (s.heap.objs.size+1) scope.names (gD X.env.cells scope.names [])) s.heap.objs.size X.env=cenv
 have kp:∀ b o,s.heap.get? b=some o→(pushCells (s.heap.push { cls:=.type "dict",data:=.dict #[] }) scope.names).get? b=some o:=fun b o e=>pushCells_keeps _ _ _ _ (Heap.get?_push_of_some _ e)
 have hL:cenv.locals=s.heap.objs.size:=by rw [←hcenv];rfl
 have hcl:cenv.cells=cellsFrom (s.heap.objs.size+1) scope.names (gD X.env.cells scope.names []):=by rw [←hcenv];rfl
 have hsc:cenv.scope=relS scope X.env.scope:=by rw [←hcenv];rfl
 rw [←Heap.size_push s.heap { cls:=.type "dict",data:=.dict #[] }] at hcl
 have cm:∀ {y c},(y,c)∈gD X.env.cells scope.names []→X.env.cells.lookup y=some c∧c < s.heap.objs.size:=fun {y c} hm=>by
  rcases kQ hm with hm | ⟨h1,rfl⟩
  ·cases hm
  ·obtain ⟨c,hc⟩:=hfree _ h1 rfl
   rw [hc]
   obtain ⟨w,z⟩:=I.cell _ _ hc
   exact ⟨rfl,z.lt⟩
 have mem:∀ {y c},cenv.cells.lookup y=some c→(X.env.cells.lookup y=some c∧c < s.heap.objs.size)∨(s.heap.objs.size+1≤c∧dDq (pushCells (s.heap.push { cls:=.type "dict",data:=.dict #[] }) scope.names) c none):=fun {y c} e=>by
  rw [hcl] at e
  rcases km (PySem.mem_of_lookup e) with hm | ⟨_,h2,h3⟩
  ·exact .inl (cm hm)
  ·rw [Heap.size_push] at h2;exact .inr ⟨h2,h3⟩
 have look:∀ {y},scope.names.lookup y=some .free→∃ c,cenv.cells.lookup y=some c∧X.env.cells.lookup y=some c:=fun {y} hl=>by
  have hy:(y,NameKind.free)∈scope.names:=PySem.mem_of_lookup hl
  obtain ⟨c',e'⟩:=v7 (uW (names:=scope.names) (n:=(s.heap.push { cls:=.type "dict",data:=.dict #[] }).objs.size) (uL (cells:=X.env.cells) (acc:=[]) hy))
  rw [←hcl] at e'
  refine ⟨c',e',?_⟩
  rw [hcl] at e'
  rcases km (PySem.mem_of_lookup e') with hm | ⟨h1,_,_⟩
  ·exact (cm hm).1
  ·have:=ok.uniq _ h1
   rw [hl] at this;cases this
 have okB:(X.blk s H scope cenv fp).Ok:=by
  refine ⟨I.ok.mod,by show cenv.scope.kind=_;rw [hsc];exact ok.kind,by show cenv.globals=_;rw [←hcenv];exact I.ok.glob,by show cenv.builtins=_;rw [←hcenv];exact I.ok.blt,by show s.heap.objs.size≤cenv.locals;rw [hL];exact Nat.le_refl _,
   fun y z c e1 e2=>?_,fun y hy=>?_,fun y c z e=>?_,I.ok.hd,I.ok.frames,.inl rfl,fun b hb=>⟨?_,fun y c e z=>?_⟩,I.bs,Nat.le_trans I.ok.bsz I.sz,fun b o e hb=>?_,fun b hb z=>?_,I.stack,I.stkFree⟩
  ·have e1:cenv.cells.lookup y=some c:=e1
   have e2:cenv.cells.lookup z=some c:=e2
   rw [hcl] at e1 e2
   refine wV (fun p hp=>?_) (fun y z c a b=>I.ok.inj y z c (cm a).1 (cm b).1) (PySem.mem_of_lookup e1) (PySem.mem_of_lookup e2)
   rw [Heap.size_push]
   exact Nat.lt_succ_of_lt (cm (y:=p.1) (c:=p.2) hp).2
  ·show ∃ c,cenv.cells.lookup y=some c
   have key:∀ k,cenv.kindOf y=some k→(k=.cell∨k=.free)→∃ c,cenv.cells.lookup y=some c:=fun k hk hk'=>by
    unfold Env.kindOf at hk
    rw [hsc] at hk
    obtain ⟨k',e,r⟩:=uQ hk
    have:k'=.cell∨k'=.free:=by
     rcases r with rfl | ⟨rfl,_⟩
     ·exact hk'
     ·exact .inr rfl
    rcases this with rfl | rfl
    ·obtain ⟨c,hm⟩:=vq (n:=(s.heap.push { cls:=.type "dict",data:=.dict #[] }).objs.size) (acc:=gD X.env.cells scope.names []) (PySem.mem_of_lookup e)
     obtain ⟨c',e'⟩:=v7 hm
     exact ⟨c',by rw [hcl];exact e'⟩
    ·obtain ⟨c,h1,_⟩:=look e
     exact ⟨c,h1⟩
   rcases hy with hy | hy
   ·exact key _ hy (.inl rfl)
   ·exact key _ hy (.inr rfl)
  ·have z:(scope.names.lookup y==some NameKind.cell)=true:=z
   have z:scope.names.lookup y=some .cell:=by simpa using z
   have e:cenv.cells.lookup y=some c:=e
   rw [hcl] at e
   rcases km (PySem.mem_of_lookup e) with hm | ⟨_,h2,_⟩
   ·rcases kQ hm with hm | ⟨h1,_⟩
    ·cases hm
    ·have q:=ok.uniq _ h1
     rw [z] at q;cases q
   ·rw [Heap.size_push] at h2
    exact Nat.le_of_succ_le h2
  ·show b≠cenv.locals
   rw [hL];exact Nat.ne_of_lt (hfp b hb).2
  ·have e:cenv.cells.lookup y=some c:=e
   rcases mem e with ⟨h1,_⟩ | ⟨h1,_⟩
   ·exact (hfp b hb).1.2.2.2.2.1 y c h1 z
   ·have h2:s.heap.objs.size+1≤b:=by rw [←z];exact h1
    exact absurd (Nat.lt_of_lt_of_le (hfp b hb).2 (Nat.le_of_succ_le h2)) (Nat.lt_irrefl _)
  ·rcases (hfp b hb).1.2.2.2.1 with z | z
   ·exact I.ok.noex b o e z
   ·exact absurd (Nat.lt_of_lt_of_le (Heap.lt_size e) (Nat.le_trans I.ok.bsz z)) (Nat.lt_irrefl _)
  ·rcases List.mem_cons.mp (I.stkSub b z) with z | z
   ·exact (hfp b hb).1.2.1 z
   ·exact (hfp b hb).1.2.2.1 z
 refine ⟨okB,rfl,I.bare,Un.kept kp,⟨fun _=>none,?_,fun i y av e1 e2 e3=>?_⟩,fun y c e=>?_,?_,fun y c e=>?_,fun p hp=>?_,I.hok.kept kp,by rw [uR];exact I.len⟩
 ·show Heap.Ns _ cenv.locals _
  rw [hL]
  exact Heap.Ns.keeps (Heap.Ns.new ..) fun b o e=>pushCells_keeps _ _ _ _ e
 ·obtain ⟨e2,hne⟩:=wS e2
  have hfr:scope.names.lookup y=some .free∧(cenv.kindOf y=some .cell∨cenv.kindOf y=some .free):=by
   have key:∀ k,cenv.scope.names.lookup y=some k→k=.local∨k=.cell∨k=.free→scope.names.lookup y=some .free∧(cenv.kindOf y=some .cell∨cenv.kindOf y=some .free):=fun k hk hk'=>by
    have hk0:=hk
    rw [hsc] at hk
    obtain ⟨k',e,r⟩:=uQ hk
    have no:¬ (k'=.local∨k'=.cell):=fun hh=>by
     rcases ok.own _ (PySem.mem_of_lookup e) hh with e' | e'
     ·obtain ⟨p,hp,hpy⟩:=List.mem_map.mp e'
      have e3:=ok.ix p hp
      have:p.1=y:=hpy
      rw [this] at e3
      exact hne (List.mem_map.mpr ⟨p,hp,yZ hN e3 e1⟩)
     ·exact e' (List.mem_of_getElem? e1)
    rcases r with rfl | ⟨rfl,rfl⟩
    ·rcases hk' with rfl | rfl | rfl
     ·exact absurd (.inl rfl) no
     ·exact absurd (.inr rfl) no
     ·exact ⟨e,.inr hk0⟩
    ·exact ⟨e,.inl hk0⟩
   have e3:Vis cenv.scope y:=e3
   rcases e3 with e3 | e3 | e3
   ·exact key _ e3 (.inl rfl)
   ·exact key _ e3 (.inr (.inl rfl))
   ·exact key _ e3 (.inr (.inr rfl))
  obtain ⟨m,hn,hl⟩:=I.loc
  have hvis:Vis X.env.scope y:=(ok.free _ (PySem.mem_of_lookup hfr.1) rfl).elim (fun k=>.inr (.inl k)) (fun k=>.inr (.inr k))
  obtain ⟨w,r,q⟩:=hl i y av e1 e2 hvis
  refine ⟨w,r,.inr ⟨hfr.2,?_⟩⟩
  obtain ⟨c,h1,h2⟩:=look hfr.1
  rcases q with ⟨k,_⟩ | ⟨_,c',e',z⟩
  ·have k:X.env.scope.names.lookup y=some .local:=k
   rcases ok.free _ (PySem.mem_of_lookup hfr.1) rfl with k' | k' <;> rw [show X.env.scope.names.lookup y=_ from k'] at k <;> cases k
  ·rw [h2] at e';cases e'
   exact ⟨c,h1,z.keeps kp⟩
 ·have e:cenv.cells.lookup y=some c:=e
  rcases mem e with ⟨h1,_⟩ | ⟨_,z⟩
  ·obtain ⟨w,z⟩:=I.cell y c h1
   exact ⟨w,z.keeps kp⟩
  ·exact ⟨_,z⟩
 ·show H cenv.locals=none
  rw [hL];exact I.hok.fresh (Nat.le_refl _)
 ·have e:cenv.cells.lookup y=some c:=e
  rcases mem e with ⟨h1,_⟩ | ⟨h1,_⟩
  ·exact I.freeC y c h1
  ·exact I.hok.fresh (Nat.le_of_succ_le h1)
 ·exact absurd (show p∈([]:List (Addr×Obj))++[] from hp) (by simp)
theorem dGM {E:Value→Shared→Prop}{D:Addr}{xs:List V}{y:V}{v:Value}{Q:Value→Shared→Prop} (I:Inv X pins σ H s) (hD:H D=some (.lst xs)) (hz:xs.length < sizeLine) (r:RelV y v)
  (h:∀ s',Inv X pins σ (upd H D (.lst (xs++[y]))) s'→Q .none s'):wpAny (model X.prog X.w) X.A (call (.builtin "list.append") [.ref D,v]) Q E s:=by
 obtain ⟨hz',its,n,ri,e⟩:=I.hok D _ hD
 have hl:=ri.length
 refine append_at (hsz:=by rw [List.size_toArray];omega) e fun h' sb ho'=>?_
 refine h { s with heap:=h' } (I.write (t':=s.toks) (by rw [hD];trivial) (.inl rfl) (fun b u hb q=>(sb.2 b hb).trans q) ⟨_,ho'⟩ ⟨by rw [List.length_append];exact hz,its++[v],n+1,ri.append (.cons r .nil),?_⟩)
 rw [ho']
 simp
def PTs (X:Cx) (ifs:List Expr) (t:TT):Prop:=
 ∀ (pins:List (Addr×Obj)) (s:Shared) (σ:St) (H:Hp) (Q:Bool→Hp→Prop),Inv X pins σ H s→t σ H Q →
  wpAny (model X.prog X.w) X.A (forIn ifs true fun c r=>if r=true then do let ok ←isTrue c X.env (eval c X.env);pure (ForInStep.yield ok) else pure (ForInStep.yield r)) (TP X pins σ Q) X.xe s
def tYes:TT:=fun _ H Q=>Q true H
theorem jh:PTs X [] tYes:=fun _ _ _ H _ I h=>wpAny_tests_nil ⟨H,I,h⟩
theorem yz {c:Expr}{t:TT} (h:PT X c t):PTs X [c] t:=fun pins s σ H Q I hw=>wpAny_tests_one (h pins s σ H Q I hw)
end
theorem thnF {α:Type}{t:Sem α}{Q Q':α→Shared→Prop}{M:Model}{A:Around}{E:Value→Shared→Prop}{s:Shared} (h:wpAny M A t Q (fun _ _=>False) s) (hQ:∀ a s,Q a s→Q' a s):wpAny M A t Q' E s:=wpAny_mono h hQ fun _ _ z=>False.elim z
theorem d5o {prog:Program}{w:World}{A:Around}{R:Result→Shared→Prop}{s:Shared}{elt target iter:Expr}{ifs:List Expr}{scope:Scope}{pos:Pos}{it acc:Value}{env:Env} (I:Nat→Shared→Prop)
  (turn:∀ n s,I n s→wpAny (model prog w) A (pyNext it) (fun r s₁=>match r with
   | none=>R (.ok .next) s₁
   | some v=>wpAny (model prog w) A (letOwnedTupleGo target it v) (fun _ s₁'=>wpAny (model prog w) A (assign target env v) (fun _ s₂=>
     wpAny (model prog w) A (forIn ifs true fun c r=>if r=true then do let ok ←isTrue c env (eval c env);pure (ForInStep.yield ok) else pure (ForInStep.yield r)) (fun ok s₃=>
      if ok=true then wpAny (model prog w) A (eval elt env) (fun x s₄=>
       wpAny (model prog w) A (call (.builtin "list.append") [acc,x]) (fun _ s₅=>∃ m,m < n∧I m s₅) (notedBy (model prog w) A env fun e s'=>R (.error e) s') s₄) (notedBy (model prog w) A env fun e s'=>R (.error e) s') s₃
      else ∃ m,m < n∧I m s₃) (notedBy (model prog w) A env fun e s'=>R (.error e) s') s₂) (notedBy (model prog w) A env fun e s'=>R (.error e) s') s₁') (notedBy (model prog w) A env fun e s'=>R (.error e) s') s₁) (notedBy (model prog w) A env fun e s'=>R (.error e) s') s)
  (n:Nat) (h:I n s) :
  codeAny (model prog w) A (.compLoop (.ListComp elt [⟨target,iter,ifs,0⟩] scope pos) 0 it acc env) R s:=by
 refine codeAny_loop rfl I (fun n s hI=>?_) n h
 show wpAny _ A ((compTurn (.ListComp elt [⟨target,iter,ifs,0⟩] scope pos) 0 it acc env).onRaise (fun x=>do noteFrame x env;theTreesLotGoes x)) _ _ s
 refine wpAny_noted ?_
 rw [compTurn_list]
 refine wpAny_bind (wpAny_standAt (wpAny_bind (wpAny_mono (turn n s hI) (fun r s₁ h₁=>?_) fun _ _ h'=>h')))
 cases r with
 | none=>exact wpAny_pure h₁
 | some v=>
  refine wpAny_bind (wpAny_mono h₁ (fun _ s₁' h₁'=>?_) fun _ _ h'=>h')
  refine wpAny_bind (wpAny_mono h₁' (fun _ s₂ h₂=>wpAny_bind (wpAny_mono h₂ (fun ok s₃ h₃=>?_) fun _ _ h'=>h')) fun _ _ h'=>h')
  cases ok with
  | false=>exact wpAny_pure ⟨rfl,h₃⟩
  | true=>
   exact wpAny_bind (wpAny_bind (wpAny_mono h₃ (fun x s₄ h₄=>wpAny_bind (wpAny_mono h₄ (fun _ s₅ h₅=>wpAny_pure (wpAny_pure ⟨rfl,h₅⟩)) fun _ _ h'=>h')) fun _ _ h'=>h'))
section
variable {X:Cx}
def tLc (wi:TI) (g:TG) (tt:TT) (te:TE) (vs:List Nat):TE:=fun σ H Q=>wi σ H fun J H1=>∀ D,H1 D=none→∃ W:Nat→Nat→Hp→Prop,(∃ m,W 0 m (upd H1 D (.lst [])))∧∀ i m H,W i m H →
 (J.stop i H∧Q (.ref D) H)∨(J.go i H∧∃ Nx:Hp→Prop,(∀ H',Nx H'→∃ m',m' < m∧W (i+1) m' H')∧∀ x H',J.yld i H x H'→g x (wipe σ vs) H' fun σ2 H2=>wipe σ2 vs=wipe σ vs∧tt σ2 H2 fun b H3=>
  if b=true then te σ2 H3 fun y H4=>∃ acc,H4 D=some (.lst acc)∧acc.length < sizeLine∧Nx (upd H4 D (.lst (acc++[y]))) else Nx H3)
theorem dBh {pins:List (Addr×Obj)}{s:Shared}{σ:St}{H:Hp}{Q:VK}{elt tg iter:Expr}{ifs:List Expr}{scope:Scope}{own:List (Str×Nat)}{pos pos':Pos}{wi:TI}{g:TG}{tt:TT}{te:TE}{use:Option (Value→Sem Unit)}{Qf:Value→Shared→Prop}
  (hc:X.calm=true) (hN:X.N.Nodup) (I:Inv X pins σ H s) (hi:PI X tg iter wi) (ok:BlkOk X.N X.env.scope scope own)
  (hg:∀ (s:Shared) (H:Hp) (C:Addr) (cl:List (Str×Addr)) (fp:List Addr),PG (X.blk s H scope (compEnvC scope cl C X.env) fp) tg g) (ht:∀ (s:Shared) (H:Hp) (C:Addr) (cl:List (Str×Addr)) (fp:List Addr),PTs (X.blk s H scope (compEnvC scope cl C X.env) fp) ifs tt)
  (he:∀ (s:Shared) (H:Hp) (C:Addr) (cl:List (Str×Addr)) (fp:List Addr),PE (X.blk s H scope (compEnvC scope cl C X.env) fp) elt te) (hs:∀ x,foldedSetIterable iter X.env x=pure x)
  (h:tLc wi g tt te (own.map (·.2)) σ H Q)
  (hRR:∀ D C s' m H',Inv X pins σ H' s'→Q (.ref D) H'→s'.heap.Ns C m→FpOk X pins H' C→compPost (model X.prog X.w) X.A X.xe use Qf (.ref D) C (.ok .next) s') :
  wpAny (model X.prog X.w) X.A (comprehension (.ListComp elt [⟨tg,iter,ifs,0⟩] scope pos) scope X.env pos' (newList []) false (eval iter X.env) use) Qf X.xe s:=by
 have hfree:∀ y∈scope.names,y.2=.free→∃ c,X.env.cells.lookup y.1=some c:=fun y hy e=>by
  rcases ok.free y hy e with k | k
  ·exact I.ok.has _ (.inl k)
  ·exact I.ok.has _ (.inr k)
 refine wpAny_comprehension_free (use:=use) rfl hs (dAK hfree) ok.kind (fun y hy e=>by rw [ok.uniq y hy,e])
  (thn (hi pins s σ H _ I h) fun xv s1 hx=>thn hx fun itv s2 h2=>?_)
 obtain ⟨it,fp,tn,J,H2,e,I2,T,st2,f2,q⟩:=h2
 subst e
 refine wpAny_newObj_type (d8Y ?_) (by show 0≤sizeLine;decide)
 generalize hD:s2.heap.objs.size=D
 have hDn:H2 D=none:=I2.hok.fresh (Nat.le_of_eq hD)
 obtain ⟨W,⟨m0,w0⟩,turn⟩:=q D hDn
 generalize hs3:({ s2 with heap:=s2.heap.push { cls:=.type "list",data:=.seq ([]:List Value).toArray } }:Shared)=s3
 have I3:Inv X pins σ (upd H2 D (.lst [])) s3:=by
  rw [←hs3]
  refine I2.laid (t':=s2.toks) (fun b o e=>Heap.get?_push_of_some _ e) (Nat.le_of_eq hD) ⟨Nat.zero_le _,[],0,.nil,?_⟩
  rw [←hD]
  exact Heap.get?_push_size _ rfl
 have h3:s3.heap=s2.heap.push { cls:=.type "list",data:=.seq ([]:List Value).toArray }:=by rw [←hs3]
 have sz:∀ b∈fp,b < s2.heap.objs.size:=fun b hb=>by
  obtain ⟨o,e,_⟩:=T.obj _ _ st2 b hb
  exact Heap.lt_size e
 have f3:∀ b∈fp,FpOk X pins (upd H2 D (.lst [])) b∧b < s3.heap.objs.size:=fun b hb=>by
  have hlt:=sz b hb
  refine ⟨⟨?_,(f2 b hb).2⟩,by rw [h3,Heap.size_push];exact Nat.lt_succ_of_lt hlt⟩
  rw [d8 (by rw [←hD];exact Nat.ne_of_lt hlt)]
  exact (f2 b hb).1
 have st3:tn 0 s3.heap:=T.keep _ _ _ st2 fun b _ o e=>by rw [h3];exact Heap.get?_push_of_some _ e
 have I4:=d8M I3 ok hN f3
 have pg:=hg s3 (upd H2 D (.lst [])) s3.heap.objs.size (cellsFrom (s3.heap.objs.size+1) scope.names (gD X.env.cells scope.names [])) fp
 have pt:=ht s3 (upd H2 D (.lst [])) s3.heap.objs.size (cellsFrom (s3.heap.objs.size+1) scope.names (gD X.env.cells scope.names [])) fp
 have pe:=he s3 (upd H2 D (.lst [])) s3.heap.objs.size (cellsFrom (s3.heap.objs.size+1) scope.names (gD X.env.cells scope.names [])) fp
 show codeAny _ _ (.compStart (.ListComp elt [⟨tg,iter,ifs,0⟩] scope pos) 0 (.ref it) (.ref D) (compEnvC scope (cellsFrom (s3.heap.objs.size+1) scope.names (gD X.env.cells scope.names [])) s3.heap.objs.size X.env)) (compPost (model X.prog X.w) X.A X.xe use Qf (.ref D) s3.heap.objs.size) { s3 with heap:=pushCells (s3.heap.push { cls:=.type "dict",data:=.dict #[] }) scope.names }
 have nfp:∀ b∈fp,(upd H2 D (.lst [])) b=none:=fun b hb=>(f3 b hb).1.1
 generalize hce:compEnvC scope (cellsFrom (s3.heap.objs.size+1) scope.names (gD X.env.cells scope.names [])) s3.heap.objs.size X.env=ce at I4 pg pt pe ⊢
 have cL:ce.locals=s3.heap.objs.size:=by subst hce;rfl
 generalize hH3:upd H2 D (.lst [])=H3 at I3 I4 pg pt pe w0 nfp f3
 generalize hs4:({ s3 with heap:=pushCells (s3.heap.push { cls:=.type "dict",data:=.dict #[] }) scope.names }:Shared)=s4 at I4 ⊢
 have st4:tn 0 s4.heap:=T.keep _ _ _ st3 fun b _ o e=>by rw [←hs4];exact pushCells_keeps _ _ _ _ (Heap.get?_push_of_some _ e)
 have stat:∀ {σ':St}{H':Hp}{s':Shared},Inv (X.blk s3 H3 scope ce fp) [] σ' H' s'→(∀ b∈fp,H' b=none)→∀ b∈fp,FpOk (X.blk s3 H3 scope ce fp) [] H' b:=fun {σ' H' s'} I' hn b hb=>
  ⟨hn b hb,(I'.ok.exf b hb).1,I'.ok.exfs b hb,.inl hb,fun x c e=>(I'.ok.exf b hb).2 x c e,fun p hp=>absurd (show p∈([]:List (Addr×Obj))++[] from hp) (by simp)⟩
 have loop:codeAny (model X.prog X.w) X.A (.compLoop (.ListComp elt [⟨tg,iter,ifs,0⟩] scope pos) 0 (.ref it) (.ref D) ce) (compPost (model X.prog X.w) X.A X.xe use Qf (.ref D) s3.heap.objs.size) s4:=by
  refine d5o (fun n s'=>∃ i H',Inv (X.blk s3 H3 scope ce fp) [] (wipe σ (own.map (·.2))) H' s'∧tn i s'.heap∧(∀ b∈fp,H' b=none)∧W i n H') ?_ m0 ⟨0,H3,I4,st4,nfp,w0⟩
  rintro n s5 ⟨i,H5,I5,st5,n5,w5⟩
  rcases turn i n H5 w5 with ⟨stop,qq⟩ | ⟨go,Nx,hNx,step⟩
  ·have td:=T.done (X.blk s3 H3 scope ce fp) rfl rfl rfl hc i [] s5 _ H5 (fun _ _=>False) I5 (stat I5 n5) st5 stop
   refine thnF td fun r s6 ⟨hr,I6⟩=>?_
   subst hr
   have I7:Inv X pins σ H5 s6:=I3.call' (ch:=fp) I6.os I6.base I6.hok I6.bare fun b hb=>⟨(f3 b hb).1.2.2.2.1,(f3 b hb).1.2.1,(f3 b hb).1.2.2.2.2.1,(f3 b hb).1.2.2.2.2.2⟩
   have nC:H5 s3.heap.objs.size=none:=by
    have z:H5 ce.locals=none:=I6.free
    rw [cL] at z
    exact z
   obtain ⟨m,hn,_⟩:=I6.loc
   have hn:s6.heap.Ns ce.locals m:=hn
   rw [cL] at hn
   exact hRR D s3.heap.objs.size s6 m H5 I7 qq hn (I3.fpOk (Nat.le_refl _) nC)
  ·have ti:=T.item (X.blk s3 H3 scope ce fp) rfl rfl rfl hc i [] s5 _ H5 (fun _ _=>False) I5 (stat I5 n5) st5 go
   refine thnF ti fun r s6 ⟨u,hr,h6⟩=>?_
   subst hr
   refine thnF h6 fun _ s7 ⟨x,H7,I7,r7,y7,st7,n7⟩=>?_
   have I7':=I7.pinned (stat I7 n7) (T.obj _ _ st7)
   refine thnF (pg _ s7 _ H7 x u _ I7' r7 (step x H7 y7)) fun _ s8 ⟨σ8,H8,I8,hw8,q8⟩=>?_
   refine thnF (pt _ s8 σ8 H8 _ I8 q8) fun b s9 ⟨H9,I9,q9⟩=>?_
   have fin:∀ {s':Shared}{H':Hp},Inv (X.blk s3 H3 scope ce fp) ([]++d42 fp s7.heap) σ8 H' s'→Nx H'→∃ m,m < n∧∃ i H',Inv (X.blk s3 H3 scope ce fp) [] (wipe σ (own.map (·.2))) H' s'∧tn i s'.heap∧(∀ b∈fp,H' b=none)∧W i m H':=fun {s' H'} I' nx=>by
    obtain ⟨m',hm,w'⟩:=hNx H' nx
    have pin':∀ b∈fp,∀ o,s7.heap.get? b=some o→s'.heap.get? b=some o∧H' b=none:=fun b hb o e=>
     let z:=I'.pin (b,o) (List.mem_append_right _ (List.mem_append_right _ (vF hb e)))
     ⟨z.1,z.2.1⟩
    have hl:(wipe σ (own.map (·.2))).length=σ8.length:=by rw [←hw8,uR]
    refine ⟨m',hm,i+1,H',(I'.unpinned (pins:=[])).weak hl (fun j v e=>?_),T.keep _ _ _ st7 fun b hb o e=>(pin' b hb o e).1,fun b hb=>?_,w'⟩
    ·rw [←hw8] at e
     exact (wS e).1
    ·obtain ⟨o,e,_⟩:=T.obj _ _ st7 b hb
     exact (pin' b hb o e).2
   cases b with
   | false=>
    simp only [Bool.false_eq_true,if_false] at q9 ⊢
    exact fin I9 q9
   | true=>
    simp only [if_true] at q9 ⊢
    refine thnF (pe _ s9 σ8 H9 _ I9 q9) fun z s10 ⟨yv,H10,I10,r10,acc,hD10,hz10,nx⟩=>?_
    exact dGM (X:=X.blk s3 H3 scope ce fp) I10 hD10 hz10 r10 fun s11 I11=>fin I11 nx
 exact codeAny_compStart_list loop (T.self X.A 0 _ _ _ st4 loop)
theorem vU {elt tg iter:Expr}{ifs:List Expr}{scope:Scope}{own:List (Str×Nat)}{pos:Pos}{wi:TI}{g:TG}{tt:TT}{te:TE} (hc:X.calm=true) (hN:X.N.Nodup) (hi:PI X tg iter wi) (ok:BlkOk X.N X.env.scope scope own)
  (hg:∀ (s:Shared) (H:Hp) (C:Addr) (cl:List (Str×Addr)) (fp:List Addr),PG (X.blk s H scope (compEnvC scope cl C X.env) fp) tg g) (ht:∀ (s:Shared) (H:Hp) (C:Addr) (cl:List (Str×Addr)) (fp:List Addr),PTs (X.blk s H scope (compEnvC scope cl C X.env) fp) ifs tt)
  (he:∀ (s:Shared) (H:Hp) (C:Addr) (cl:List (Str×Addr)) (fp:List Addr),PE (X.blk s H scope (compEnvC scope cl C X.env) fp) elt te) (hs:∀ x,foldedSetIterable iter X.env x=pure x:=by intro _;rfl) :
  PE X (.ListComp elt [⟨tg,iter,ifs,0⟩] scope pos) (tLc wi g tt te (own.map (·.2))):=by
 intro pins s σ H Q I h
 rw [eval_ListComp]
 refine dBh hc hN I hi ok hg ht he hs h fun D C s' m H' I' q hn f=>⟨m,hn,fun h'' sb=>?_⟩
 obtain ⟨f0,f1,f2,f3,f4,f5⟩:=f
 exact ⟨.ref D,H',I'.turned (t':=s'.toks) (fun b o hb e=>(sb.2 b hb).trans e) f0 f1 f3 f4 f5,rfl,q⟩
theorem yR {i:Nat}{y:Str}{py:Pos}{elt tg iter:Expr}{ifs:List Expr}{scope:Scope}{own:List (Str×Nat)}{pos spos:Pos}{wi:TI}{g:TG}{tt:TT}{te:TE} (hc:X.calm=true) (hN:X.N.Nodup) (hy:X.N[i]?=some y) (hyl:X.env.scope.names.lookup y=some .local)
  (hsw:swapsWith (.ListComp elt [⟨tg,iter,ifs,0⟩] scope pos) (some (.Name y py)) spos.line X.env=pure true) (hi:PI X tg iter wi) (ok:BlkOk X.N X.env.scope scope own)
  (hg:∀ (s:Shared) (H:Hp) (C:Addr) (cl:List (Str×Addr)) (fp:List Addr),PG (X.blk s H scope (compEnvC scope cl C X.env) fp) tg g) (ht:∀ (s:Shared) (H:Hp) (C:Addr) (cl:List (Str×Addr)) (fp:List Addr),PTs (X.blk s H scope (compEnvC scope cl C X.env) fp) ifs tt)
  (he:∀ (s:Shared) (H:Hp) (C:Addr) (cl:List (Str×Addr)) (fp:List Addr),PE (X.blk s H scope (compEnvC scope cl C X.env) fp) elt te) (hs:∀ x,foldedSetIterable iter X.env x=pure x:=by intro _;rfl) :
  PS X (.Assign [.Name y py] (.ListComp elt [⟨tg,iter,ifs,0⟩] scope pos) spos) (tAsg (tLc wi g tt te (own.map (·.2))) (dCj i)):=by
 intro pins s σ H D I h
 rw [exec_Assign_Name_used _ _ _ _ hsw]
 refine wpAny_bind (wpAny_standAt (wpAny_bind ?_))
 show wpAny _ X.A (do let _ ←comprehension (.ListComp elt [⟨tg,iter,ifs,0⟩] scope pos) scope X.env (firstIterPos [⟨tg,iter,ifs,0⟩] pos) (newList []) false (eval iter X.env) (some (assign (.Name y py) X.env))) _ _ s
 have h:tLc wi g tt te (own.map (·.2)) σ H (fun x H1=>dCj i x σ H1 D.nx):=h
 refine wpAny_bind (thn (dBh (Qf:=fun _ s'=>SP X pins D .next s') hc hN I hi ok hg ht he hs h fun L C s' m H' I' q hn f=>?_) fun _ s' hq=>wpAny_pure (wpAny_pure hq))
 show wpAny _ _ (assign (.Name y py) X.env (.ref L)) _ _ _
 refine wpAny_assign_Name (d4R (v:=V.ref L) I' hN hy (.inl hyl) rfl (fun s2 I2 ⟨a,sb,ha⟩=>?_) (.inr hyl))
 obtain ⟨f0,f1,f2,f3,f4,f5⟩:=f
 have haC:C≠a:=by
  rcases ha with z | z
  ·rw [z];exact f1
  ·exact fun e=>f4 y a z e.symm
 refine ⟨m,hn.sameBut sb haC,fun h3 sb3=>?_⟩
 exact ⟨_,H',I2.turned (t':=s2.toks) (fun b o hb e=>(sb3.2 b hb).trans e) f0 f1 f3 f4 f5,q⟩
theorem d83 {elt:Expr}{gs:List Comprehension}{scope:Scope}{pos py:Pos}{y:Str}{l:Nat}{env:Env} (hk:env.scope.kind=.function) (hy:env.scope.names.lookup y=some .local) (hl:(py.line==pos.line)=true)
  (ha:(scope.names.any fun (n,k)=>n==y&&(k==.local||k==.cell))=false):swapsWith (.ListComp elt gs scope pos) (some (.Name y py)) l env=pure true:=by
 have ky:env.kindOf y=some .local:=hy
 have hb:env.blockKind=.function:=by unfold Env.blockKind;rw [hk];rfl
 unfold swapsWith
 simp only [hb,ky,ha,Expr.pos,hl]
 rfl
end
theorem dDF {lo:Int}{n:Nat}{g:TG}{tt:TT}{te:TE}{vs:List Nat}{σ:St}{H1:Hp}{D:Addr}{Qd:Hp→Prop} (Pv:Nat→Hp→Prop) (h0:Pv 0 (upd H1 D (.lst [])))
  (hs:∀ i H,i < n→Pv i H→g (.int (lo+i)) (wipe σ vs) H fun σ2 H2=>wipe σ2 vs=wipe σ vs∧tt σ2 H2 fun b H3=>
   if b=true then te σ2 H3 fun y H4=>∃ acc,H4 D=some (.lst acc)∧acc.length < sizeLine∧Pv (i+1) (upd H4 D (.lst (acc++[y]))) else Pv (i+1) H3) (hd:∀ H,Pv n H→Qd H) :
  ∃ W:Nat→Nat→Hp→Prop,(∃ m,W 0 m (upd H1 D (.lst [])))∧∀ i m H,W i m H →
   ((Itr lo n).stop i H∧Qd H)∨((Itr lo n).go i H∧∃ Nx:Hp→Prop,(∀ H',Nx H'→∃ m',m' < m∧W (i+1) m' H')∧∀ x H',(Itr lo n).yld i H x H'→g x (wipe σ vs) H' fun σ2 H2=>wipe σ2 vs=wipe σ vs∧tt σ2 H2 fun b H3=>
    if b=true then te σ2 H3 fun y H4=>∃ acc,H4 D=some (.lst acc)∧acc.length < sizeLine∧Nx (upd H4 D (.lst (acc++[y]))) else Nx H3):=by
 refine ⟨fun i m H=>m=n-i∧i≤n∧Pv i H,⟨n,by simp,Nat.zero_le _,h0⟩,?_⟩
 rintro i m H ⟨rfl,hi,p⟩
 by_cases hlt:i < n
 ·refine .inr ⟨hlt,Pv (i+1),fun H' p'=>⟨n-(i+1),by omega,rfl,hlt,p'⟩,fun x H' y=>?_⟩
  obtain ⟨e,y⟩:=y
  subst e y
  exact hs i _ hlt p
 ·have e:i=n:=by omega
  subst e
  exact .inl ⟨Nat.le_refl _,hd H p⟩
theorem jN {K:PySem.W.Frag}{a:Addr}{xs:List V}{g:TG}{tt:TT}{te:TE}{vs:List Nat}{σ:St}{H1:Hp}{D:Addr}{Qd:Hp→Prop} (Pv:Nat→Hp→Prop) (h0:Pv 0 (upd H1 D (.lst []))) (hl:∀ i H,i≤xs.length→Pv i H→SqL K H a xs)
  (hs:∀ i x H,xs[i]?=some x→Pv i H→g x (wipe σ vs) H fun σ2 H2=>wipe σ2 vs=wipe σ vs∧tt σ2 H2 fun b H3=>
   if b=true then te σ2 H3 fun y H4=>∃ acc,H4 D=some (.lst acc)∧acc.length < sizeLine∧Pv (i+1) (upd H4 D (.lst (acc++[y]))) else Pv (i+1) H3) (hd:∀ H,Pv xs.length H→Qd H) :
  ∃ W:Nat→Nat→Hp→Prop,(∃ m,W 0 m (upd H1 D (.lst [])))∧∀ i m H,W i m H →
   ((Itl K a).stop i H∧Qd H)∨((Itl K a).go i H∧∃ Nx:Hp→Prop,(∀ H',Nx H'→∃ m',m' < m∧W (i+1) m' H')∧∀ x H',(Itl K a).yld i H x H'→g x (wipe σ vs) H' fun σ2 H2=>wipe σ2 vs=wipe σ vs∧tt σ2 H2 fun b H3=>
    if b=true then te σ2 H3 fun y H4=>∃ acc,H4 D=some (.lst acc)∧acc.length < sizeLine∧Nx (upd H4 D (.lst (acc++[y]))) else Nx H3):=by
 refine ⟨fun i m H=>m=xs.length-i∧i≤xs.length∧Pv i H,⟨xs.length,by simp,Nat.zero_le _,h0⟩,?_⟩
 rintro i m H ⟨rfl,hi,p⟩
 have q:=hl i H hi p
 by_cases hlt:i < xs.length
 ·refine .inr ⟨⟨xs,xs[i],q,by simp [hlt]⟩,Pv (i+1),fun H' p'=>⟨xs.length-(i+1),by omega,rfl,hlt,p'⟩,fun x H' y=>?_⟩
  obtain ⟨e,y⟩:=y
  subst e
  exact hs i x _ (y xs q) p
 ·have e:i=xs.length:=by omega
  subst e
  exact .inl ⟨⟨xs,q,Nat.le_refl _⟩,hd H p⟩
def blkC (N:List Str) (sc scope:Scope) (own:List (Str×Nat)):Bool:=
 (match scope.kind with | .function=>true | _=>false)&&(scope.names.all fun y=>decide (scope.names.lookup y.1=some y.2))&&(own.all fun p=>decide (N[p.2]?=some p.1)) &&
  (scope.names.all fun y=>match y.2 with
   | .free=>(match sc.names.lookup y.1 with | some .cell=>true | some .free=>true | _=>false)
   | .local=>decide (y.1∈own.map (·.1))||decide (y.1∉N)
   | .cell=>decide (y.1∈own.map (·.1))||decide (y.1∉N)
   | _=>true)
theorem gJ {N:List Str}{sc scope:Scope}{own:List (Str×Nat)} (h:blkC N sc scope own=true):BlkOk N sc scope own:=by
 unfold blkC at h
 simp only [Bool.and_eq_true,List.all_eq_true,decide_eq_true_eq] at h
 obtain ⟨⟨⟨h1,h2⟩,h3⟩,h4⟩:=h
 refine ⟨?_,h2,h3,fun y hy e=>?_,fun y hy e=>?_⟩
 ·split at h1
  ·assumption
  ·cases h1
 ·have q:=h4 y hy
  simp only [e] at q
  split at q <;> first | exact .inl (by assumption) | exact .inr (by assumption) | cases q
 ·have q:=h4 y hy
  rcases e with e | e <;> (simp only [e,Bool.or_eq_true,decide_eq_true_eq] at q;exact q)
end L2
namespace L2
open PySem PySem.Spec PyProof.Rows
end L2
namespace L2
open PySem PySem.Spec PyProof.Rows
section
variable {κ:Type} [DecidableEq κ]
def valV (kvs:List (κ×V)) (k:κ):Option V:=(kvs.find? fun kv=>decide (kv.1=k)).map (·.2)
def putK (kvs:List (κ×V)) (k:κ) (v:V):List (κ×V):=
 if (kvs.any fun kv=>decide (kv.1=k))=true then kvs.map (fun kv=>if kv.1=k then (kv.1,v) else kv) else kvs++[(k,v)]
theorem yU {p:κ×V}{r:List (κ×V)}{k:κ} (e:p.1=k):valV (p::r) k=some p.2:=by simp [valV,List.find?_cons,e]
theorem yg {p:κ×V}{r:List (κ×V)}{k:κ} (e:¬ p.1=k):valV (p::r) k=valV r k:=by simp [valV,List.find?_cons,e]
theorem yj (k:κ):∀ kvs:List (κ×V),(kvs.any fun kv=>decide (kv.1=k))=(valV kvs k).isSome
 | []=>rfl
 | p::r=>by
  rw [List.any_cons]
  by_cases e:p.1=k
  ·simp only [yU e,decide_eq_true e,Bool.true_or,Option.isSome_some]
  ·rw [yg e,decide_eq_false e,Bool.false_or];exact yj k r
theorem jY (kvs:List (κ×V)) (k:κ) (v:V):(putK kvs k v).length≤kvs.length+1:=by
 unfold putK
 split
 ·rw [List.length_map];omega
 ·rw [List.length_append,List.length_cons,List.length_nil];omega
theorem dDT {kvs:List (κ×V)}{k:κ} (v:V) (h:valV kvs k=none):putK kvs k v=kvs++[(k,v)]:=by
 unfold putK
 rw [yj,h]
 exact if_neg (by decide)
theorem RelO.isSome_eq {o:Option V}{u:Option Value} (r:RelO o u):o.isSome=u.isSome:=by
 cases o with
 | none=>cases u with
  | none=>rfl
  | some _=>exact (show False from r).elim
 | some _=>cases u with
  | none=>exact (show False from r).elim
  | some _=>rfl
theorem RelO.getD {o:Option V}{u:Option Value}{d:V}{d':Value} (r:RelO o u) (rd:RelV d d'):RelV (o.getD d) (u.getD d'):=by
 cases o with
 | none=>cases u with
  | none=>exact rd
  | some _=>exact (show False from r).elim
 | some _=>cases u with
  | none=>exact (show False from r).elim
  | some _=>exact r
theorem KV.val {kvs:List (κ×V)}{vs:List (κ×Value)} (r:KV kvs vs) (k:κ):RelO (valV kvs k) (valueAt vs k):=by
 unfold KV at r
 induction r with
 | nil=>exact True.intro
 | @cons p q ps qs h t ih=>
  obtain ⟨h1,h2⟩:=h
  by_cases e:p.1=k
  ·have e':q.1=k:=h1.symm.trans e
   have b:valueAt (q::qs) k=some q.2:=by simp [valueAt,List.find?_cons,e']
   rw [yU e,b];exact h2
  ·have e':¬ q.1=k:=fun z=>e (h1.trans z)
   have b:valueAt (q::qs) k=valueAt qs k:=by simp [valueAt,List.find?_cons,e']
   rw [yg e,b];exact ih
theorem KV.any {kvs:List (κ×V)}{vs:List (κ×Value)} (r:KV kvs vs) (k:κ):(kvs.any fun kv=>decide (kv.1=k))=vs.any fun kv=>decide (kv.1=k):=by
 unfold KV at r
 induction r with
 | nil=>rfl
 | cons h t ih=>rw [List.any_cons,List.any_cons,ih,h.1]
theorem KV.repl {kvs:List (κ×V)}{vs:List (κ×Value)} (r:KV kvs vs) (k:κ) {y:V}{u:Value} (ry:RelV y u) :
  KV (kvs.map fun kv=>if kv.1=k then (kv.1,y) else kv) (vs.map fun kv=>if kv.1=k then (kv.1,u) else kv):=by
 unfold KV at r ⊢
 induction r with
 | nil=>exact .nil
 | @cons p q ps qs h t ih=>
  rw [List.map_cons,List.map_cons]
  refine .cons ?_ ih
  obtain ⟨h1,h2⟩:=h
  by_cases e:p.1=k
  ·rw [if_pos e,if_pos (h1.symm.trans e)];exact ⟨h1,ry⟩
  ·rw [if_neg e,if_neg (fun z=>e (h1.trans z))];exact ⟨h1,h2⟩
theorem KV.put {kvs:List (κ×V)}{vs:List (κ×Value)} (r:KV kvs vs) (k:κ) {y:V}{u:Value} (ry:RelV y u):KV (putK kvs k y) (stored vs k u):=by
 unfold putK stored
 rw [r.any k]
 by_cases e:(vs.any fun kv=>decide (kv.1=k))=true
 ·rw [if_pos e,if_pos e];exact r.repl k ry
 ·rw [if_neg e,if_neg e];exact Paired.snoc r ⟨rfl,ry⟩
theorem KV.length {kvs:List (κ×V)}{vs:List (κ×Value)} (r:KV kvs vs):kvs.length=vs.length:=Paired.length r
end
theorem d82 {P:Program}{w:World}{k:Key}{u:Value} (r:RelV (kV k) u):(gE P w).is k u=true:=by
 cases k with
 | inl i=>obtain ⟨t,e⟩:=(show ∃ t,u=Value.int i t from r);subst e;exact d8c P w i t
 | inr x=>obtain ⟨t,e⟩:=(show ∃ t,u=Value.str x t from r);subst e;exact d8a P w x t
theorem d5T {P:Program}{w:World}:∀ {ks:List Key}{us:List Value},Vals (ks.map kV) us→ItemsAre (gE P w) ks us
 | [],_,r=>by rw [List.map_nil] at r;cases r;exact .nil
 | k::ks,_,r=>by
  rw [List.map_cons] at r
  cases r with
  | cons h t=>exact .cons (d82 h) (d5T t)
abbrev KT (H:Hp):List (List Key×V)→List (List Key×Addr×Value)→Prop:=Paired fun p q=>p.1=q.1∧H q.2.1=some (.tup (p.1.map kV))∧RelV p.2 q.2.2
theorem KT.val {H:Hp}{kvs:List (List Key×V)}{xs:List (List Key×Addr×Value)} (r:KT H kvs xs) (k:List Key):RelO (valV kvs k) ((atKey xs k).map (·.2)):=by
 induction r with
 | nil=>exact True.intro
 | @cons p q ps qs h t ih=>
  obtain ⟨h1,_,h2⟩:=h
  by_cases e:p.1=k
  ·have e':q.1=k:=h1.symm.trans e
   have b:atKey (q::qs) k=some q.2:=by simp [atKey,List.find?_cons,e']
   rw [yU e,b];exact h2
  ·have e':¬ q.1=k:=fun z=>e (h1.trans z)
   have b:atKey (q::qs) k=atKey qs k:=by simp [atKey,List.find?_cons,e']
   rw [yg e,b];exact ih
theorem KT.repl {H:Hp}{kvs:List (List Key×V)}{xs:List (List Key×Addr×Value)} (r:KT H kvs xs) (k:List Key) {y:V}{u:Value} (ry:RelV y u) :
  KT H (kvs.map fun kv=>if kv.1=k then (kv.1,y) else kv) (xs.map (putAt k u)):=by
 induction r with
 | nil=>exact .nil
 | @cons p q ps qs h t ih=>
  rw [List.map_cons,List.map_cons]
  refine .cons ?_ ih
  obtain ⟨h1,h2,h3⟩:=h
  unfold putAt
  by_cases e:p.1=k
  ·rw [if_pos e,if_pos (h1.symm.trans e)];exact ⟨h1,h2,ry⟩
  ·rw [if_neg e,if_neg (fun z=>e (h1.trans z))];exact ⟨h1,h2,h3⟩
theorem KT.put {H:Hp}{kvs:List (List Key×V)}{xs:List (List Key×Addr×Value)} (r:KT H kvs xs) (k:List Key) {b:Addr}{y:V}{u:Value} (hb:H b=some (.tup (k.map kV))) (ry:RelV y u) :
  KT H (putK kvs k y) (storedH xs k b u):=by
 have e:(kvs.any fun kv=>decide (kv.1=k))=(atKey xs k).isSome:=by
  rw [yj,(r.val k).isSome_eq,Option.isSome_map]
 unfold putK storedH
 rw [e]
 by_cases q:(atKey xs k).isSome=true
 ·rw [if_pos q,if_pos q];exact r.repl k ry
 ·rw [if_neg q,if_neg q];exact Paired.snoc r ⟨rfl,hb,ry⟩
theorem KT.keeps {H H':Hp}{kvs:List (List Key×V)}{xs:List (List Key×Addr×Value)} (r:KT H kvs xs) (ht:∀ b ys,H b=some (.tup ys)→H' b=some (.tup ys)):KT H' kvs xs:=
 Paired.mapP r fun _ _ z=>⟨z.1,ht _ _ z.2.1,z.2.2⟩
section
variable {P:Program}{w:World}{H:Hp}{h:Heap}{a:Addr}
theorem dG1 {u:HO} (ok:HOk P w H h) (e:Rd H a u):ObjOk P w H h a u:=e.ok ok
theorem d85 {kvs:List (Key×V)} (ok:HOk P w H h) (e:Rd H a (.dK kvs)):kvs.length≤sizeLine∧(a==sysModules)=false∧∃ vs,KV kvs vs∧h.DictOf (gE P w) a vs:=
 show ObjOk P w H h a (.dK kvs) from dG1 ok e
theorem dGu {kvs:List (Key×V)} (ok:HOk P w H h) (e:H a=some (.dK kvs)):kvs.length≤sizeLine∧(a==sysModules)=false∧∃ vs,KV kvs vs∧h.DictOf (gE P w) a vs:=d85 ok (.inl e)
theorem yM {ks:List Key} (ok:HOk P w H h) (e:H a=some (.tup (ks.map kV))):(tupleKind (gE P w)).is h ks a:=by
 obtain ⟨_,its,r,o,h1,h2,n,h3⟩:=(show ObjOk P w H h a (.tup (ks.map kV)) from ok a _ e)
 exact ⟨o,its.toArray,n,h1,h2,h3,by simpa using d5T r⟩
theorem d8e {kvs:List (List Key×V)} (ok:HOk P w H h) (e:Rd H a (.dT kvs)):kvs.length≤sizeLine∧(a==sysModules)=false ∧
  ∃ xs,KT H kvs xs∧h.DictOfH (tupleKind (gE P w)) a xs:=by
 obtain ⟨z,y,xs,r,o,es,ep,h1,h2,h3,h4,h5⟩:=(show ObjOk P w H h a (.dT kvs) from dG1 ok e)
 refine ⟨z,y,xs,r,o,es,ep,h1,h2,h3,h4,fun x hx=>?_,h5⟩
 have all:∀ {l:List (List Key×V)}{m:List (List Key×Addr×Value)},KT H l m→∀ x∈m,(tupleKind (gE P w)).is h x.1 x.2.1:=by
  intro l m q
  induction q with
  | nil=>intro x hx;exact nomatch hx
  | @cons p q ps qs hq t ih=>
   intro x hx
   rcases List.mem_cons.mp hx with e | hx
   ·subst e
    exact yM ok (by rw [←hq.1];exact hq.2.1)
   ·exact ih x hx
 exact all r x hx
theorem dGs {kvs:List (List Key×V)} (ok:HOk P w H h) (e:H a=some (.dT kvs)):kvs.length≤sizeLine∧(a==sysModules)=false ∧
  ∃ xs,KT H kvs xs∧h.DictOfH (tupleKind (gE P w)) a xs:=d8e ok (.inl e)
end
def DGet (H:Hp) (a:Addr) (y:V) (r:Option V):Prop:=
 (∃ kvs k,Rd H a (.dK kvs)∧y=kV k∧r=valV kvs k)∨∃ kvs k b,Rd H a (.dT kvs)∧y=.ref b∧H b=some (.tup (k.map kV))∧r=valV kvs k
def DPut (H:Hp) (a:Addr) (y v:V) (H':Hp):Prop:=
 (∃ kvs k,H a=some (.dK kvs)∧y=kV k∧kvs.length < sizeLine∧H'=upd H a (.dK (putK kvs k v))) ∨
 ∃ kvs k b,H a=some (.dT kvs)∧y=.ref b∧H b=some (.tup (k.map kV))∧kvs.length < sizeLine∧H'=upd H a (.dT (putK kvs k v))
theorem DGet.k {H:Hp}{a:Addr}{kvs:List (Key×V)}{k:Key} (e:H a=some (.dK kvs)):DGet H a (kV k) (valV kvs k):=.inl ⟨kvs,k,.inl e,rfl,rfl⟩
theorem DPut.k {H:Hp}{a:Addr}{kvs:List (Key×V)}{k:Key}{v:V} (e:H a=some (.dK kvs)) (hl:kvs.length < sizeLine):DPut H a (kV k) v (upd H a (.dK (putK kvs k v))):=.inl ⟨kvs,k,e,rfl,hl,rfl⟩
section
variable {X:Cx}{pins:List (Addr×Obj)}{σ:St}{H:Hp}{s:Shared}{a:Addr}{y v:V}{u r:Value}{o:Option V}{A:Around}{E:Value→Shared→Prop}
theorem Inv.big (I:Inv X pins σ H s):sysModules < s.heap.objs.size:=by
 have h:mainGlobals < s.heap.objs.size:=(I.mod.glob.keeps I.bk).lt
 exact Nat.lt_trans (by decide) h
theorem dBG {Q:Value→Shared→Prop} (hu:A.units+1 < cLine) (I:Inv X pins σ H s) (g:DGet H a y (some v)) (ry:RelV y u) (h:∀ w' s',Inv X pins σ H s'→RelV v w'→Q w' s') :
  wpAny (model X.prog X.w) A (getItem (.ref a) u) Q E s:=by
 rcases g with ⟨kvs,k,e,ey,l⟩ | ⟨kvs,k,b,e,ey,eb,l⟩
 ·subst ey
  obtain ⟨z,hd,vs,rel,dd⟩:=d85 I.hok e
  obtain ⟨w',hw,rw'⟩:=RelO.some_of (v:=v) (o:=valueAt vs k) (by rw [l];exact rel.val k)
  exact wpAny_getItem_of (d82 ry) dd.mapOf hw (h w' _ (I.tok _) rw')
 ·subst ey
  cases (show u=Value.ref b from ry)
  obtain ⟨z,hd,xs,rel,dd⟩:=d8e I.hok e
  obtain ⟨w',hw,rw'⟩:=RelO.some_of (v:=v) (o:=(atKey xs k).map (·.2)) (by rw [l];exact rel.val k)
  obtain ⟨p,hp,hp2⟩:=Option.map_eq_some_iff.mp hw
  refine wpAny_getItem_heap (tupleKind_room_in1 hu) (yM I.hok eb) dd hp ?_
  rw [hp2]
  exact h w' _ (I.tok _) rw'
theorem d_in {Q:Value→Shared→Prop} (hu:A.units+1 < cLine) (I:Inv X pins σ H s) (g:DGet H a y o) (ry:RelV y u) (h:∀ s',Inv X pins σ H s'→Q (.bool o.isSome) s') :
  wpAny (model X.prog X.w) A (compareOp .In u (.ref a)) Q E s:=by
 rcases g with ⟨kvs,k,e,ey,l⟩ | ⟨kvs,k,b,e,ey,eb,l⟩
 ·subst ey
  obtain ⟨z,hd,vs,rel,dd⟩:=d85 I.hok e
  refine wpAny_in_of (d82 ry) hd dd.mapOf ?_
  rw [←(rel.val k).isSome_eq,←l]
  exact h _ (I.tok _)
 ·subst ey
  cases (show u=Value.ref b from ry)
  obtain ⟨z,hd,xs,rel,dd⟩:=d8e I.hok e
  refine wpAny_in_heap (tupleKind_room_in1 hu) (yM I.hok eb) hd dd ?_
  have q:=(rel.val k).isSome_eq
  rw [Option.isSome_map] at q
  rw [←q,←l]
  exact h _ (I.tok _)
theorem dEt {Q:Value→Shared→Prop} (hu:A.units+1 < cLine) (I:Inv X pins σ H s) (g:DGet H a y o) (ry:RelV y u) (h:∀ s',Inv X pins σ H s'→Q (.bool (!o.isSome)) s') :
  wpAny (model X.prog X.w) A (compareOp .NotIn u (.ref a)) Q E s:=by
 rcases g with ⟨kvs,k,e,ey,l⟩ | ⟨kvs,k,b,e,ey,eb,l⟩
 ·subst ey
  obtain ⟨z,hd,vs,rel,dd⟩:=d85 I.hok e
  refine wpAny_notIn_of (d82 ry) hd dd.mapOf ?_
  rw [←(rel.val k).isSome_eq,←l]
  exact h _ (I.tok _)
 ·subst ey
  cases (show u=Value.ref b from ry)
  obtain ⟨z,hd,xs,rel,dd⟩:=d8e I.hok e
  refine wpAny_notIn_heap (tupleKind_room_in1 hu) (yM I.hok eb) hd dd ?_
  have q:=(rel.val k).isSome_eq
  rw [Option.isSome_map] at q
  rw [←q,←l]
  exact h _ (I.tok _)
theorem dC4 {h':Heap}{t':Nat}{ob:HO} (I:Inv X pins σ H s) (mu:Mut (H a)) (hs:Heap.SameBut a s.heap h') (he:∃ q,h'.get? a=some q) (new:ObjOk X.prog X.w (upd H a ob) h' a ob) :
  Inv X pins σ (upd H a ob) { s with heap:=h',toks:=t' }:=
 I.write (x:=a) (e:=a) mu (.inl rfl) (fun b q hb z=>(hs.2 b hb).trans z) he new
theorem dGE {P:Program}{w:World}{H':Hp}{h':Heap}{kvs:List (Key×V)}{vs:List (Key×Value)} (z:kvs.length≤sizeLine) (hd:(a==sysModules)=false) (rel:KV kvs vs) (dd:h'.DictOf (gE P w) a vs) :
  ObjOk P w H' h' a (.dK kvs):=⟨z,hd,vs,rel,dd⟩
theorem dBE {H':Hp}{Q:Unit→Shared→Prop} (hu:A.units+1 < cLine) (I:Inv X pins σ H s) (g:DPut H a y v H') (ry:RelV y u) (rv:RelV v r) (h:∀ s',Inv X pins σ H' s'→Q () s') :
  wpAny (model X.prog X.w) A (setItem (.ref a) u r) Q E s:=by
 rcases g with ⟨kvs,k,e,ey,l,eH⟩ | ⟨kvs,k,b,e,ey,eb,l,eH⟩
 ·subst ey eH
  obtain ⟨z,hd,vs,rel,dd⟩:=dGu I.hok e
  have hz:vs.length≤sizeLine:=by rw [←rel.length];exact z
  have hl:(putK kvs k v).length≤sizeLine:=by have:=jY kvs k v;omega
  refine wpAny_setItem_pairs (hsz:=hz) (d82 ry) dd fun h' dd' hs=>h _ ?_
  have he:∃ q,h'.get? a=some q:=let ⟨q,_,_,hq,_⟩:=dd';⟨q,hq⟩
  exact dC4 I (by rw [e];exact True.intro) hs he (dGE hl hd (rel.put k rv) dd')
 ·subst ey eH
  cases (show u=Value.ref b from ry)
  obtain ⟨z,hd,xs,rel,dd⟩:=dGs I.hok e
  have hz:xs.length≤sizeLine:=by rw [←Paired.length rel];exact z
  have hl:(putK kvs k v).length≤sizeLine:=by have:=jY kvs k v;omega
  refine wpAny_setItem_heap (hsz:=hz) (tupleKind_room_in1 hu) (yM I.hok eb) dd fun h' dd' hs=>h _ ?_
  obtain ⟨q,es,ep,hq,h2,h3,h4,_,h5⟩:=dd'
  refine dC4 I (by rw [e];exact True.intro) hs ⟨q,hq⟩ ⟨hl,hd,_,(rel.put k eb rv).keeps fun c ys ec=>?_,q,es,ep,hq,h2,h3,h4,h5⟩
  rw [d8 (uq ec e (fun z=>nomatch z))]
  exact ec
end
def NoSl (i:Expr):Prop:=∀ ov iv,subscripted i false ov iv=operate [ov,iv] (getItem ov iv)
theorem dF7 {prog:Program}{w:World}{A:Around}{E:Value→Shared→Prop}{s:Shared}{env:Env}{value slice:Expr}{pos:Pos}{T id:String}{Q:Value→Shared→Prop}
  (hl:typeLookup (.type T) "__getitem__"=pure (some (.builtin id))) (hs:NoSl slice)
  (h:wpAny (model prog w) A (eval value env) (fun o s₁=>wpAny (model prog w) A (eval slice env) (fun i s₂=>s₂.TypeIs o T∧wpAny (model prog w) A (getItem o i) Q E s₂) E s₁) E s) :
  wpAny (model prog w) A (eval (.Subscript value slice pos) env) Q E s:=by
 refine Subscript_ (wpAny_mono h (fun o s₁ h₁=>wpAny_mono h₁ (fun i s₂ h₂=>?_) fun _ _ x=>x) fun _ _ x=>x)
 obtain ⟨hT,h₂⟩:=h₂
 unfold subscriptTail
 refine wpAny_bind ?_
 rw [getitemInPython_of_ne hT.not_modules]
 refine wpAny_bind (wpAny_specialOf hT hl ?_)
 have fin:wpAny (model prog w) A (subscripted slice false o i) (fun r s₃=>wpAny (model prog w) A (letTemporaryGo value o r >>= fun _=>pure r) Q E s₃) E s₂:=by
  rw [hs o i]
  exact wpAny_operating (wpAny_mono h₂ (fun r s₃ h₃=>wpAny_bind (wpAny_letTemporaryGo (wpAny_pure h₃))) fun _ _ x=>x)
 first
  | exact wpAny_pure (wpAny_bind fin)
  | exact wpAny_bind (wpAny_pure (wpAny_bind fin))
  | exact wpAny_bind fin
theorem d8F {X:Cx}{pins:List (Addr×Obj)}{σ:St}{H:Hp}{s:Shared}{a:Addr}{y:V}{o:Option V} (I:Inv X pins σ H s) (g:DGet H a y o):s.TypeIs (.ref a) "dict":=by
 rcases g with ⟨kvs,k,e,_,_⟩ | ⟨kvs,k,b,e,_,_,_⟩
 ·obtain ⟨_,_,vs,_,dd⟩:=d85 I.hok e
  exact dd.typeIs
 ·obtain ⟨_,_,xs,_,dd⟩:=d8e I.hok e
  exact dd.typeIs
def dGr (td ty:TE):TE:=fun σ H Q=>td σ H fun x H1=>ty σ H1 fun y H2=>∃ a v,x=.ref a∧DGet H2 a y (some v)∧Q v H2
def tDIn (ty td:TE):TE:=fun σ H Q=>ty σ H fun y H1=>td σ H1 fun x H2=>∃ a o,x=.ref a∧DGet H2 a y o∧Q (.bl o.isSome) H2
def dEh (ty td:TE):TE:=fun σ H Q=>ty σ H fun y H1=>td σ H1 fun x H2=>∃ a o,x=.ref a∧DGet H2 a y o∧Q (.bl (!o.isSome)) H2
def dGX (td ty tv:TE):TS:=fun D σ H=>tv σ H fun v H1=>td σ H1 fun x H2=>ty σ H2 fun y H3=>∃ a H4,x=.ref a∧DPut H3 a y v H4∧D.nx σ H4
section
variable {X:Cx}{o i e value:Expr}{pos pos' tpos:Pos}{td ty tv:TE}
theorem dEa (hu:X.A.units+1 < cLine) (ho:PE X o td) (hi:PE X i ty) (hs:NoSl i):PE X (.Subscript o i pos) (dGr td ty):=by
 intro pins s σ H Q I h
 refine dF7 PySem.F.slot_dict_getitem.lookup hs (thn (ho pins s σ H _ I h) fun u s1 ⟨x,H1,I1,rx,q1⟩=>thn (hi pins s1 σ H1 _ I1 q1) fun iv s2 ⟨y,H2,I2,ry,a,v,ex,g,q2⟩=>?_)
 subst ex
 obtain rfl:u=Value.ref a:=rx
 exact ⟨d8F I2 g,dBG hu I2 g ry fun w' s3 I3 rw'=>⟨v,H2,I3,rw',q2⟩⟩
theorem dGO (hu:X.A.units+1 < cLine) (hi:PE X i ty) (ho:PE X o td):PC X .In i o (tDIn ty td):=by
 intro pins s σ H Q I h
 refine thn (hi pins s σ H _ I h) fun iv s1 ⟨y,H1,I1,ry,q1⟩=>thn (ho pins s1 σ H1 _ I1 q1) fun u s2 ⟨x,H2,I2,rx,a,ov,ex,g,q2⟩=>?_
 subst ex
 obtain rfl:u=Value.ref a:=rx
 exact d_in hu I2 g ry fun s3 I3=>⟨.bl ov.isSome,H2,I3,rfl,q2⟩
theorem dAl (hu:X.A.units+1 < cLine) (hi:PE X i ty) (ho:PE X o td):PC X .NotIn i o (dEh ty td):=by
 intro pins s σ H Q I h
 refine thn (hi pins s σ H _ I h) fun iv s1 ⟨y,H1,I1,ry,q1⟩=>thn (ho pins s1 σ H1 _ I1 q1) fun u s2 ⟨x,H2,I2,rx,a,ov,ex,g,q2⟩=>?_
 subst ex
 obtain rfl:u=Value.ref a:=rx
 exact dEt hu I2 g ry fun s3 I3=>⟨.bl (!ov.isSome),H2,I3,rfl,q2⟩
theorem d8v (hu:X.A.units+1 < cLine) (ho:PE X o td) (hi:PE X i ty) (hv:PE X value tv) (hs:swapsWith value (some (.Subscript o i pos')) pos.line X.env=pure false) :
  PS X (.Assign [.Subscript o i pos'] value pos) (dGX td ty tv):=by
 intro pins s σ H D I h
 refine wpAny_Assign_Subscript (thn (hv pins s σ H _ I h) fun r s1 ⟨v,H1,I1,rv,q1⟩=>thn (ho pins s1 σ H1 _ I1 q1) fun u s2 ⟨x,H2,I2,rx,q2⟩=>thn (hi pins s2 σ H2 _ I2 q2) fun iv s3 ⟨y,H3,I3,ry,a,H4,ex,g,q3⟩=>?_) hs
 subst ex
 obtain rfl:u=Value.ref a:=rx
 exact dBE hu I3 g ry rv fun s4 I4=>⟨σ,H4,I4,q3⟩
end
theorem dD4 {P:Program}{w:World}{H:Hp} (h:Heap) (hb:sysModules < h.objs.size):ObjOk P w H (h.push { cls:=.type "dict",data:=.dict #[] }) h.objs.size (.dK []):=
 ⟨Nat.zero_le _,beq_eq_false_iff_ne.mpr (Ne.symm (Nat.ne_of_lt hb)),[],.nil,Heap.DictOf.new h⟩
def dFh:TE:=fun _ H Q=>∀ p,H p=none→Q (.ref p) (upd H p (.dK []))
section
variable {X:Cx}{pos:Pos}
theorem dDQ:PE X (.Dict [] [] pos) dFh:=fun pins s σ H Q I h=>
 wpAny_Dict_empty ⟨.ref s.heap.objs.size,_,I.laid (a:=s.heap.objs.size) (o:=.dK []) (t':=s.toks) (fun _ _ q=>Heap.get?_push_of_some _ q) (Nat.le_refl _) (dD4 s.heap I.big),rfl,h _ (I.hok.fresh (Nat.le_refl _))⟩
end
def uK (kvs more:List (Key×V)):List (Key×V):=more.foldl (fun acc kv=>putK acc kv.1 kv.2) kvs
theorem KV.merge:∀ {more:List (Key×V)}{rs:List (Key×Value)}{kvs:List (Key×V)}{vs:List (Key×Value)},KV more rs→KV kvs vs→KV (uK kvs more) (merged vs rs):=by
 intro more rs kvs vs r
 unfold KV at r
 induction r generalizing kvs vs with
 | nil=>intro q;exact q
 | @cons p q ps qs h t ih=>
  intro r0
  have e:KV (putK kvs p.1 p.2) (stored vs q.1 q.2):=by
   have:=r0.put p.1 h.2
   rw [←h.1];exact this
  exact ih e
theorem uz:∀ (more kvs:List (Key×V)),(uK kvs more).length≤kvs.length+more.length
 | [],kvs=>by show kvs.length≤kvs.length+0;omega
 | p::r,kvs=>by
  have h1:=uz r (putK kvs p.1 p.2)
  have h2:=jY kvs p.1 p.2
  show (uK (putK kvs p.1 p.2) r).length≤_
  rw [List.length_cons];omega
structure M2 (X:Cx) (o:Expr) (m:Str) (apos:Pos) (e f:Expr) (cpos:Pos):Prop where
 base:attributeBase o m X.env (eval o X.env)=eval o X.env
 few:((backTo cpos (starEach [e,f] X.env)).all (fun x=>!x.1)&&(backToKw cpos (keywordEach [] X.env)).all (fun x=>x.1.isSome)
  && decide (([e,f]:List Expr).length+([]:List Keyword).length+(if ([]:List Keyword).isEmpty then 0 else 1) < 30))=true
 line:(apos.endLine==cpos.line)=true
 trees:backTo cpos (starEach [e,f] X.env)=[(false,eval e X.env),(false,eval f X.env)]
def IsD (H:Hp) (a:Addr):Prop:=(∃ kvs,Rd H a (.dK kvs))∨∃ kvs,Rd H a (.dT kvs)
theorem dFx {X:Cx}{pins:List (Addr×Obj)}{σ:St}{H:Hp}{s:Shared}{a:Addr} (I:Inv X pins σ H s) (d:IsD H a) :
  s.TypeIs (.ref a) "dict"∧(∀ b,Value.ref a=.ref b→∃ ob,s.heap.get? b=some ob∧ob.dict=none)∧(a==sysModules)=false:=by
 rcases d with ⟨kvs,e⟩ | ⟨kvs,e⟩
 ·obtain ⟨_,hd,vs,_,dd⟩:=d85 I.hok e
  refine ⟨dd.typeIs,fun b q=>?_,hd⟩
  cases q
  obtain ⟨ob,_,_,h1,h2,_⟩:=dd
  exact ⟨ob,h1,h2.2.1⟩
 ·obtain ⟨_,hd,xs,_,dd⟩:=d8e I.hok e
  refine ⟨dd.typeIs,fun b q=>?_,hd⟩
  cases q
  obtain ⟨ob,_,_,h1,h2,_⟩:=dd
  exact ⟨ob,h1,h2.2.1⟩
section
variable {X:Cx}{pins:List (Addr×Obj)}{σ:St}{H:Hp}{s:Shared}{a:Addr}{y d:V}{u r:Value}{o:Option V}{A:Around}{E:Value→Shared→Prop}
theorem dGI {Q:Value→Shared→Prop} (hu:A.units+1 < cLine) (I:Inv X pins σ H s) (g:DGet H a y o) (ry:RelV y u) (rd:RelV d r) (h:∀ w' s',Inv X pins σ H s'→RelV (o.getD d) w'→Q w' s') :
  wpAny (model X.prog X.w) A (call (.builtin "dict.get") [.ref a,u,r]) Q E s:=by
 rcases g with ⟨kvs,k,e,ey,l⟩ | ⟨kvs,k,b,e,ey,eb,l⟩
 ·subst ey
  obtain ⟨z,hd,vs,rel,dd⟩:=d85 I.hok e
  refine call_meetsIn PySem.F.slot_dict_get dd.typeIs PySem.F.entry_dict_get (PySem.F.args_dict_get_3 _ _ _) (meets_dict_get_default (gE X.prog X.w) a (d82 ry) hd r) ⟨_,dd.mapOf,h _ _ (I.tok _) ?_⟩
  rw [l]
  exact (rel.val k).getD rd
 ·subst ey
  cases (show u=Value.ref b from ry)
  obtain ⟨z,hd,xs,rel,dd⟩:=d8e I.hok e
  refine call_meetsIn PySem.F.slot_dict_get dd.typeIs PySem.F.entry_dict_get (PySem.F.args_dict_get_3 _ _ _) (meetsH_dict_get_default (tupleKind (gE X.prog X.w)) a b hd r) ⟨tupleKind_room_in1 hu,k,xs,yM I.hok eb,dd,h _ _ (I.tok _) ?_⟩
  rw [l]
  exact (rel.val k).getD rd
end
def dFY (td ty tx:TE):TE:=fun σ H Q=>td σ H fun x H1=>∃ a,x=.ref a∧IsD H1 a∧ty σ H1 fun y H2=>tx σ H2 fun z H3=>∃ o,DGet H3 a y o∧Q (o.getD z) H3
section
variable {X:Cx}{o e f:Expr}{apos cpos:Pos}{td ty tx:TE}
theorem dDC (hu:X.A.units+1 < cLine) (ho:PE X o td) (he:PE X e ty) (hf:PE X f tx) (m:M2 X o "get" apos e f cpos):PE X (.Call (.Attribute o "get" apos) [e,f] [] cpos) (dFY td ty tx):=by
 intro pins s σ H Q I h
 refine wpAny_Call_method m.base m.few m.line PySem.F.plainAttrs_dict PySem.F.slot_dict_get PySem.F.type_dict_get (thn (ho pins s σ H _ I h) fun u s1 ⟨x,H1,I1,rx,a,ex,d,q1⟩=>?_)
 subst ex
 obtain rfl:u=Value.ref a:=rx
 obtain ⟨t1,t2,_⟩:=dFx I1 d
 refine ⟨t1,t2,?_⟩
 rw [m.trees]
 refine Calls.callWith_builtin rfl (Calls.evalArgs_plain (Calls.spliced_cons (thn (he pins s1 σ H1 _ I1 q1) fun iv s2 ⟨y,H2,I2,ry,q2⟩=>
  Calls.spliced_cons (thn (hf pins s2 σ H2 _ I2 q2) fun fv s3 ⟨z,H3,I3,rz,ov,g,q3⟩=>Calls.spliced_nil ?_))))
 exact dGI hu I3 g ry rz fun w' s4 I4 rw'=>⟨_,H3,I4,rw',q3⟩
end
end L2
namespace L2
open PySem PySem.Spec PyProof.Rows
theorem wZ:typeLookup (.type "list") "keys"=pure none:=am_miss_of_fast (by first | decide +kernel | rfl)
theorem d9Y:entryFor table "dict.update.loop"=some Builtin.«dict.update.loop»:=entryFor_of_tree (by kernel_rfl)
theorem ut:plainId "dict.update.loop"=true:=by decide +kernel
section
variable {prog:Program}{w:World}{A:Around}{E:Value→Shared→Prop}
theorem dBS {s:Shared}{a:Addr}{o:Obj}{xs:Array Value}{k:Nat}{Q:Option Value→Shared→Prop} (hx:s.heap.get? a=some o) (hc:o.cls=.type "list") (hdat:o.data=.seq xs k) (hd:o.dict=none) (hA:A.handled=none)
  (h:∀ h' tk,(∀ b ob,s.heap.get? b=some ob→h'.get? b=some ob)→Q none { s with heap:=h',toks:=tk }):wpAny (model prog w) A (getAttr? (.ref a) "keys") Q E s:=by
 obtain ⟨c,dct,dat,sl⟩:=o
 simp only at hc hdat hd
 subst hc hdat hd
 obtain ⟨hp,g,d,tk,os⟩:=s
 have hT:∀ tk',(⟨hp,g,d,tk',os⟩:Shared).TypeIs (.ref a) "list":=fun _=>⟨_,hx,rfl⟩
 have hmiss:=wZ
 have hname:(["__module__","__name__","__qualname__","__doc__","__annotations__"]:List Str).contains "keys"=false:=by decide +kernel
 have hsz:("keys":Str).length+100≤sizeLine:=by first | size_fits | decide +kernel
 have f1:=sub_AttributeError
 have f3:=PySem.F.slot_list_getattribute.lookup
 have f4:=PySem.F.slot_list_getattribute.bind (.ref a)
 have f5:=am_list_getattr_none
 unfold getAttr? getAttrBy? getAttrBy
 repeat (any_goals (first | assumption | exact hT _ | ((with_reducible show wpAny _ _ (call (Value.builtin "list.__getattribute__") _ _) _ _ _);refine call_meets PySem.F.slot_list_getattribute (hT _) am_entry_list_getattribute (PySem.F.args_list_getattribute_2 _ _) (meets_getattribute_miss_list a xs k sl "keys" _ hmiss hname hsz) ⟨hx,hA,fun h' tk' e hx'=>?_⟩) | wp_step))
 obtain ⟨t',u',he⟩:=hx'.there
 show wpAny _ _ (getattributeRaised _ _ _ _ _ _ _) _ _ _
 unfold getattributeRaised
 repeat (any_goals (first | assumption | wp_step))
 all_goals first | exact h _ _ hx'.keeps | (dsimp only;repeat (any_goals (first | assumption | exact h _ _ hx'.keeps | wp_step)))
theorem d9N {R:Result→Shared→Prop}{S I l:Addr}{items:Array Value}{res:Value} (hh:A.handled=none) (hlI:l≠I) (hSI:S≠I) (hSl:S≠l) :
  ∀ (rest:List (Key×Value)) (i:Nat) (acc:List (Key×Value)) (ix:Int) (t:Tok) (s:Shared),items.size=i+rest.length→acc.length+rest.length≤sizeLine →
   (∀ (j:Nat) (q:Key×Value),rest[j]?=some q→∃ (b:Addr) (u:Value),items[i+j]?=some (.ref b)∧b≠S∧b≠I∧IsTup s.heap b #[u,q.2]∧yW q.1 u=true) →
   s.heap.IsListIter I l i→s.heap.IsList l items→s.heap.DictOf (gE prog w) S acc →
   (∀ h' tk,h'.DictOf (gE prog w) S (merged acc rest)→(∀ b o,b≠S→b≠I→s.heap.get? b=some o→h'.get? b=some o)→R (.ok (.ret res)) { s with heap:=h',toks:=tk }) →
   codeAny (model prog w) A (.builtin "dict.update.loop" ⟨[.ref S,.ref I,.int ix t,res],[]⟩) R s
 | [],i,acc,ix,t,s,hsz,hln,ht,hit,hl,hm,hR=>by
  refine codeAny_builtin d9Y ?_
  rw [Around.under_plainId ut _]
  show wpAny _ A.in1 (pyNext (.ref I) >>= _) _ _ s
  refine wpAny_bind (wpAny_pyNext_list_end (A:=A.in1) hh hit hl (by first | exact Array.getElem?_eq_none (Nat.le_of_eq hsz) | (simp at hsz;simp;omega)) fun h' he=>?_)
  show wpAny _ A.in1 (Builtin.Dict.addKeywords S [] >>= _) _ _ _
  refine wpAny_bind (wpAny_pure (wpAny_pure ?_))
  exact hR h' s.toks (hm.extBut he hSI) fun b o _ hb e=>he b o hb e
 | q::rest,i,acc,ix,t,s,hsz,hln,ht,hit,hl,hm,hR=>by
  obtain ⟨b,u,hb,hbS,hbI,htup,hk⟩:=ht 0 q rfl
  rw [List.length_cons] at hsz hln
  refine codeAny_builtin d9Y ?_
  rw [Around.under_plainId ut _]
  show wpAny _ A.in1 (pyNext (.ref I) >>= _) _ _ s
  refine wpAny_bind (wpAny_pyNext_list_item (x:=.ref b) hit hl (by simpa using hb) fun h1 hit1 hs1=>?_)
  have ht1:IsTup h1 b #[u,q.2]:=htup.extBut hs1.extBut hbI
  have hl1:h1.IsList l items:=hl.extBut hs1.extBut hlI
  have hm1:h1.DictOf (gE prog w) S acc:=hm.extBut hs1.extBut hSI
  obtain ⟨o,ho,hc,n,hd⟩:=id ht1
  show wpAny _ A.in1 (holding [Value.ref b] _ >>= _) _ _ _
  refine wpAny_bind (wpAny_holding ?_)
  refine wpAny_bind (wpAny_tryCatch ?_)
  unfold Builtin.Dict.pairItems
  refine wpAny_bind (wpAny_typeOf (T:="tuple") ⟨o,ho,hc⟩ ?_)
  rw [if_pos (by first | decide | rfl | simp)]
  refine wpAny_bind (wpAny_seqItems ho hd (wpAny_pure ?_))
  show wpAny _ A.in1 (holding [u,q.2] (dictSet S u q.2)) _ _ _
  refine wpAny_holding (wpAny_dictSet_pairs (knd:=gE prog w) (k:=q.1) hk hm1 (fun h2 hm2 hs2=>?_) (by omega))
  refine wpAny_pure ⟨plainId_quiet ut _,d9N (items:=items) hh hlI hSI hSl rest (i+1) (stored acc q.1 q.2) (ix+1) 0 _ (show items.size=i+1+rest.length by omega) ?_ (fun j q' e=>?_) ?_ ?_ hm2 fun h' tk hd' k=>?_⟩
  ·have z:=stored_length_le acc q.1 q.2
   omega
  ·obtain ⟨b',u',hb',hbS',hbI',htup',hk'⟩:=ht (j+1) q' (by simpa using e)
   refine ⟨b',u',?_,hbS',hbI',(htup'.extBut hs1.extBut hbI').extBut hs2.extBut hbS',hk'⟩
   rw [show i+1+j=i+(j+1) by omega]
   exact hb'
  ·exact hit1.at fun o' e=>hs2.extBut I o' (Ne.symm hSI) e
  ·exact hl1.extBut hs2.extBut (Ne.symm hSl)
  ·exact hR h' tk hd' fun c oc h3 h4 e=>k c oc h3 h4 (hs2.extBut c oc h3 (hs1.extBut c oc h4 e))
theorem wL {s:Shared}{l:Addr}{ol:Obj}{items:Array Value}{n:Nat}{prs:List (Key×Value)}{Q:Value→Shared→Prop} (hh:A.handled=none) (hl:s.heap.get? l=some ol) (hc:ol.cls=.type "list") (hd:ol.dict=none)
  (hdat:ol.data=.seq items n) (hsz:items.size=prs.length) (hln:prs.length≤sizeLine)
  (ht:∀ (j:Nat) (q:Key×Value),prs[j]?=some q→∃ (b:Addr) (u:Value),items[j]?=some (.ref b)∧IsTup s.heap b #[u,q.2]∧yW q.1 u=true)
  (h:∀ h' tk,h'.DictOf (gE prog w) s.heap.objs.size (merged [] prs)→(∀ b o,s.heap.get? b=some o→h'.get? b=some o)→Q (.ref s.heap.objs.size) { s with heap:=h',toks:=tk }) :
  wpAny (model prog w) A (call (.type "dict") [.ref l]) Q E s:=by
 refine callType_codes (Q₁:=fun obj s₁=>obj=.ref s.heap.objs.size∧s₁={ s with heap:=s.heap.push { cls:=.type "dict",data:=.dict #[] } }) PySem.F.kt_called_dict (PySem.F.kt_typeCall_dict_1 _) PySem.F.entry_dict_init (kt_code_dict_new _ ⟨rfl,rfl⟩) ?_
 rintro obj s₁ ⟨rfl,rfl⟩
 have hnew:(s.heap.push { cls:=.type "dict",data:=.dict #[] }).DictOf (gE prog w) s.heap.objs.size []:=Heap.DictOf.new s.heap
 have k0:∀ b o,s.heap.get? b=some o→(s.heap.push { cls:=.type "dict",data:=.dict #[] }).get? b=some o:=fun b o e=>Heap.get?_push_of_some _ e
 refine ⟨hnew.typeIs,PySem.F.args_dict_init_2 _ _,?_⟩
 unfold Builtin.«dict.__init__»
 refine wpAny_bind ?_
 unfold Builtin.Dict.selfAndRest
 refine wpAny_bind (wpAny_notOrdered_dict hnew.typeIs ?_)
 show wpAny _ _ (pure (s.heap.objs.size,[Value.ref l])) _ _ _
 refine wpAny_pure ?_
 show wpAny _ _ (Builtin.Dict.updateFrom "dict.__init__" s.heap.objs.size (.ref l) [] .none) _ _ _
 unfold Builtin.Dict.updateFrom
 refine wpAny_bind (wpAny_typeOf (T:="list") ⟨ol,k0 _ _ hl,hc⟩ ?_)
 rw [if_pos (by first | decide | rfl | simp)]
 refine wpAny_bind (dBS (k0 _ _ hl) hc hdat hd hh fun h1 tk1 hk1=>?_)
 rw [if_pos (show (none:Option Value).isNone=true from rfl)]
 refine wpAny_bind (wpAny_rule ?_)
 have hl1:h1.IsList l items:=⟨ol,hk1 _ _ (k0 _ _ hl),hc,n,hdat⟩
 have hS1:s.heap.objs.size < h1.objs.size:=by
  have e:(s.heap.push { cls:=.type "dict",data:=.dict #[] }).get? s.heap.objs.size=some { cls:=.type "dict",data:=.dict #[] }:=Heap.get?_push_size _ rfl
  exact Heap.lt_size (hk1 _ _ e)
 refine wpAny_bind (wpAny_pyIter_list hl1 ?_)
 have k2:∀ b o,h1.get? b=some o→(h1.push { cls:=.type "list_iterator",data:=.fields #[.ref l,.int 0 0] }).get? b=some o:=fun b o e=>Heap.get?_push_of_some _ e
 have hlt:l < s.heap.objs.size:=Heap.lt_size hl
 have key:=d9N (prog:=prog) (w:=w) (A:=A.in1) (R:=wants (fun r s₂=>r=.none∧Q (.ref s.heap.objs.size) s₂) E) (S:=s.heap.objs.size) (I:=h1.objs.size) (l:=l) (items:=items) (res:=Value.none) hh
  (Nat.ne_of_lt (Nat.lt_trans hlt hS1)) (Nat.ne_of_lt hS1) (Nat.ne_of_gt hlt) prs 0 [] 0 0
  { s with heap:=h1.push { cls:=.type "list_iterator",data:=.fields #[.ref l,.int 0 0] },toks:=tk1 } (by rw [hsz,Nat.zero_add]) (by rw [List.length_nil,Nat.zero_add];exact hln)
  (fun j q e=>by
   obtain ⟨b,u,e1,e2,e3⟩:=ht j q e
   have hb:b < s.heap.objs.size:=e2.lt
   exact ⟨b,u,by rw [Nat.zero_add];exact e1,Nat.ne_of_lt hb,Nat.ne_of_lt (Nat.lt_trans hb hS1),e2.keeps fun c o z=>k2 _ _ (hk1 _ _ (k0 _ _ z)),e3⟩)
  ⟨_,Heap.get?_push_size _ rfl,rfl,rfl⟩ (hl1.at fun o e=>k2 _ _ e) ((hnew.at fun o e=>hk1 _ _ e).at fun o e=>k2 _ _ e)
  (fun h' tk hd' k=>⟨rfl,h h' tk hd' fun b o e=>k b o (Nat.ne_of_lt (Heap.lt_size e)) (Nat.ne_of_lt (Nat.lt_trans (Heap.lt_size e) hS1)) (k2 _ _ (hk1 _ _ (k0 _ _ e)))⟩)
 first
  | exact wpAny_pure ⟨plainId_quiet ut _,key⟩
  | exact wpAny_bind (wpAny_pure (wpAny_pure ⟨plainId_quiet ut _,key⟩))
end
section
variable {X:Cx}
theorem d9I {pins:List (Addr×Obj)}{σ:St}{H:Hp}{s:Shared} (I:Inv X pins σ H s):∀ {ps:List Addr}{kvs:List (Key×V)},Paired (fun p kv=>SqT X.K H p [kV kv.1,kv.2]) ps kvs →
  ∃ prs:List (Key×Value),KV kvs prs∧prs.length=ps.length∧∀ (j:Nat) (q:Key×Value),prs[j]?=some q→∃ (b:Addr) (u:Value),ps[j]?=some b∧IsTup s.heap b #[u,q.2]∧yW q.1 u=true
 | _,_,.nil=>⟨[],.nil,rfl,fun j q e=>by simp at e⟩
 | _,_,.cons (a:=p) (b:=kv) h t=>by
  obtain ⟨prs,r,hl,hp⟩:=d9I I t
  obtain ⟨its,rv,ht,_⟩:=I.tuple h
  obtain ⟨u,y,ei,ru,ry⟩:=dGq rv
  subst ei
  refine ⟨(kv.1,y)::prs,.cons ⟨rfl,ry⟩ r,by rw [List.length_cons,List.length_cons,hl],fun j q e=>?_⟩
  cases j with
  | zero=>
   have e':(kv.1,y)=q:=Option.some.inj e
   subst e'
   exact ⟨p,u,rfl,ht,d82 (P:=X.prog) (w:=X.w) ru⟩
  | succ j=>
   obtain ⟨b,u',e1,e2,e3⟩:=hp j q (by simpa using e)
   exact ⟨b,u',by simpa using e1,e2,e3⟩
theorem dAg:∀ {ps:List Addr}{us:List Value},Vals (ps.map V.ref) us→us=ps.map Value.ref
 | [],us,r=>by
  rw [List.map_nil] at r
  cases r
  rfl
 | p::ps,us,r=>by
  rw [List.map_cons] at r
  cases r with
  | cons h t=>
   cases h
   rw [List.map_cons,←dAg t]
theorem dA7 (hcalm:X.calm=true):w9 X (.type "dict") (fun xs H Q=>∃ (a:Addr) (ps:List Addr) (kvs:List (Key×V)),xs=[.ref a]∧SqL X.K H a (ps.map V.ref)∧Paired (fun p kv=>SqT X.K H p [kV kv.1,kv.2]) ps kvs ∧
  ∀ p,H p=none→Q (.ref p) (upd H p (.dK (uK [] kvs)))):=by
 intro pins s σ H xs us Q I r q
 obtain ⟨a,ps,kvs,ex,hq,hp,q⟩:=q
 subst ex
 obtain ⟨u,eu,rx⟩:=dCo r
 subst eu
 cases rx
 obtain ⟨its,rv,pl,hz⟩:=I.list hq
 have ei:=dAg rv
 subst ei
 rw [List.length_map] at hz
 obtain ⟨prs,rel,hl,hpr⟩:=d9I I hp
 obtain ⟨o,n,ho,hc,hd,hdat⟩:=pl
 refine wL (prs:=prs) (I.ok.hd hcalm) ho hc hd hdat (by simp [hl]) (by rw [hl];exact hz) (fun j q' e=>?_) fun h' tk hd' k=>?_
 ·obtain ⟨b,u,e1,e2,e3⟩:=hpr j q' e
  exact ⟨b,u,by simp [e1],e2,e3⟩
 ·have hm:(s.heap.objs.size==sysModules)=false:=beq_eq_false_iff_ne.mpr (Nat.ne_of_gt I.big)
  have hlen:(uK [] kvs).length≤sizeLine:=by
   refine Nat.le_trans (uz kvs []) ?_
   rw [List.length_nil,Nat.zero_add,rel.length,hl]
   exact hz
  exact ⟨.ref s.heap.objs.size,upd H s.heap.objs.size (.dK (uK [] kvs)),I.laid (t':=tk) k (Nat.le_refl _) (show ObjOk X.prog X.w _ _ _ (.dK (uK [] kvs)) from ⟨hlen,hm,merged [] prs,KV.merge rel .nil,hd'⟩),rfl,q _ (I.hok.fresh (Nat.le_refl _))⟩
end
end L2
namespace L2
open PySem PySem.Spec PyProof.Rows
section
variable {X:Cx}{pins:List (Addr×Obj)}{σ:St}{H:Hp}{s:Shared}{h':Heap}
theorem Inv.turnedNew {t':Nat}{ch:List Addr}{T:Addr}{ob:HO} (I:Inv X pins σ H s) (k:∀ b o,b∉ch→s.heap.get? b=some o→h'.get? b=some o) (hf:∀ b∈ch,FpOk X pins H b) (hT:s.heap.objs.size≤T)
  (new:ObjOk X.prog X.w (upd H T ob) h' T ob):Inv X pins σ (upd H T ob) { s with heap:=h',toks:=t' }:=by
 have hn:H T=none:=I.hok.fresh hT
 have nit:∀ b u,H b=some u→b∉ch:=fun b u e z=>by
  have q:=(hf b z).1
  rw [q] at e;cases e
 refine I.step (g':=s.gens) (d':=s.drawn) (ch:=ch) (fun b hb=>⟨(hf b hb).2.2.2.1,(hf b hb).2.1,(hf b hb).2.2.2.2.1,(hf b hb).2.2.2.2.2⟩) (fun b o _ _ hc e _=>k b o hc e) (fun b o _ _ hc e _=>⟨o.slots,k b o hc e⟩)
  (fun b o _ e n=>?_) (fun b o hc e=>⟨o,k b o hc e⟩) (fun b xs e=>?_) (fun b o u e=>?_) (fun b ps e=>⟨#[],?_⟩) (fun m hm=>?_) (fun b u e=>?_) I.bare
 ·rw [d8 (Nat.ne_of_lt (Nat.lt_of_lt_of_le (Heap.lt_size e) hT))];exact n
 ·rw [d8 (dC e hn)];exact e
 ·rw [d8 (dC e hn)];exact e
 ·rw [d8 (dC e hn),e];simp
 ·obtain ⟨o,es,ep,ho,r⟩:=hm
  exact ⟨o,es,ep,k _ o (fun z=>(hf _ z).2.1 rfl) ho,r⟩
 ·by_cases hb:b=T
  ·subst hb
   rw [d9] at e
   cases e
   exact new
  ·rw [d8 hb] at e
   refine (I.hok b u e).stay (fun c v hc q=>k c v ?_ q) (fun c q=>by rw [d8 (dC q hn)];exact q) fun c xs q=>by rw [d8 (dC q hn)];exact q
   rcases hc with z | z
   ·rw [z];exact nit b u e
   ·exact nit c _ z
end
section
variable {X:Cx}
theorem dE2 {tg:Expr}{pins:List (Addr×Obj)}{σ:St}{H:Hp}{s:Shared}{R:It→Hp→Prop}{J:It}{tn:Nat→Heap→Prop}{tk:Nat} (I:Inv X pins σ H s) (o:Obj)
  (T:Turn X.prog X.w X.K tg J [s.heap.objs.size] s.heap.objs.size tn) (st:tn 0 (s.heap.push o)) (q:R J H):PIE X pins σ tg R (.ref s.heap.objs.size) { s with heap:=s.heap.push o,toks:=tk }:=by
 refine ⟨s.heap.objs.size,[s.heap.objs.size],tn,J,H,rfl,I.kept fun b ob e=>Heap.get?_push_of_some _ e,T,st,fun b hb=>?_,q⟩
 have e:b=s.heap.objs.size:=by simpa using hb
 subst e
 exact I.fpOk (Nat.le_refl _) (I.hok.fresh (Nat.le_refl _))
end
def Its (x:Str):It:=⟨fun i _=>i < x.cps.size,fun i H v H'=>H'=H∧∃ c,x.cps[i]?=some c∧v=.str ⟨#[c]⟩,fun i _=>x.cps.size≤i⟩
theorem d9j {P:Program}{w:World}{K:PySem.W.Frag}{tg:Expr} (it:Addr) (x:Str) (t:Tok) (ty:String) (hty:ty="str_ascii_iterator"∨ty="str_iterator") :
  Turn P w K tg (Its x) [it] it (fun i h=>h.IsStrIter it ty x t i) where
 mem:=by simp
 obj:=fun i h st b hb=>by
  have e:b=it:=by simpa using hb
  subst e
  obtain ⟨o,e,c,d⟩:=st
  exact ⟨o,e,fun v z=>by rw [d] at z;cases z⟩
 keep:=fun i h h' st k=>let ⟨o,ho,r⟩:=st;⟨o,k it (by simp) o ho,r⟩
 item:=by
  intro X hP hw hK hc i pins s σ H E I hf st hg
  subst hP hw hK
  obtain ⟨f0,f1,f2,f3,f4,f5⟩:=hf it (by simp)
  have W:Walks X.prog X.w X.A it [it] [it] x.cps.size (SignAt x) (fun i h=>h.IsStrIter it ty x t i):=by
   rcases hty with e | e
   ·rw [e];exact Walks.strAscii (I.ok.hd hc) it x t
   ·rw [e];exact Walks.strWide (I.ok.hd hc) it x t
  have hno:["enumerate","zip","dict_itemiterator","dict_reverseitemiterator","odict_iterator","itertools.zip_longest","itertools.pairwise"].contains ty=false:=by
   rcases hty with e | e
   ·rw [e];decide
   ·rw [e];decide
  refine W.item i s _ _ hg st fun v h' tk hv st' kk=>?_
  obtain ⟨c,u,hcx,rfl⟩:=hv
  have I1:Inv X pins σ H { s with heap:=h',toks:=tk }:=I.turned (fun b o hb e=>kk b o (by simpa using hb) e) f0 f1 f3 f4 f5
  obtain ⟨oi,e,cc,dd⟩:=id st'
  exact ⟨_,rfl,dDR (s:={ s with heap:=h',toks:=tk }) e cc dd hno ⟨.str ⟨#[c]⟩,H,I1,⟨u,rfl⟩,⟨rfl,c,hcx,rfl⟩,st',fun b hb=>(hf b hb).1⟩⟩
 done:=by
  intro X hP hw hK hc i pins s σ H E I hf st hg
  subst hP hw hK
  obtain ⟨f0,f1,f2,f3,f4,f5⟩:=hf it (by simp)
  have hx:x.cps[i]?=none:=Array.getElem?_eq_none hg
  rcases hty with e | e
  ·rw [e] at st
   exact wpAny_pyNext_ascii_end (I.ok.hd hc) st hx fun h' eb=>⟨rfl,I.turned (t':=s.toks) (fun b o hb e=>eb b o hb e) f0 f1 f3 f4 f5⟩
  ·rw [e] at st
   exact wpAny_pyNext_wide_end (I.ok.hd hc) st hx fun h' eb=>⟨rfl,I.turned (t':=s.toks) (fun b o hb e=>eb b o hb e) f0 f1 f3 f4 f5⟩
 self:=fun A i s Q E st h=>by
  rcases hty with e | e
  ·rw [e] at st;exact wpAny_pyIter_striter_ascii st h
  ·rw [e] at st;exact wpAny_pyIter_striter_wide st h
def iStr (te:TE):TI:=fun σ H R=>te σ H fun v H1=>∃ x,v=.str x∧R (Its x) H1
theorem dGC {X:Cx}{tg e:Expr}{te:TE} (he:PE X e te):PI X tg e (iStr te):=by
 intro pins s σ H R I h
 refine thn (he pins s σ H _ I h) fun v s1 ⟨y,H1,I1,r1,x,ex,q⟩=>?_
 subst ex
 obtain ⟨t,rfl⟩:=r1
 cases ha:x.cps.all (· < 128)
 ·exact wpAny_pyIter_wide ha (dE2 (tk:=s1.toks) I1 _ (d9j _ x t "str_iterator" (.inr rfl)) ⟨_,Heap.get?_push_size _ rfl,rfl,rfl⟩ q)
 ·exact wpAny_pyIter_ascii ha (dE2 (tk:=s1.toks) I1 _ (d9j _ x t "str_ascii_iterator" (.inl rfl)) ⟨_,Heap.get?_push_size _ rfl,rfl,rfl⟩ q)
end L2
section
namespace Bits
open PySem PyProof.Rows
end Bits
end
section
namespace TL
open PySem PySem.Builtin PySem.Builtin.Str PySem.StrLaws
abbrev tl (x:Str):List Nat:=x.cps.toList
theorem ext_tl {x y:Str} (h:tl x=tl y):x=y:=Str.ext' (Array.toList_inj.mp h)
theorem d5a (x y:Str):tl (x++y)=tl x++tl y:=by
 show (x++y).cps.toList=_
 rw [Str.cps_append,Array.toList_append]
def joinL (S:List Nat):List (List Nat)→List Nat
 | []=>[]
 | [p]=>p
 | p::q::r=>p++(S++joinL S (q::r))
theorem tl_join (y:Str):∀ parts:List Str,tl (Str.join y parts)=joinL (tl y) (parts.map tl)
 | []=>rfl
 | [_]=>rfl
 | x::z::r=>by
  show tl (x++y++Str.join y (z::r))=tl x++(tl y++joinL (tl y) ((z::r).map tl))
  rw [d5a,d5a,tl_join y (z::r),List.append_assoc]
theorem join_eq (y:Str) (parts:List Str):Txt.join y parts=Str.join y parts:=glued_eq_join y parts
end TL
end
namespace L2
open PySem PySem.Spec PyProof.Rows
theorem ki:∀ {ys:List Str}{us:List Value},Vals (ys.map V.str) us→StrsAre us ys
 | [],_,.nil=>.nil
 | y::ys,_,.cons r t=>by
  obtain ⟨k,rfl⟩:=r
  exact .cons y k (ki t)
section
variable {X:Cx}
theorem dEW:MtR X "str.join" (fun x xs H Q=>∃ a p,∃ ys:List Str,x=.str a∧xs=[.ref p]∧(SqL X.K H p (ys.map V.str)∨SqT X.K H p (ys.map V.str)) ∧
  (ys.map (·.length)).sum+ys.length*a.length≤16777216∧Q (.str (Txt.join a ys)) H):=by
 intro pins s σ H x xs v us Q I rx rs h
 obtain ⟨a,p,ys,rfl,rfl,hp,hz,h⟩:=h
 obtain ⟨t,rfl⟩:=rx
 cases rs with
 | cons r1 rs=>
  cases rs
  cases r1
  rcases hp with hp | hp
  ·obtain ⟨its,r,⟨o,n,ho,hc,_,hd⟩,_⟩:=I.list hp
   exact PyProof.Rows.join_list (items:=its.toArray) ⟨o,ho,hc,n,hd⟩ (by rw [List.toList_toArray];exact ki r) hz fun t' k=>⟨.str _,H,I.tok k,⟨t',rfl⟩,h⟩
  ·obtain ⟨its,r,ht,_⟩:=I.tuple hp
   exact PyProof.Rows.join_tuple (items:=its.toArray) ht (by rw [List.toList_toArray];exact ki r) hz fun t' k=>⟨.str _,H,I.tok k,⟨t',rfl⟩,h⟩
theorem jl:w9 X (.type "int") (fun xs H Q=>∃ a n,xs=[.str a]∧PySem.intText? a=some n∧a.length≤640∧Q (.int n) H):=by
 intro pins s σ H xs us Q I rs h
 obtain ⟨a,n,rfl,hn,hl,h⟩:=h
 cases rs with
 | cons r1 rs=>
  cases rs
  obtain ⟨t,rfl⟩:=r1
  exact PySem.W.KIN.call_text hn hl ⟨.int n,H,I.tok _,⟨_,rfl⟩,h⟩
end
section
variable {X:Cx}{o e:Expr}{to te:TE}
def tM1 (r:V→List V→Hp→VK→Prop) (to te:TE):TE:=fun σ H Q=>to σ H fun x H1=>(∃ a,x=.str a)∧te σ H1 fun y H2=>r x [y] H2 Q
theorem dGi {id:String}{name:Str}{apos pos:Pos}{r:V→List V→Hp→VK→Prop} (slot:Slot "str" name id) (ty:typeOf (.builtin id)=pure (.type "method_descriptor")) (rule:MtR X id r) (ho:PE X o to) (he:PE X e te)
  (hs:starEach [e] X.env=[(false,eval e X.env)]:=by rfl) (hbase:attributeBase o name X.env (eval o X.env)=eval o X.env:=by rfl) (hline:(apos.endLine==pos.line)=true:=by rfl) :
  PE X (.Call (.Attribute o name apos) [e] [] pos) (tM1 r to te):=by
 intro pins s σ H Q I h
 refine PySem.Call_method1 hbase hs hline (thn (ho pins s σ H _ I h) fun v s1 ⟨x,H1,I1,r1,q1⟩=>?_)
 obtain ⟨⟨a,rfl⟩,q1⟩:=q1
 obtain ⟨t,rfl⟩:=_root_.id r1
 refine ⟨"str",_,F.plainAttrs_str,slot,ty,typeIs_str _ _ _,(fun _ e=>nomatch e),Calls.callWith_builtin rfl (Calls.evalArgs_plain (Calls.spliced_cons ?_))⟩
 exact thn (he pins s1 σ H1 _ I1 q1) fun u s2 ⟨y,H2,I2,r2,q2⟩=>Calls.spliced_nil (rule pins s2 σ H2 _ [y] _ [u] Q I2 r1 (.cons r2 .nil) q2)
theorem dFC {apos pos:Pos} (ho:PE X o to) (he:PE X e te) (hs:starEach [e] X.env=[(false,eval e X.env)]:=by rfl) (hbase:attributeBase o "join" X.env (eval o X.env)=eval o X.env:=by rfl) (hline:(apos.endLine==pos.line)=true:=by rfl) :
  PE X (.Call (.Attribute o "join" apos) [e] [] pos) (tM1 (fun x xs H Q=>∃ a p,∃ ys:List Str,x=.str a∧xs=[.ref p]∧(SqL X.K H p (ys.map V.str)∨SqT X.K H p (ys.map V.str)) ∧
   (ys.map (·.length)).sum+ys.length*a.length≤16777216∧Q (.str (Txt.join a ys)) H) to te):=
 dGi F.slot_str_join F.type_str_join dEW ho he hs hbase hline
end
end L2
namespace L2
open PySem PySem.Spec PyProof.Rows
section
variable {X:Cx}
theorem kC:OpR X (compareOp .In) (fun x y H Q=>∃ (c:Nat) (z:Str),x=.str ⟨#[c]⟩∧y=.str z∧Q (.bl (decide (c∈z.cps.toList))) H):=by
 intro pins s σ H x y v u Q I rx ry h
 obtain ⟨c,z,rfl,rfl,q⟩:=h
 obtain ⟨t,rfl⟩:=rx
 obtain ⟨t',rfl⟩:=ry
 exact PyProof.Rows.in_str (dw I q (PySem.StrLaws.found_one z c).symm)
theorem yr:OpR X (compareOp .NotIn) (fun x y H Q=>∃ (c:Nat) (z:Str),x=.str ⟨#[c]⟩∧y=.str z∧Q (.bl (!decide (c∈z.cps.toList))) H):=by
 intro pins s σ H x y v u Q I rx ry h
 obtain ⟨c,z,rfl,rfl,q⟩:=h
 obtain ⟨t,rfl⟩:=rx
 obtain ⟨t',rfl⟩:=ry
 exact PyProof.Rows.notIn_str (dw I q (congrArg Bool.not (PySem.StrLaws.found_one z c).symm))
end
theorem IsPart.raw {v:Value}{o:Option Int} (p:IsPart v o):∃ l:Option (Int×Tok),v=partValue l∧l.map (·.1)=o:=by
 cases p with
 | none=>exact ⟨none,rfl,rfl⟩
 | int i t=>exact ⟨some (i,t),rfl,rfl⟩
def dBi (n d:Nat):Option Int→Int
 | none=>(d:Int)
 | some i=>max 0 (min (if i < 0 then i+(n:Int) else i) (n:Int))
theorem d9M (n d:Nat) (o:Option Int):dBi n d o=((HT.sIx n d o:Nat):Int):=by
 cases o with
 | none=>rfl
 | some v=>
  show max (0:Int) (min (if v < 0 then v+(n:Int) else v) (n:Int))=(((if v < 0 then (v+(n:Int)).toNat else min v.toNat n):Nat):Int)
  by_cases hv:v < 0
  ·simp only [if_pos hv]
   omega
  ·simp only [if_neg hv]
   omega
theorem dBC (a b:Option Int) (n:Nat):Builtin.Str.strSliceIndices a b 1 n=sliceRange (dBi n 0 a) (dBi n n b) 1:=by
 have h1:((1:Int) > 0)=True:=by simp
 cases a <;> cases b <;> first
  | rfl
  | (simp only [Builtin.Str.strSliceIndices,dBi,h1,if_true];rfl)
  | simp [Builtin.Str.strSliceIndices,dBi]
theorem sidx (a b:Option Int) (n:Nat):Builtin.Str.strSliceIndices a b 1 n=(List.range (HT.sIx n n b-HT.sIx n 0 a)).map (fun k=>HT.sIx n 0 a+k):=by
 rw [dBC,d9M,d9M]
 generalize HT.sIx n 0 a=p
 generalize HT.sIx n n b=q
 simp only [sliceRange,show ((1:Int) > 0)=True from by simp,if_true]
 by_cases hlt:(p:Int) < q
 ·have e3:(((q:Int)-p+1-1) / 1).toNat=q-p:=by first | omega | (simp;done) | (simp;omega)
  simp only [hlt,if_true,e3]
  refine List.map_congr_left fun k _=>?_
  omega
 ·have:q-p=0:=by omega
  simp [hlt,this]
def cutS (z:Str) (lo hi:Option Int):Str:=
 ⟨((z.cps.toList.drop (HT.sIx z.length 0 lo)).take (HT.sIx z.length z.length hi-HT.sIx z.length 0 lo)).toArray⟩
theorem uf (z:Str) (lo hi:Option Int):PySem.StrLaws.sliceText z lo hi=cutS z lo hi:=by
 have h1:HT.sIx z.length 0 lo≤z.length:=HT.sIx_le _ _ (Nat.zero_le _) _
 have h2:HT.sIx z.length z.length hi≤z.length:=HT.sIx_le _ _ (Nat.le_refl _) _
 have hp:HT.sIx z.length 0 lo≤max (HT.sIx z.length 0 lo) (HT.sIx z.length z.length hi):=Nat.le_max_left _ _
 have hq:max (HT.sIx z.length 0 lo) (HT.sIx z.length z.length hi)≤z.length:=Nat.max_le.mpr ⟨h1,h2⟩
 have hd:max (HT.sIx z.length 0 lo) (HT.sIx z.length z.length hi)-HT.sIx z.length 0 lo=HT.sIx z.length z.length hi-HT.sIx z.length 0 lo:=by omega
 have e:Builtin.Str.strSliceIndices lo hi 1 z.length =
   Builtin.Str.strSliceIndices (some ((HT.sIx z.length 0 lo:Nat):Int)) (some ((max (HT.sIx z.length 0 lo) (HT.sIx z.length z.length hi):Nat):Int)) 1 z.length:=by
  rw [PySem.StrLaws.strSliceIndices_plain hp hq,hd,sidx]
 have e2:PySem.StrLaws.sliceText z lo hi =
   PySem.StrLaws.sliceText z (some ((HT.sIx z.length 0 lo:Nat):Int)) (some ((max (HT.sIx z.length 0 lo) (HT.sIx z.length z.length hi):Nat):Int)):=by
  unfold PySem.StrLaws.sliceText
  rw [e]
 rw [e2,PySem.StrLaws.sliceText_nat z hp hq,hd]
 rfl
theorem d8V (z:Str) (lo hi:Option Int):(cutS z lo hi).length≤z.length:=by
 show (((z.cps.toList.drop (HT.sIx z.length 0 lo)).take (HT.sIx z.length z.length hi-HT.sIx z.length 0 lo)).toArray).size≤z.cps.size
 rw [List.size_toArray,List.length_take,List.length_drop,Array.length_toList]
 omega
def rSlS:V→Option Int→Option Int→Hp→VK→Prop:=fun x lo hi H Q=>∃ z,x=.str z∧z.length≤sizeLine∧Q (.str (cutS z lo hi)) H
theorem dGQ {X:Cx}:SlR X rSlS:=by
 intro pins s σ H x v vl vu lo hi sl Q I rx hs pl pu h
 obtain ⟨z,rfl,hz,q⟩:=h
 obtain ⟨t,rfl⟩:=rx
 obtain ⟨os,hos,hcs,hds⟩:=hs
 obtain ⟨l,rfl,rfl⟩:=IsPart.raw pl
 obtain ⟨u,rfl,rfl⟩:=IsPart.raw pu
 refine ⟨"str",_,F.slot_str_getitem.lookup,typeIs_str _ _ _,?_⟩
 refine wpAny_getItem_str_slice (l:=l) (u:=u) (st:=none) ⟨os,hos,hcs,hds⟩ rfl ?_
 have hl:(PySem.StrLaws.sliceText z (l.map (·.1)) (u.map (·.1))).length≤sizeLine:=by
  rw [uf]
  exact Nat.le_trans (d8V z _ _) hz
 rw [←uf] at q
 unfold PySem.StrLaws.sliceText at q hl
 show Made.post (if ((1:Int)==1&&(Builtin.Str.strSliceIndices (l.map (·.1)) (u.map (·.1)) 1 z.length).length==z.length)=true then Made.val (.str z t)
  else Made.str ⟨((Builtin.Str.strSliceIndices (l.map (·.1)) (u.map (·.1)) 1 z.length).filterMap (z.cps[·]?)).toArray⟩) (EP X pins σ Q) s
 by_cases c:((1:Int)==1&&(Builtin.Str.strSliceIndices (l.map (·.1)) (u.map (·.1)) 1 z.length).length==z.length)=true
 ·rw [if_pos c] at q ⊢
  exact ⟨.str z,H,I,⟨t,rfl⟩,q⟩
 ·rw [if_neg c] at q hl ⊢
  exact ⟨hl,.str _,H,I.tok _,⟨_,rfl⟩,q⟩
end L2
namespace Att
open PySem PySem.W PySem.Calls PyProof.Rows
theorem ints_of_wellAll {P:Params}{h:Heap}:∀ (ns:List Int) (vs:List Value),WellAll P h vs (ns.map WData.int)→IntsAre vs ns:=by
 intro ns
 induction ns with
 | nil=>
  intro vs w
  rw [List.map_nil] at w
  cases w
  exact .nil
 | cons n ns ih=>
  intro vs w
  rw [List.map_cons] at w
  cases w with
  | cons a b=>
   cases a
   exact .cons _ _ (ih _ b)
end Att
namespace L2
open PySem PySem.Spec PyProof.Rows
theorem ke:∀ {vs:List Value}{ns:List Int},IntsAre vs ns→Vals (ns.map V.int) vs
 | _,_,.nil=>.nil
 | _,_,.cons n t h=>.cons ⟨t,rfl⟩ (ke h)
end L2
namespace L2
open PySem PySem.Spec PyProof.Rows
abbrev KOf {K:PySem.W.Frag}{h:Heap} (_:K.In h):PySem.W.Frag:=K
end L2
namespace L2
open PySem PySem.Spec PyProof.Rows
def dv (s:Stmt) (j:Nat):Stmt:=match s with
 | .ClassDef _ _ _ body _ _ _ _ _ _ _=>body.getD j (.Pass ⟨0,0,0,0⟩)
 | _=>.Pass ⟨0,0,0,0⟩
def gW (s:Stmt):Arguments:=match s with
 | .FunctionDef _ a _ _ _ _ _ _ _ _=>a
 | _=>{ posonlyargs:=[],args:=[],vararg:=none,kwonlyargs:=[],kw_defaults:=[],kwarg:=none,defaults:=[] }
def gC (s:Stmt):List Stmt:=match s with
 | .FunctionDef _ _ b _ _ _ _ _ _ _=>b
 | _=>[]
def dB (s:Stmt):Scope:=match s with
 | .FunctionDef _ _ _ _ _ _ sc _ _ _=>sc
 | _=>{ kind:=.function,names:=[],isGenerator:=false,isCoroutine:=false }
abbrev E0:XK:=fun _ _ _=>False
structure Fun (K:PySem.W.Frag) (x qual:Str) (st:Stmt) (f:Addr) (fd:FuncData):Prop where
 ex:∃ (oc:Value) (od:Option Addr) (kV doc pm:Value) (an:Option Addr) (cdv ct:Value) (osl:Array (Option Value)),
  fd=PySem.W.fnOf x qual (gW st) (gC st) (dB st) .none kV doc pm an cdv ct∧K.lookup f=some ⟨oc,od,.func fd,osl⟩∧PySem.W.codeIn K cdv qual=true
 kp:PySem.W.keepIn K (.ref f)=true
section
variable {P:Program}{w:World}{K:PySem.W.Frag}{mg:Str→Option Value}{base:Heap}
theorem Fun.binds {x qual:Str}{st:Stmt}{f:Addr}{fd:FuncData}{ps:List Str} (F:Fun K x qual st f fd)
  (h:∀ (kV doc pm:Value) (an:Option Addr) (cdv ct:Value) (us:List Value),us.length=ps.length→bindArgs (PySem.W.fnOf x qual (gW st) (gC st) (dB st) .none kV doc pm an cdv ct) ⟨us,[]⟩=pure (ps.zip us)):Binds K fd ps []:=by
 obtain ⟨oc,od,kV,doc,pm,an,cdv,ct,osl,rfl,lk,hcd⟩:=F.ex
 exact .all (h kV doc pm an cdv ct)
theorem d6j {x qual:Str}{st:Stmt}{f:Addr}{oc:Value}{od an:Option Addr}{osl:Array (Option Value)}{kV doc pm cdv ct:Value} (l:K.lookup f=some ⟨oc,od,.func (PySem.W.fnOf x qual (gW st) (gC st) (dB st) .none kV doc pm an cdv ct),osl⟩)
  (c:PySem.W.codeIn K cdv qual=true) (k:PySem.W.keepIn K (.ref f)=true):Fun K x qual st f (PySem.W.fnOf x qual (gW st) (gC st) (dB st) .none kV doc pm an cdv ct):=⟨⟨oc,od,kV,doc,pm,an,cdv,ct,osl,rfl,l,c⟩,k⟩
end
theorem d8j {A:Around}{k:Nat} (hr:Room k A):A.units+1 < cLine:=Nat.lt_of_le_of_lt (Nat.add_le_add_left (by decide:1≤64) _) hr.units
section
variable {X:Cx}
theorem pv (i:Nat) {x:Str}{pos:Pos} (hN:X.N[i]?=some x:=by rfl) (hv:Vis X.env.scope x:=by first | exact Or.inl rfl | exact Or.inr (Or.inl rfl) | exact Or.inr (Or.inr rfl)) (hd:(x==("__debug__":Str))=false:=by decide)
  (hcd:(x==("__classdict__":Str))=false:=by decide):PE X (.Name x pos) (tVar i):=dBd hN hv hd hcd
end
theorem iteF {A B:Prop} (h:B):if false=true then A else B:=by
 rw [if_neg Bool.false_ne_true]
 exact h
theorem iteT {A B:Prop} (h:A):if true=true then A else B:=by
 rw [if_pos rfl]
 exact h
theorem ite2 {c A B:Prop} [Decidable c] (h1:c→A) (h2:¬ c→B):if c then A else B:=by
 by_cases h:c
 ·rw [if_pos h]
  exact h1 h
 ·rw [if_neg h]
  exact h2 h
def Same (H H':Hp):Prop:=∀ b o,H b=some o→H' b=some o
theorem Same.refl (H:Hp):Same H H:=fun _ _ h=>h
theorem Same.trans {H H1 H2:Hp} (a:Same H H1) (b:Same H1 H2):Same H H2:=fun c o h=>b c o (a c o h)
theorem Same.free {H H':Hp} (e:Same H H') {l:Addr} (h:H' l=Option.none):H l=Option.none:=by
 cases q:H l with
 | none=>rfl
 | some o=>
  rw [e l o q] at h
  cases h
theorem Same.seq {K:PySem.W.Frag}{H H':Hp}{a:Addr}{xs:List V} (e:Same H H') (h:SqL K H a xs):SqL K H' a xs:=by
 rcases h with (h | ⟨o,h⟩) | h
 ·exact .inl (.inl (e _ _ h))
 ·exact .inl (.inr ⟨o,e _ _ h⟩)
 ·exact .inr h
section
variable {κ:Type} [DecidableEq κ]
theorem dCM:∀ {l:List κ}{k:κ},l.Nodup→¬ k∈l→(l++[k]).Nodup
 | [],k,_,_=>by simp
 | a::r,k,h,hk=>by
  obtain ⟨h1,h2⟩:=List.nodup_cons.mp h
  show (a::(r++[k])).Nodup
  refine List.nodup_cons.mpr ⟨fun m=>?_,dCM h2 fun m=>hk (List.mem_cons.mpr (Or.inr m))⟩
  rcases List.mem_append.mp m with q | q
  ·exact h1 q
  ·exact hk (List.mem_cons.mpr (Or.inl (List.mem_singleton.mp q).symm))
end
theorem uP {xs:List V}{z:Int}{j:Nat}{v:V} (e:z=(j:Int)) (h:xs[j]?=some v):atI xs z=some v:=by
 rw [e]
 exact ku h
theorem Same.made {H H1:Hp}{x dx C:Addr} (nx:H x=Option.none) (nd:H dx=Option.none) (k:∀ b o,(upd (upd H dx (.own x)) x (.ins C dx [])) b=some o→b≠x→H1 b=some o):Same H H1:=fun b o e=>
 k b o (by rw [d8 (dC e nx),d8 (dC e nd)];exact e) (dC e nx)
end L2
end
section
set_option linter.all false
namespace Xc
open PySem
def DK (h h':Heap):Prop:=∀ b o,h.get? b=some o→∃ o',h'.get? b=some o'∧o'.dict=o.dict∧o'.cls=o.cls
theorem DK.refl (h:Heap):DK h h:=fun _ o e=>⟨o,e,rfl,rfl⟩
theorem DK.trans {a b c:Heap} (x:DK a b) (y:DK b c):DK a c:=fun d o e=>by
 obtain ⟨o1,e1,d1,c1⟩:=x d o e
 obtain ⟨o2,e2,d2,c2⟩:=y d o1 e1
 exact ⟨o2,e2,d2.trans d1,c2.trans c1⟩
structure Kd {α:Type} (t:Sem α):Prop where
 out:∀ (M:Model) (G:Ctx) (P:α→Pos→Shared→Prop) (Ee:Value→Pos→Shared→Prop) (p:Pos) (s:Shared),
  Sem.wp M G t P Ee p s→Sem.wp M G t (fun a p' s'=>P a p' s'∧DK s.heap s'.heap) Ee p s
theorem Kd.pure {α:Type} (a:α):Kd (Pure.pure a:Sem α):=⟨fun _ _ _ _ _ s h=>⟨h,DK.refl _⟩⟩
theorem Kd.unsup {α:Type} (w:String):Kd (PySem.unsupported w:Sem α):=⟨fun _ _ _ _ _ _ h=>h⟩
theorem Kd.bind {α β:Type}{m:Sem α}{f:α→Sem β} (hm:Kd m) (hf:∀ a,Kd (f a)):Kd (m >>= f):=⟨fun M G P Ee p s h=>by
 rw [Sem.wp_bind'] at h
 rw [Sem.wp_bind']
 refine Sem.wp_mono M G m (fun a p' s' h'=>?_) (fun _ _ _ x=>x) p s (hm.out M G _ Ee p s h)
 exact Sem.wp_mono M G (f a) (fun b p'' s'' h''=>⟨h''.1,h'.2.trans h''.2⟩) (fun _ _ _ x=>x) p' s' ((hf a).out M G P Ee p' s' h'.1)⟩
theorem Kd.cond {α:Type}{c:Prop} [Decidable c] {t u:Sem α} (ht:Kd t) (hu:Kd u):Kd (if c then t else u):=by split <;> assumption
theorem Kd.ld (a:Addr):Kd (PySem.load a):=⟨fun M G P Ee p s h=>by
 unfold PySem.load at h ⊢
 rw [Sem.wp_load] at h ⊢
 obtain ⟨o,e,q⟩:=h
 exact ⟨o,e,q,DK.refl _⟩⟩
theorem Kd.stk:Kd PySem.stack:=⟨fun M G P Ee p s h=>by
 unfold PySem.stack at h ⊢
 rw [Sem.wp_stack] at h ⊢
 exact ⟨h,DK.refl _⟩⟩
theorem DK.upd {h:Heap}{a:Addr}{f:Obj→Obj} (hf:∀ o,(f o).dict=o.dict∧(f o).cls=o.cls∧(o.isFreed=false→(f o).isFreed=false)):DK h (h.update a f):=fun b o e=>by
 by_cases hb:b=a
 ·subst hb
  have hfr:=(Heap.get?_some_iff.mp e).2
  exact ⟨f o,Heap.get?_update_self _ e ((hf o).2.2 hfr),(hf o).1,(hf o).2.1⟩
 ·exact ⟨o,(Heap.get?_update_ne _ _ _ _ hb).trans e,rfl,rfl⟩
theorem DK.push (h:Heap) (o:Obj):DK h (h.push o):=fun b u e=>⟨u,Heap.get?_push_of_some _ e,rfl,rfl⟩
theorem Kd.upd (a:Addr) (f:Obj→Obj) (hf:∀ o,(f o).dict=o.dict∧(f o).cls=o.cls∧(o.isFreed=false→(f o).isFreed=false)):Kd (PySem.update a f):=⟨fun M G P Ee p s h=>by
 unfold PySem.update at h ⊢
 rw [Sem.wp_update] at h ⊢
 exact ⟨h.1,h.2,DK.upd hf⟩⟩
theorem Kd.alloc (o:Obj):Kd (PySem.alloc o):=⟨fun M G P Ee p s h=>by
 unfold PySem.alloc at h ⊢
 rw [Sem.wp_alloc] at h ⊢
 exact ⟨h,DK.push _ _⟩⟩
theorem wb (g:Array Value→Array Value) (o:Obj):(Obj.mapFields g o).dict=o.dict∧(Obj.mapFields g o).cls=o.cls∧(o.isFreed=false→(Obj.mapFields g o).isFreed=false):=by
 obtain ⟨c,d,dt,sl⟩:=o
 cases dt <;> exact ⟨rfl,rfl,fun h=>h⟩
theorem Kd.fld (v:Value) (i:Nat):Kd (PySem.field v i):=⟨fun M G P Ee p s h=>by
 rw [wp_field_iff] at h ⊢
 obtain ⟨a,o,vs,x,e1,e2,e3,e4,q⟩:=h
 exact ⟨a,o,vs,x,e1,e2,e3,e4,q,DK.refl _⟩⟩
theorem Kd.setFld (v:Value) (i:Nat) (x:Value):Kd (PySem.setField v i x):=⟨fun M G P Ee p s h=>by
 rw [wp_setField_iff] at h ⊢
 obtain ⟨a,o,vs,e1,e2,e3,e4,q⟩:=h
 exact ⟨a,o,vs,e1,e2,e3,e4,q,DK.upd fun o=>wb _ o⟩⟩
theorem dDU:Kd underTheClaimsCaller:=by
 unfold underTheClaimsCaller
 repeat' with_reducible first
  | assumption | exact Kd.pure _ | exact Kd.unsup _ | exact Kd.fld _ _ | exact Kd.setFld _ _ _ | exact Kd.ld _ | exact Kd.stk | exact Kd.alloc _ | apply Kd.cond | apply Kd.bind | intro _ | split
theorem dBO (env:Env) (outer:List Env):Kd (behindIsImport env outer):=by
 unfold behindIsImport
 repeat' with_reducible first
  | assumption | exact Kd.pure _ | exact Kd.unsup _ | exact Kd.fld _ _ | exact Kd.setFld _ _ _ | exact Kd.ld _ | exact Kd.stk | exact Kd.alloc _ | apply Kd.cond | apply Kd.bind | intro _ | split
theorem dEu (env:Env) (i:Bool) (l:List Env):Kd (keptBack env i l):=by
 have:=dDU
 cases l <;> unfold keptBack <;> repeat' with_reducible first
  | assumption | exact Kd.pure _ | exact Kd.unsup _ | exact Kd.fld _ _ | exact Kd.setFld _ _ _ | exact Kd.ld _ | exact Kd.stk | exact Kd.alloc _ | apply Kd.cond | apply Kd.bind | intro _ | split
theorem d9k:∀ l:List Env,Kd (readyFrames l)
 | []=>Kd.pure _
 | env::outer=>by
  have ih:=d9k outer
  have h1:=dBO env outer
  have h2:=fun i=>dEu env i outer
  unfold readyFrames
  cases hf:env.frame with
  | none=>exact Kd.unsup _
  | some f=>
   dsimp only
   refine Kd.bind (Kd.ld _) fun o=>Kd.cond (Kd.pure _) (Kd.bind h1 fun i=>Kd.bind (h2 i) fun b=>Kd.bind (Kd.upd _ _ fun o=>⟨rfl,rfl,fun h=>by obtain ⟨c,d,dt,sl⟩:=o;cases dt <;> first | rfl | exact h⟩) fun _=>ih)
theorem wj (l:List Env):Kd (frameObject l):=by
 cases l with
 | nil=>exact Kd.pure _
 | cons env outer=>exact Kd.bind (d9k _) fun _=>Kd.pure _
theorem d9y (env:Env):Kd (frameOf env):=by
 unfold frameOf frameEnvs
 refine Kd.bind (Kd.bind Kd.stk fun _=>Kd.pure _) fun l=>Kd.bind (wj _) fun o=>?_
 cases o with
 | none=>exact Kd.unsup _
 | some f=>exact Kd.pure _
theorem yV (f:Addr) (b:Bool):Kd (entryPlaceOf f b):=by
 unfold entryPlaceOf
 refine Kd.bind Kd.stk fun acts=>?_
 split <;> exact Kd.pure _
theorem d89 (a b c d e:Value) (pl:List Value):Kd (EntryCells.newEntry a b c d e pl):=by
 unfold EntryCells.newEntry newFields newObj
 dsimp only
 have last:∀ d:Data,Kd (newObjAsIs (Value.type "traceback") d):=fun d=>by
  unfold newObjAsIs
  exact Kd.bind (Kd.alloc _) fun _=>Kd.pure _
 exact Kd.cond (Kd.bind (Kd.unsup _) fun _=>last _) (last _)
theorem d8y (e:Value) (env:Env):Kd (noteFrame e env):=by
 unfold noteFrame
 cases hf:env.frame with
 | none=>exact Kd.unsup _
 | some f=>
  dsimp only
  have tail:∀ head:Value,Kd (do setField e 1 (←EntryCells.newEntry head (←frameOf env) .none (rawInt f) .none (←entryPlaceOf f (head != .none)))):=fun head=>
   Kd.bind (d9y env) fun _=>Kd.bind (yV _ _) fun _=>Kd.bind (d89 _ _ _ _ _ _) fun _=>Kd.setFld _ _ _
  refine Kd.bind (Kd.fld _ _) fun head=>Kd.cond ?_ (tail head)
  exact Kd.bind (Kd.fld _ _) fun m=>Kd.cond (Kd.pure _) (Kd.bind (Kd.setFld _ _ _) fun _=>tail head)
theorem vp (e:Value) (f:Option Addr):Kd (setFlight e f):=by
 unfold setFlight
 exact Kd.bind (Kd.fld _ _) fun _=>Kd.cond (Kd.setFld _ _ _) (Kd.pure _)
theorem vI (env:Env) (e:Value):Kd (leaving env e):=Kd.bind (d8y e env) fun _=>vp e none
theorem Kd.any {α:Type}{t:Sem α}{M:Model}{A:Around}{Q:α→Shared→Prop}{E:Value→Shared→Prop}{s:Shared} (k:Kd t) (h:wpAny M A t Q E s):wpAny M A t (fun a s'=>Q a s'∧DK s.heap s'.heap) E s:=
 fun G p hG=>k.out M G _ _ p s (h G p hG)
end Xc
end
section
set_option linter.all false
set_option maxRecDepth 100000
namespace Xc
open PySem
section
variable {M:Model}{A:Around}{E:Value→Shared→Prop}{h:Heap}{g:Array GenState}{d:Drawn}{t:Nat}{os:OsState}
variable {nm q:Str}{C N:Addr}{bs bm bB:List Value}{hd:Bool}{sn:List Str}{sub:List Value}{ab:Bool}{col:Option Bool}{dd:Option Addr}{k0 k1 k2 k3 k5:Option Value}{B nw ini:String}
abbrev exc (nm q:Str) (C N:Addr) (bs bm:List Value) (hd:Bool) (sn:List Str) (sub:List Value) (ab:Bool) (col:Option Bool) (dd:Option Addr) (k0 k1 k2 k3 k5:Option Value) (nw:String):Obj:=
 excClassObj nm q C N bs bm hd sn sub ab col dd k0 k1 k2 k3 k5 nw
theorem ub {v:Value}{b:Bool} (hb:bm.contains v=b) (hn:(v==Value.ref C)=false):(Value.ref C::bm).contains v=b:=by
 rw [List.contains_cons,hn,hb,Bool.false_or]
theorem dCK (F:ExcBaseFacts B nw ini bB) (hB:bm.contains (.type B)=true) {rest:List Value}{Q:Unit→Shared→Prop} (hC:h.get? C=some (exc nm q C N bs bm hd sn sub ab col dd k0 k1 k2 k3 k5 nw))
  (hq:Q () ⟨h,g,d,t,os⟩):wpAny M A (checkBuiltinCall nw ⟨.ref C::rest,[]⟩) Q E ⟨h,g,d,t,os⟩:=by
 have c1:(Value.ref C::bm).contains (.type B)=true:=ub hB rfl
 have c2:=F.noStar
 simp only [checkBuiltinCall,F.newKind,F.newSplit,F.newRow]
 repeat (first
  | refine wpAny_loadPart_at hC ?_
  | (refine wpAny_isSubtype_exc hC ?_;rw [c1])
  | refine wpAny_staticBase_exc hC ?_
  | refine wpAny_madeBy_exc hC ?_
  | simp only [bne_self_eq_false,Bool.false_eq_true,if_false]
  | wp_step)
 exact hq
end
section
variable {prog:Program}{w:World}{A:Around}{R:Result→Shared→Prop}{h:Heap}{g:Array GenState}{d:Drawn}{t:Nat}{os:OsState}
variable {nm q:Str}{C N:Addr}{bs bm bB:List Value}{hd:Bool}{sn:List Str}{sub:List Value}{ab:Bool}{col:Option Bool}{dd:Option Addr}{k0 k1 k2 k3 k5:Option Value}{B nw ini:String}
abbrev tupO (rest:List Value):Obj:={ cls:=.type "tuple",data:=.seq rest.toArray }
abbrev uE (C T:Addr):Obj:={ cls:=.ref C,data:=.fields #[.ref T,.none,.none,.none,.bool false,.none] }
theorem dF1 (F:ExcBaseFacts B nw ini bB) (hB:bm.contains (.type B)=true) (hA:bm.contains (.type "AttributeError")=false) (hN:bm.contains (.type "NameError")=false) {rest:List Value}
  (hC:h.get? C=some (exc nm q C N bs bm hd sn sub ab col dd k0 k1 k2 k3 k5 nw))
  (hq:R (.ok (.ret (.ref (h.objs.size+1)))) ⟨(h.push (tupO rest)).push (uE C h.objs.size),g,d,t,os⟩) (hr:rest.length≤sizeLine) :
  codeAny (model prog w) A (.builtin nw ⟨.ref C::rest,[]⟩) R ⟨h,g,d,t,os⟩:=by
 have f0:=F.ends
 have c1:(Value.ref C::bm).contains (.type B)=true:=ub hB rfl
 have c2:(Value.ref C::bm).contains (.type "AttributeError")=false:=ub hA rfl
 have c3:(Value.ref C::bm).contains (.type "NameError")=false:=ub hN rfl
 refine codeAny_builtinAt F.entry ?_
 unfold Builtin.«BaseException.__new__»;refine wpAt_bind ?_
 show wpAt _ _ _ (stack >>= _) _ _ _;refine wpAt_bind (wpAt_stack fun p below=>wpAt_of_wpAny ?_)
 wp_walk
 refine wpAt_of_wpAny ?_
 rw [F.owner]
 repeat (first
  | with_reducible refine wpAny_madeHere_exc F.canon hC ?_
  | with_reducible refine wpAny_loadPart_at hC ?_
  | (with_reducible refine wpAny_isSubtype_exc hC ?_;first | rw [c1] | rw [c2] | rw [c3])
  | wp_step)
 show R _ _
 rw [Heap.size_push]
 exact hq
end
end Xc
end
section
set_option linter.all false
set_option maxRecDepth 100000
namespace Xc
open PySem
section
variable {prog:Program}{w:World}{A:Around}{E:Value→Shared→Prop}{h:Heap}{g:Array GenState}{d:Drawn}{t:Nat}{os:OsState}
variable {nm q:Str}{C N:Addr}{bs bm bB:List Value}{hd:Bool}{sn:List Str}{sub:List Value}{ab:Bool}{col:Option Bool}{dd:Option Addr}{k0 k1 k2 k3 k5:Option Value}{B nw ini:String}
theorem dEi {h:Heap}{u v:Obj}:∀ b o,h.get? b=some o→((h.push u).push v).get? b=some o:=fun b o e=>Heap.get?_push_of_some _ (Heap.get?_push_of_some _ e)
abbrev dEC (M:Model) (h:Heap) (C fI:Addr):Prop:=∀ (A:Around) (Q:Option Value→Shared→Prop) (E:Value→Shared→Prop) (s:Shared),(∀ b o,h.get? b=some o→s.heap.get? b=some o)→Q (some (.ref fI)) s→wpAny M A (typeLookup (.ref C) "__init__") Q E s
theorem dAt (F:ExcBaseFacts B nw ini bB) (hB:bm.contains (.type B)=true) (hA:bm.contains (.type "AttributeError")=false) (hN:bm.contains (.type "NameError")=false) {rest:List Value}{fI:Addr}{oI:Obj}{Q:Fin→Shared→Prop}
  (hC:h.get? C=some (exc nm q C N bs bm hd sn sub ab col dd k0 k1 k2 k3 k5 nw)) (hi:dEC (model prog w) h C fI) (hf:h.get? fI=some oI) (hfc:oI.cls=.type "function") (hr:rest.length≤sizeLine)
  (hq:wpAny (model prog w) A (call (.ref fI) (.ref (h.objs.size+1)::rest)) (fun r s'=>r=.none∧Q (.done (.ret (.ref (h.objs.size+1)))) s') E ⟨(h.push (tupO rest)).push (uE C h.objs.size),g,d,t,os⟩) :
  wpAny (model prog w) A (Builtin.«type.__call__» ⟨.ref C::rest,[]⟩) Q E ⟨h,g,d,t,os⟩:=by
 repeat (first | with_reducible refine wpAny_madeBy_exc hC ?_ | with_reducible refine wpAny_loadPart_at hC ?_ | wp_step)
 refine codeAny_call_builtin_code (Code.quiet_builtin _ F.quiet) (dCK F hB hC ?_)
 refine dF1 F hB hA hN hC ?_ hr
 show wpAny _ _ _ _ _ _
 have c1:=dEi (u:=tupO rest) (v:=uE C h.objs.size) _ _ hC
 have c2:=dEi (u:=tupO rest) (v:=uE C h.objs.size) _ _ hf
 have c4:((h.push (tupO rest)).push (uE C h.objs.size)).get? (h.objs.size+1)=some (uE C h.objs.size):=by heap_get
 have c5:(Value.ref C::bm).contains (.ref C)=true:=by simp
 unfold isInstance
 repeat (first | with_reducible refine wpAny_loadPart_at c4 ?_ | (with_reducible refine wpAny_isSubtype_exc c1 ?_;rw [c5]) | wp_step)
 show wpAny _ _ (typeLookup (.ref C) _) _ _ _;refine hi _ _ _ _ dEi ?_
 refine wpAny_holding (wpAny_bind ?_)
 unfold bindSpecial;refine wpAny_bind (wpAny_typeOf (T:="function") ⟨_,c2,hfc⟩ ?_)
 rw [if_pos (by decide)]
 refine wpAny_pure (wpAny_bind (wpAny_mono hq (fun r s' hr=>?_) fun _ _ x=>x))
 obtain ⟨rfl,z⟩:=hr
 wp_walk
 exact z
theorem dCl (F:ExcBaseFacts B nw ini bB) (hB:bm.contains (.type B)=true) (hA:bm.contains (.type "AttributeError")=false) (hN:bm.contains (.type "NameError")=false) {rest:List Value}{fI:Addr}{oI:Obj}{Q:Value→Shared→Prop}
  (hC:h.get? C=some (exc nm q C N bs bm hd sn sub ab col dd k0 k1 k2 k3 k5 nw)) (hi:dEC (model prog w) h C fI) (hf:h.get? fI=some oI) (hfc:oI.cls=.type "function") (hr:rest.length≤sizeLine)
  (hq:wpAny (model prog w) (A.under (.builtin "type.__call__" ⟨.ref C::rest,[]⟩)) (call (.ref fI) (.ref (h.objs.size+1)::rest)) (fun r s'=>r=.none∧Q (.ref (h.objs.size+1)) s') E
   ⟨(h.push (tupO rest)).push (uE C h.objs.size),g,d,t,os⟩):wpAny (model prog w) A (call (.ref C) rest) Q E ⟨h,g,d,t,os⟩:=by
 have l1:=tc_lookup
 have l2:=tc_bind (.ref C)
 have l3:(⟨h,g,d,t,os⟩:Shared).TypeIs (.ref C) "type":=⟨_,hC,rfl⟩
 refine wpAny_call (codeAny_of_tree ?_)
 show wpAny _ _ (callAny (.ref C) _) _ _ _
 repeat (any_goals (first | assumption | with_reducible refine wpAny_loadPart_at hC ?_ | wp_step))
 refine ⟨rfl,?_⟩
 exact codeAny_call_builtin_at (Code.quiet_builtin _ (by decide +kernel)) entry_typeCall (wpAny_check_type_call_sub hC (dAt F hB hA hN hC hi hf hfc hr hq))
end
section
variable {M:Model}{A:Around}{E:Value→Shared→Prop}{env:Env}
variable {nm q:Str}{C N:Addr}{bs bm:List Value}{hd:Bool}{sn:List Str}{sub:List Value}{ab:Bool}{col:Option Bool}{dd:Option Addr}{k0 k1 k2 k3 k5:Option Value}{nw:String}
theorem yB {s:Shared}{x:Sem Value}{Q:Flow→Shared→Prop} (hb:bm.contains (.type "BaseException")=true) (hh:A.handled=none)
  (h:wpAny M A x (fun v s1=>∃ e T dx sl,v=.ref e∧s1.heap.get? C=some (exc nm q C N bs bm hd sn sub ab col dd k0 k1 k2 k3 k5 nw) ∧
   s1.heap.get? e=some { cls:=.ref C,dict:=dx,data:=.fields #[.ref T,.none,.none,.none,.bool false,.none],slots:=sl }∧E (.ref e) s1) E s) :
  wpAny M A (raiseStmt env (some x) none) Q E s:=by
 have c1:(Value.ref C::bm).contains (.type "BaseException")=true:=ub hb rfl
 unfold raiseStmt
 refine wpAny_bind (wpAny_mono h (fun v s1 h1=>?_) fun _ _ x=>x)
 obtain ⟨e,T,dx,sl,rfl,hC,he,hE⟩:=h1
 obtain ⟨hp,g,d,tk,os⟩:=s1
 repeat (first
  | with_reducible refine wpAny_loadPart_at he ?_
  | with_reducible refine wpAny_loadPart_at hC ?_
  | (with_reducible refine wpAny_isSubtype_exc hC ?_;rw [c1])
  | wp_step)
 exact wpAny_raiseNew_none hh hE
theorem vJ {s:Shared}{x:Expr}{pos:Pos}{Q:Flow→Shared→Prop} (h:wpAny M A (raiseStmt env (some (do let v ←eval x env;standAt pos;pure v)) none) Q E s):wpAny M A (exec (.Raise (some x) none pos) env) Q E s:=by
 rw [arm_exec_Raise]
 first
  | exact wpAny_bind (wpAny_standAt h)
  | (simp only [evalOpt,Option.map];exact wpAny_bind (wpAny_standAt h))
end
end Xc
end
section
set_option linter.all false
set_option maxRecDepth 100000
namespace Xc
open PySem PySem.Spec PyProof.Rows L2
structure Flown (P:Program) (w:World) (outer:List Env) (H:Hp) (s:Shared) (E:XK) (a:Addr) (s':Shared) (B:Heap) (C dx:Addr) (a0:Value) (H':Hp):Prop where
 os:s'.os=s.os
 bare:AllBare s'.gens
 fly:Heap.FlyingW B outer a (.ref C) a0 s'.heap
 dict:∃ o,s'.heap.get? a=some o∧o.dict=some dx
 keep:∀ b o,s.heap.get? b=some o→H b=none→b∉frs outer→B.get? b=some o
 un:Un (frs outer) [] H H' s.heap s'.heap
 hok:HOk P w H' B
 wish:E (.ref C) (some dx) H'
def CXX (P:Program) (w:World):CXT:=fun outer H s E e s'=>∃ (a:Addr) (B:Heap) (C dx:Addr) (a0:Value) (H':Hp),e=.ref a∧Flown P w outer H s E a s' B C dx a0 H'
theorem dG {P:Program}{w:World}{X:Cx}:jF (CXX P w) X E0:=fun _ _ _ _ _ _ _ h=>by
 obtain ⟨_,_,_,_,_,_,_,f⟩:=h
 exact f.wish.elim
theorem dY {P:Program}{w:World}{K:PySem.W.Frag}{mg:Str→Option Value}{base:Heap}{N:List Str}{qual:Str}{scope:Scope}{f:Addr}{cd:Value}{A:Around}{outer:List Env}{s:Shared}{H:Hp}{E:XK} :
  jF (CXX P w) (cxOf (CXX P w) P w K mg base N qual scope f cd A outer s H E) E:=by
 intro pins σ H1 s1 e s' I h
 obtain ⟨a,B,C,dx,a0,H',rfl,F⟩:=h
 have fl:=F.fly
 refine wpAny_mono (Kd.any (vI _ _) (wpAny_leaves_onW (Q:=fun _ s''=>∃ h',s''={ s' with heap:=h' }∧Heap.FlyingW B outer a (.ref C) a0 h'∧s'.heap.UpToSlots h') I.ok.frames rfl fl fun h' f1 f2=>⟨h',rfl,f1,f2⟩)) ?_ fun e' s'' z=>z
 rintro _ s'' ⟨⟨h',rfl,f1,f2⟩,dk⟩
 obtain ⟨o,ho,hd⟩:=F.dict
 obtain ⟨o',ho',hd',_⟩:=dk a o ho
 have noE:∀ b:Addr,b∉(cxOf (CXX P w) P w K mg base N qual scope f cd A outer s H E).ex:=fun b z=>absurd (show b∈([]:List Addr) from z) (by simp)
 have keep:∀ b o,s.heap.get? b=some o→H b=none→b∉frs outer→B.get? b=some o:=fun b o q n hb=>by
  refine F.keep b o (I.base.keep b o q n hb (noE b)) (I.base.free b o q n (noE b)) fun z=>?_
  rcases List.mem_cons.mp (I.stkSub b z) with e1 | e1
  ·have l1:=Heap.lt_size q
   have l2:s.heap.objs.size≤b:=by rw [e1];exact I.ok.above
   exact absurd (Nat.lt_of_lt_of_le l1 l2) (Nat.lt_irrefl _)
  ·exact hb e1
 refine ⟨a,B,C,dx,a0,H',rfl,F.os.trans I.os,F.bare,f1,⟨o',ho',hd'.trans hd⟩,keep,?_,F.hok,F.wish⟩
 refine ⟨fun b ob q n hb _=>f1.1 b ob (keep b ob q n hb),fun b ob q n hb _=>?_,fun b ob q n _=>?_,fun b ob q _=>?_,fun b xs q=>F.un.tups b xs (I.base.tups b xs q),fun b ob u q=>F.un.frzs b ob u (I.base.frzs b ob u q),fun b ps q=>?_⟩
 ·obtain ⟨sl,e1⟩:=I.base.slot b ob q n hb (noE b)
  have hb2:b∈frs (cxOf (CXX P w) P w K mg base N qual scope f cd A outer s H E).stack:=by
   show b∈List.filterMap _ (_::outer)
   rw [List.filterMap_cons]
   exact List.mem_cons_of_mem _ hb
  obtain ⟨sl2,e2⟩:=F.un.slot b _ e1 (I.base.free b ob q n (noE b)) hb2 (by simp)
  obtain ⟨_,o3,e3,d3⟩:=fl.2.2.1.mem hb2
  rw [e2] at e3
  obtain rfl:=Option.some.inj e3
  obtain ⟨sl4,e4⟩:=f2 b _ e2 d3
  exact ⟨sl4,e4⟩
 ·obtain ⟨o1,e1⟩:=I.base.there b ob q (noE b)
  exact F.un.free b o1 e1 (I.base.free b ob q n (noE b)) (by simp)
 ·obtain ⟨o1,e1⟩:=I.base.there b ob q (noE b)
  obtain ⟨o2,e2⟩:=F.un.there b o1 e1 (by simp)
  obtain ⟨o3,e3,_⟩:=dk b o2 e2
  exact ⟨o3,e3⟩
 ·obtain ⟨m1,e1⟩:=I.base.tbls b ps q
  obtain ⟨m2,e2⟩:=F.un.tbls b _ e1
  exact ⟨m1++m2,by rw [e2,Array.append_assoc]⟩
end Xc
end
section
set_option linter.all false
set_option maxRecDepth 100000
set_option maxHeartbeats 4000000
namespace Xc
open PySem PySem.W PySem.Builtin PySem.Builtin.ObjectAttr
def kg:List Value→Bool
 | [.type a,.type b,.type c]=>a=="Exception"&&(b=="BaseException"&&c=="object")
 | .ref _::r=>kg r
 | _=>false
theorem vS {c:Addr}{r:List Value} (h:kg (.ref c::r)=true):kg r=true:=by
 cases r <;> first | exact h | cases h
theorem wo (self:Value):∀ {l:List Value},kg l=true→refuseLoop self "__setattr__" l=pure ()
 | [.type a,.type b,.type c],h=>by
  simp only [kg,Bool.and_eq_true,beq_iff_eq] at h
  obtain ⟨rfl,rfl,rfl⟩:=h
  exact PySem.F.store_Exception.passes self
 | .ref c::r,h=>by
  rw [refuseLoop_ref]
  exact wo self (vS h)
theorem wC:∀ {l:List Value},kg l=true→l.contains (.type "object")=true
 | [.type a,.type b,.type c],h=>by
  simp only [kg,Bool.and_eq_true,beq_iff_eq] at h
  obtain ⟨rfl,rfl,rfl⟩:=h
  decide +kernel
 | .ref c::r,h=>by
  rw [List.contains_cons,wC (vS h),Bool.or_true]
def yl (K:Frag) (C:Addr):Bool:=(clsIn K C).any fun cd=>kg cd.mro
section
variable {prog:Program}{w:World}{A:Around}{K:Frag}{C x:Addr}{s:Shared}{R:Result→Shared→Prop}
theorem dEV {ox:Obj}{od:Option Obj}{name:Str}{tk:Tok}{v:Value} (X:K.In s.heap) (I:InstAt s.heap x ox C od) (hp:yl K C=true) (ht:findIn K (.ref C) name=some none)
  (h:wpAny (model prog w) A.in1 (storeInOwnDict (.ref x) (.ref C) (.str name tk) name v false)
   (fun fin s'=>match fin with | .done f=>R (.ok f) s' | .again c'=>c'.quiet=true∧codeAny (model prog w) A c' R s') (fun e s'=>R (.error e) s') s) :
  codeAny (model prog w) A (.call (.builtin "object.__setattr__") ⟨[.ref x,.str name tk,v],[]⟩) R s:=by
 have SF:=PySem.F.store_object
 obtain ⟨cd,hc,ho⟩:=any_some hp
 have ne:cd.mro.isEmpty=false:=by
  cases q:cd.mro with
  | nil=>rw [q] at ho;cases ho
  | cons _ _=>rfl
 have inst:Looks (model prog w) s.heap (isInstance (.ref x) (.type "object")) true:=I.type.andThen (looks_mroIn X (by
  unfold mroIn
  rw [hc,Option.bind_some,if_neg (by rw [ne];decide),wC ho]))
 have mro:Looks (model prog w) s.heap (mroOf (.ref C)) cd.mro:=(looks_clsIn X hc).andThen .now
 refine codeAny_call_builtin SF.slot.plain SF.entry
  (@check_slot (model prog w) _ _ s "object.__setattr__" "object" "__setattr__" (.ref x) [.str name tk,v] [] _ SF.kind SF.split inst (SF.args (.ref x) (.str name tk) v) ?_)
 rw [osa_eq,refuse_eq]
 refine wpAny_bind (wpAny_bind (I.type.here (wpAny_bind (mro.here ?_))))
 rw [wo _ ho]
 refine wpAny_pure (wpAny_bind (I.type.here (wpAny_bind ((looks_findIn X ht).here (wpAny_bind ?_)))))
 exact wpAny_pure (a:=none) h
theorem d9p {E:Value→Shared→Prop}{name:Str}{v:Value}{Q:Unit→Shared→Prop}{T:Addr} (X:K.In s.heap) (hx:s.heap.get? x=some (uE C T)) (hs:findIn K (.ref C) "__setattr__"=some (some (.builtin "object.__setattr__")))
  (hp:yl K C=true) (ht:findIn K (.ref C) name=some none) (hh:hasDictIn K C=true)
  (h:∀ h' tk,h'.get? x=some { uE C T with dict:=some s.heap.objs.size }→h'.Ns1 s.heap.objs.size (fun y=>if y=name then some v else none)→(∀ b o,b≠x→s.heap.get? b=some o→h'.get? b=some o)→Q () { s with heap:=h',toks:=tk }) :
  wpAny (model prog w) A (setAttr (.ref x) name v) Q E s:=by
 have J:InstAt s.heap x (uE C T) C none:=⟨hx,rfl,rfl,trivial⟩
 refine set_plain X J hs (dEV (s:={ s with toks:=s.toks+1 }) X J hp ht ?_)
 obtain ⟨cd,hc,hd⟩:=any_some hh
 obtain ⟨hp0,g,d,tk,os⟩:=s
 have hxs:x≠hp0.objs.size:=Nat.ne_of_lt (Heap.lt_size hx)
 have hx1:(hp0.push emptyDict).get? x=some (uE C T):=Heap.get?_push_of_some _ hx
 refine wpAny_bind (wpAny_pure (wpAny_bind (wpAny_bind (wpAny_loadPart hx (wpAny_bind (Looks.here (s:=⟨hp0,g,d,tk+1,os⟩) (looks_clsIn X hc) ?_))))))
 rw [hd]
 refine wpAny_bind (wpAny_alloc' ?_)
 refine wpAny_bind (wpAny_update' hx1 ?_)
 refine wpAny_pure (a:=some hp0.objs.size) (wpAny_bind (wpAny_pure (wpAny_bind ?_)))
 have gd:((hp0.push emptyDict).update x fun o=>{ o with dict:=some hp0.objs.size }).get? hp0.objs.size=some emptyDict:=
  (Heap.get?_update_ne _ _ _ _ hxs.symm).trans (Heap.get?_push_at rfl rfl)
 have nd:((hp0.push emptyDict).update x fun o=>{ o with dict:=some hp0.objs.size }).Ns hp0.objs.size (fun _=>none):=
  ⟨_,#[],_,gd,rfl,fun e he=>absurd he (by simp),fun _=>rfl⟩
 refine wpAny_nsSet1 (s:=⟨(hp0.push emptyDict).update x fun o=>{ o with dict:=some hp0.objs.size },g,d,tk+1,os⟩) (Heap.Ns1.of_empty nd) fun h' hn' hs'=>?_
 obtain ⟨oD,esD,epD,hoD,hdD,hcD⟩:=hn'.count (Within.cons name v Within.nil)
 refine wpAny_bind (wpAny_lookBehind hoD (by rw [hdD];exact pastItsLine_dict (Nat.le_trans hcD (by rw [List.length_cons,List.length_nil,sizeLine_eq];omega))) ?_)
 refine wpAny_pure (h h' _ ?_ hn' fun b o hbx hb=>?_)
 ·exact (hs'.2 x hxs).trans (Heap.get?_update_self _ hx1 rfl)
 ·exact (hs'.2 b (Nat.ne_of_lt (Heap.lt_size hb))).trans ((Heap.get?_update_ne _ _ _ _ hbx).trans (Heap.get?_push_of_some _ hb))
end
end Xc
end
section
set_option linter.all false
set_option maxRecDepth 100000
namespace Xc
open PySem PySem.Spec PyProof.Rows L2
def yy (C a:Addr):Heap→Prop:=fun h=>∃ T,h.get? a=some (uE C T)
def ve (C dx a:Addr):Heap→Prop:=fun h=>∃ T,h.get? a=some { uE C T with dict:=some dx }
structure ClsX (K:PySem.W.Frag) (C:Addr):Prop where
 sa:PySem.W.findIn K (.ref C) "__setattr__"=some (some (.builtin "object.__setattr__"))
 over:yl K C=true
 dct:PySem.W.hasDictIn K C=true
section
variable {X:Cx}{pins:List (Addr×Obj)}{σ:L2.St}{H:Hp}{s:Shared}
theorem dET {C a:Addr}{f:Str}{y:V}{u:Value}{E:Value→Shared→Prop}{A:Around}{Q:Unit→Shared→Prop} (I:Inv X pins σ H s) (ha:H a=some (.ext (yy C a))) (c:ClsX X.K C) (n:PySem.W.findIn X.K (.ref C) f=some none) (r:RelV y u)
  (h:∀ dx s',H dx=none→Inv X pins σ (upd (upd H dx (.xd [(f,y)])) a (.ext (ve C dx a))) s'→Q () s'):wpAny (model X.prog X.w) A (setAttr (.ref a) f u) Q E s:=by
 obtain ⟨⟨T,hx⟩,_,_⟩:=I.hok a _ ha
 have hdn:H s.heap.objs.size=none:=I.hok.fresh (Nat.le_refl _)
 have hda:s.heap.objs.size≠a:=Nat.ne_of_gt (Heap.lt_size hx)
 refine d9p I.kIn hx c.sa c.over n c.dct fun h' tk g1 g2 g3=>h s.heap.objs.size _ hdn ?_
 have ntr:∀ b o,H b=some o→(∀ φ,o≠.ext φ)→b≠a∧b≠s.heap.objs.size:=fun b o e ne=>⟨fun z=>by rw [z,ha] at e;exact ne _ (Option.some.inj e).symm,dC e hdn⟩
 refine I.un ⟨fun b o q n' _ _=>g3 b o (fun z=>by rw [z,ha] at n';cases n') q,fun b o q n' _ _=>⟨o.slots,g3 b o (fun z=>by rw [z,ha] at n';cases n') q⟩,fun b o q n' _=>?_,fun b o q _=>?_,fun b xs q=>?_,fun b o v q=>?_,fun b ps q=>⟨#[],?_⟩⟩ ?_
 ·rw [d8 (fun z=>by rw [z,ha] at n';cases n'),d8 (Nat.ne_of_lt (Heap.lt_size q))]
  exact n'
 ·by_cases hb:b=a
  ·rw [hb];exact ⟨_,g1⟩
  ·exact ⟨o,g3 b o hb q⟩
 ·obtain ⟨z1,z2⟩:=ntr b _ q (fun φ z=>by cases z)
  rw [d8 z1,d8 z2];exact q
 ·obtain ⟨z1,z2⟩:=ntr b _ q (fun φ z=>by cases z)
  rw [d8 z1,d8 z2];exact q
 ·obtain ⟨z1,z2⟩:=ntr b _ q (fun φ z=>by cases z)
  rw [d8 z1,d8 z2,q];simp
 ·intro b o e
  by_cases hb:b=a
  ·subst hb
   rw [d9] at e
   obtain rfl:=Option.some.inj e
   exact ⟨⟨T,g1⟩,⟨_,g1⟩,fun h1 h2 ⟨T',p⟩ k=>⟨T',k _ p⟩⟩
  ·rw [d8 hb] at e
   by_cases hb2:b=s.heap.objs.size
   ·subst hb2
    rw [d9] at e
    obtain rfl:=Option.some.inj e
    refine ⟨_,g2,fun g=>?_⟩
    show RelO (List.lookup g [(f,y)]) (if g=f then some u else none)
    by_cases q:g=f
    ·rw [if_pos q,List.lookup_cons,q,beq_self_eq_true];exact r
    ·rw [if_neg q,List.lookup_cons,beq_eq_false_iff_ne.mpr q];exact True.intro
   ·rw [d8 hb2] at e
    refine (I.hok b o e).stay (fun c' v hc q=>g3 c' v ?_ q) (fun c' q=>?_) fun c' xs q=>?_
    ·rcases hc with rfl | hc
     ·exact hb
     ·exact (ntr c' _ hc (fun φ z=>by cases z)).1
    ·obtain ⟨z1,z2⟩:=ntr c' _ q (fun φ z=>by cases z)
     rw [d8 z1,d8 z2];exact q
    ·obtain ⟨z1,z2⟩:=ntr c' _ q (fun φ z=>by cases z)
     rw [d8 z1,d8 z2];exact q
end
def dGl (K:PySem.W.Frag) (ta tv:TE) (f:Str):TS:=fun D σ H=>tv σ H fun y H1=>ta σ H1 fun x H2=>∃ a C,x=.ref a∧H2 a=some (.ext (yy C a))∧ClsX K C∧PySem.W.findIn K (.ref C) f=some none ∧
 ∀ dx,H2 dx=none→D.nx σ (upd (upd H2 dx (.xd [(f,y)])) a (.ext (ve C dx a)))
section
variable {X:Cx}{o e value:Expr}{f:Str}{pos pos' tpos:Pos}{ta tv:TE}
theorem dEH (ha:PE X o ta) (hv:PE X value tv) (hs:swapsWith value (some (.Attribute o f pos')) pos.line X.env=pure false):PS X (.Assign [.Attribute o f pos'] value pos) (dGl X.K ta tv f):=by
 intro pins s σ H D I h
 refine plainObj_wpAny_Assign_Attribute (thn (hv pins s σ H _ I h) fun u s1 ⟨y,H1,I1,ry,q⟩=>thn (ha pins s1 σ H1 _ I1 q) fun ov s2 ⟨x,H2,I2,rx,a,C,ex,ea,c,n,q2⟩=>?_) hs
 subst ex
 obtain rfl:ov=Value.ref a:=rx
 exact dET I2 ea c n ry fun dx s3 hd I3=>⟨σ,_,I3,q2 dx hd⟩
end
structure ExcC (K:PySem.W.Frag) (C fI:Addr):Prop where
 cls:∃ nm q N bs bm hd sn sub ab col dd k0 k1 k2 k3 k5,K.lookup C=some (exc nm q C N bs bm hd sn sub ab col dd k0 k1 k2 k3 k5 "Exception.__new__")∧bm.contains (.type "Exception")=true∧bm.contains (.type "AttributeError")=false ∧
  bm.contains (.type "NameError")=false∧bm.contains (.type "BaseException")=true
 init:PySem.W.findIn K (.ref C) "__init__"=some (some (.ref fI))
 fn:∃ o,K.lookup fI=some o∧o.cls=.type "function"
 kp:PySem.W.keepIn K (.ref C)=true
section
variable {X:Cx}{CX:CXT}{k:Nat}{f C:Addr}{fd:FuncData}{ps:List Str}{sp:Sp}{E:XK}{x:Str}{p pos cpos:Pos}{e:Expr}{es:List Expr}{t:TA}
theorem d8X {pins:List (Addr×Obj)}{σ:L2.St}{H:Hp}{s:Shared}{Q:V→Hp→Prop}{us:List Value}{vs:List V} (M:ExcC X.K C f) (F:FnOk X.prog X.w X.K X.mg X.base CX k f fd ps sp) (hr:Room (k+1) X.A) (hb:Binds X.K fd ps [])
  (hx:jF CX X E) (I:Inv X pins σ H s) (r:Vals vs us) (hz:us.length≤sizeLine)
  (h:∀ a,H a=none→sp (.ref a::vs) (upd H a (.ext (yy C a))) (fun v H2=>v=.non∧Q (.ref a) H2) E):wpAny (model X.prog X.w) X.A (call (.ref C) us) (EP X pins σ Q) X.xe s:=by
 obtain ⟨nm,q,N,bs,bm,hd,sn,sub,ab,col,dd,k0,k1,k2,k3,k5,lk,b1,b2,b3,b4⟩:=M.cls
 obtain ⟨oI,lI,cI⟩:=M.fn
 have hq:=h (s.heap.objs.size+1) (I.hok.fresh (Nat.le_succ _))
 obtain ⟨hp,g,d,tk,os⟩:=s
 have I1:Inv X pins σ H { (⟨hp,g,d,tk,os⟩:Shared) with heap:=hp.push (tupO us),toks:=tk }:=I.kept (t':=tk) fun b u e=>Heap.get?_push_of_some _ e
 have new:((hp.push (tupO us)).push (uE C hp.objs.size)).get? (hp.objs.size+1)=some (uE C hp.objs.size):=by heap_get
 have I2:Inv X pins σ (upd H (hp.objs.size+1) (.ext (yy C (hp.objs.size+1)))) ⟨(hp.push (tupO us)).push (uE C hp.objs.size),g,d,tk,os⟩:=by
  refine I1.laid (a:=hp.objs.size+1) (o:=.ext (yy C (hp.objs.size+1))) (t':=tk) (fun b u e=>Heap.get?_push_of_some _ e) (Nat.le_of_eq (Heap.size_push _ _)) ?_
  exact ⟨⟨_,new⟩,⟨_,new⟩,fun h1 h2 ⟨T',z⟩ kk=>⟨T',kk _ z⟩⟩
 have r2:Vals (V.ref (hp.objs.size+1)::vs) (Value.ref (hp.objs.size+1)::us):=.cons rfl r
 have hl:(Value.ref (hp.objs.size+1)::us++[]).length=ps.length:=by
  rw [List.append_nil,←r2.length]
  exact F.len _ _ _ _ hq
 have hbd:=hb _ (Value.ref (hp.objs.size+1)::us) I2.kIn hl
 rw [List.append_nil] at hbd
 refine dCl PySem.F.excBase_Exception b1 b2 b3 (I.kIn _ _ lk) (PySem.W.looks_findIn I.kIn M.init) (I.kIn _ _ lI) cI hz ?_
 refine wpAny_call (codeAny_mono (F.run _ X.stack _ _ ⟨Value.ref (hp.objs.size+1)::us,[]⟩ (Value.ref (hp.objs.size+1)::us) _ _ E (hr.make C us []) (I2.env0.make C us []) hbd r2 hq) fun rr s' hq'=>?_)
 cases rr with
 | error e=>exact hx pins σ _ _ e s' I2 hq'
 | ok fl=>
  cases fl with
  | ret u=>
   obtain ⟨v,H',I3,rv,ev,q3⟩:=I2.after hq'
   subst ev
   exact ⟨rv,⟨V.ref (hp.objs.size+1),H',I3,rfl,q3⟩⟩
  | next=>exact False.elim hq'
  | brk=>exact False.elim hq'
  | cont=>exact False.elim hq'
end
def del (H:Hp) (a:Addr):Hp:=fun b=>if b=a then none else H b
theorem jI {H:Hp}{a b:Addr} (h:b≠a):del H a b=H b:=if_neg h
theorem ym {H:Hp}{a:Addr}:del H a a=none:=if_pos rfl
def d78 (C:Addr) (sp:Sp) (E:XK) (t:TA):TS:=fun _ σ H=>t σ H fun vs H1=>vs.length≤sizeLine∧∀ a,H1 a=none→sp (.ref a::vs) (upd H1 a (.ext (yy C a)))
 (fun v H2=>v=.non∧∃ a' dx,V.ref a=.ref a'∧H2 a'=some (.ext (ve C dx a'))∧E (.ref C) (some dx) (del H2 a')) E0
section
variable {P:Program}{w:World}{K:PySem.W.Frag}{mg:Str→Option Value}{base:Heap}{N:List Str}{qual:Str}{scope:Scope}{f:Addr}{cd:Value}{A:Around}{outer:List Env}{s:Shared}{H:Hp}{E:XK}
theorem dG2 {pins:List (Addr×Obj)}{σ:L2.St}{H2:Hp}{s2:Shared}{a C dx:Addr} (I:Inv (cxOf (CXX P w) P w K mg base N qual scope f cd A outer s H E) pins σ H2 s2) (ha:H2 a=some (.ext (ve C dx a))) (hE:E (.ref C) (some dx) (del H2 a)) :
  (cxOf (CXX P w) P w K mg base N qual scope f cd A outer s H E).xe (.ref a) s2:=by
 obtain ⟨⟨T,hx⟩,_,_⟩:=I.hok a _ ha
 have noE:∀ b:Addr,b∉(cxOf (CXX P w) P w K mg base N qual scope f cd A outer s H E).ex:=fun b z=>absurd (show b∈([]:List Addr) from z) (by simp)
 have hin:∀ env∈(cxOf (CXX P w) P w K mg base N qual scope f cd A outer s H E).stack,∀ b,env.frame=some b→b∈a::frs (cxOf (CXX P w) P w K mg base N qual scope f cd A outer s H E).stack:=fun env he b hb=>
  List.mem_cons_of_mem _ (List.mem_filterMap.mpr ⟨env,he,hb⟩)
 have hfr:=PySem.W.funFrames_hide I.stack hin
 have toB:∀ b o,s2.heap.get? b=some o→b≠a→b∉frs (cxOf (CXX P w) P w K mg base N qual scope f cd A outer s H E).stack→(PySem.W.hideAll s2.heap (a::frs (cxOf (CXX P w) P w K mg base N qual scope f cd A outer s H E).stack)).get? b=some o:=
  fun b o q h1 h2=>PySem.W.hideAll_get _ q fun z=>(List.mem_cons.mp z).elim h1 h2
 refine wpAny_mono (Kd.any (vI _ _) (wpAny_leaving_firstW (base:=PySem.W.hideAll s2.heap (a::frs (cxOf (CXX P w) P w K mg base N qual scope f cd A outer s H E).stack)) (a0:=.ref T)
  (Q:=fun _ s''=>∃ h',s''={ s2 with heap:=h' }∧Heap.LeftW (PySem.W.hideAll s2.heap (a::frs (cxOf (CXX P w) P w K mg base N qual scope f cd A outer s H E).stack)) (cxOf (CXX P w) P w K mg base N qual scope f cd A outer s H E).stack a (.ref C) (.ref T) s2.heap h')
  I.ok.frames hfr rfl hx (fun b o q=>PySem.W.of_hideAll _ q) (PySem.W.hideAll_none _ List.mem_cons_self) rfl rfl rfl fun h' l=>⟨h',rfl,l⟩)) ?_ fun e' s'' z=>z
 rintro _ s'' ⟨⟨h',rfl,l1,l2,l3,l4⟩,dk⟩
 obtain ⟨o',ho',hd',_⟩:=dk a _ hx
 have tr:∀ b o,H2 b=some o→(∀ φ,o≠.ext φ)→b≠a:=fun b o e ne z=>by rw [z,ha] at e;exact ne _ (Option.some.inj e).symm
 have keep:∀ b o,s.heap.get? b=some o→H b=none→b∉frs outer→(PySem.W.hideAll s2.heap (a::frs (cxOf (CXX P w) P w K mg base N qual scope f cd A outer s H E).stack)).get? b=some o:=fun b o q n hb=>by
  have n2:=I.base.free b o q n (noE b)
  refine toB b o (I.base.keep b o q n hb (noE b)) (fun z=>by rw [z,ha] at n2;cases n2) fun z=>?_
  rcases List.mem_cons.mp (I.stkSub b z) with e1 | e1
  ·have l1:=Heap.lt_size q
   have l2:s.heap.objs.size≤b:=by rw [e1];exact I.ok.above
   exact absurd (Nat.lt_of_lt_of_le l1 l2) (Nat.lt_irrefl _)
  ·exact hb e1
 refine ⟨a,_,C,dx,.ref T,del H2 a,rfl,I.os,I.bare,⟨l1,PySem.W.hideAll_none _ List.mem_cons_self,l2.2.2,l3⟩,⟨o',ho',hd'⟩,keep,?_,fun b o e=>?_,hE⟩
 ·refine ⟨fun b ob q n hb _=>l1 b ob (keep b ob q n hb),fun b ob q n hb _=>?_,fun b ob q n _=>?_,fun b ob q _=>?_,fun b xs q=>?_,fun b ob u q=>?_,fun b ps q=>?_⟩
  ·obtain ⟨sl,e1⟩:=I.base.slot b ob q n hb (noE b)
   have hb2:b∈frs (cxOf (CXX P w) P w K mg base N qual scope f cd A outer s H E).stack:=by
    show b∈List.filterMap _ (_::outer)
    rw [List.filterMap_cons]
    exact List.mem_cons_of_mem _ hb
   obtain ⟨_,o3,e3,d3⟩:=I.stack.mem hb2
   rw [e1] at e3
   obtain rfl:=Option.some.inj e3
   obtain ⟨sl4,e4⟩:=l4 b _ e1 d3
   exact ⟨sl4,e4⟩
  ·have n2:=I.base.free b ob q n (noE b)
   by_cases hb:b=a
   ·rw [hb];exact ym
   ·rw [jI hb];exact n2
  ·obtain ⟨o1,e1⟩:=I.base.there b ob q (noE b)
   obtain ⟨o3,e3,_⟩:=dk b o1 e1
   exact ⟨o3,e3⟩
  ·have q2:=I.base.tups b xs q
   rw [jI (tr b _ q2 fun φ z=>by cases z)];exact q2
  ·have q2:=I.base.frzs b ob u q
   rw [jI (tr b _ q2 fun φ z=>by cases z)];exact q2
  ·obtain ⟨m,q2⟩:=I.base.tbls b ps q
   exact ⟨m,by rw [jI (tr b _ q2 fun φ z=>by cases z)];exact q2⟩
 ·have hb:b≠a:=fun z=>by rw [z,ym] at e;cases e
  rw [jI hb] at e
  refine (I.hok b o e).stay (fun c u hc q=>toB c u q ?_ fun z=>?_) (fun c q=>?_) fun c xs q=>?_
  ·rcases hc with rfl | hc
   ·exact hb
   ·exact tr c _ hc fun φ z=>by cases z
  ·have nf:=I.stkFree c z
   rcases hc with rfl | hc
   ·rw [e] at nf;cases nf
   ·rw [hc] at nf;cases nf
  ·rw [jI (tr c _ q fun φ z=>by cases z)];exact q
  ·rw [jI (tr c _ q fun φ z=>by cases z)];exact q
variable {k:Nat}{C fI:Addr}{fd:FuncData}{ps:List Str}{sp:Sp}{x:Str}{p pos cpos:Pos}{e:Expr}{es:List Expr}{t:TA}
theorem wm {pins:List (Addr×Obj)}{σ:L2.St}{H1:Hp}{s1:Shared}{env:Env}{ev:Sem Value}{D:Flow→Shared→Prop} (M:ExcC K C fI) (I:Inv (cxOf (CXX P w) P w K mg base N qual scope f cd A outer s H E) pins σ H1 s1)
  (h:wpAny (model P w) (cxOf (CXX P w) P w K mg base N qual scope f cd A outer s H E).A ev (EP (cxOf (CXX P w) P w K mg base N qual scope f cd A outer s H E) pins σ fun v H2=>∃ a dx,v=.ref a∧H2 a=some (.ext (ve C dx a))∧E (.ref C) (some dx) (del H2 a))
   (cxOf (CXX P w) P w K mg base N qual scope f cd A outer s H E).xe s1) (hh:(cxOf (CXX P w) P w K mg base N qual scope f cd A outer s H E).A.handled=none) :
  wpAny (model P w) (cxOf (CXX P w) P w K mg base N qual scope f cd A outer s H E).A (raiseStmt env (some (do let v ←ev;standAt pos;pure v)) none) D (cxOf (CXX P w) P w K mg base N qual scope f cd A outer s H E).xe s1:=by
 obtain ⟨nm,q,N',bs,bm,hd,sn,sub,ab,col,dd,k0,k1,k2,k3,k5,lk,b1,b2,b3,b4⟩:=M.cls
 refine yB (C:=C) (nm:=nm) (q:=q) (N:=N') (bs:=bs) (bm:=bm) (hd:=hd) (sn:=sn) (sub:=sub) (ab:=ab) (col:=col) (dd:=dd) (k0:=k0) (k1:=k1) (k2:=k2) (k3:=k3) (k5:=k5) (nw:="Exception.__new__") b4 hh ?_
 refine wpAny_bind (wpAny_mono h (fun v s2 h2=>wpAny_bind (wpAny_standAt (wpAny_pure ?_))) fun _ _ z=>z)
 obtain ⟨vv,H2,I2,rv,a,dx,rfl,ha,hE⟩:=h2
 obtain rfl:v=Value.ref a:=rv
 obtain ⟨⟨T,hx⟩,_,_⟩:=I2.hok a _ ha
 exact ⟨a,T,some dx,#[],rfl,I2.kIn _ _ lk,hx,dG2 I2 ha hE⟩
theorem dCa (M:ExcC K C fI) (F:FnOk P w K mg base (CXX P w) k fI fd ps sp) (hr:Room (k+1) (cxOf (CXX P w) P w K mg base N qual scope f cd A outer s H E).A) (hb:Binds K fd ps [])
  (hg:Gl (cxOf (CXX P w) P w K mg base N qual scope f cd A outer s H E) x) (hm:mg x=some (.ref C)) (ha:PA (cxOf (CXX P w) P w K mg base N qual scope f cd A outer s H E) (e::es) t)
  (hdb:(x==("__debug__":Str))=false:=by decide)
  (he:starEach (e::es) (cxOf (CXX P w) P w K mg base N qual scope f cd A outer s H E).env=(false,eval e (cxOf (CXX P w) P w K mg base N qual scope f cd A outer s H E).env)::starEach es (cxOf (CXX P w) P w K mg base N qual scope f cd A outer s H E).env:=by rfl)
  (hpl:(backTo cpos (starEach es (cxOf (CXX P w) P w K mg base N qual scope f cd A outer s H E).env)).any (·.1)=false:=by rfl) :
  PS (cxOf (CXX P w) P w K mg base N qual scope f cd A outer s H E) (.Raise (some (.Call (.Name x p) (e::es) [] cpos)) none pos) (d78 C sp E t):=by
 intro pins s1 σ H1 D I h
 refine vJ (wm M I ?_ hr.hd)
 refine wpAny_Call_Name_kw (kM I hg hm ?_ hdb)
 refine PySem.W.callWith_K (h₀:=base) I.ok.mod.kin M.kp (thn (ha cpos pins s1 σ H1 _ I h) fun us s2 ⟨vs,H2,I2,r,hz,q⟩=>⟨I2.kIn,?_⟩) he hpl
 refine d8X (us:=us) M F hr hb dG I2 r (by rw [←r.length];exact hz) fun a hn=>?_
 exact q a hn
theorem jf (M:ExcC K C fI) (F:FnOk P w K mg base (CXX P w) k fI fd ps sp) (hr:Room (k+1) (cxOf (CXX P w) P w K mg base N qual scope f cd A outer s H E).A) (hb:Binds K fd ps [])
  (hg:Gl (cxOf (CXX P w) P w K mg base N qual scope f cd A outer s H E) x) (hm:mg x=some (.ref C)) (hdb:(x==("__debug__":Str))=false:=by decide) :
  PS (cxOf (CXX P w) P w K mg base N qual scope f cd A outer s H E) (.Raise (some (.Call (.Name x p) [] [] cpos)) none pos) (d78 C sp E tNil):=by
 intro pins s1 σ H1 D I h
 obtain ⟨hz,q⟩:([]:List V).length≤sizeLine∧_:=h
 refine vJ (wm M I ?_ hr.hd)
 refine wpAny_Call_Name_kw (kM I hg hm ?_ hdb)
 exact PySem.W.callWith_K0 I.kIn M.kp (d8X (us:=[]) M F hr hb dG I .nil (Nat.zero_le _) fun a hn=>q a hn)
end
end Xc
end
section
set_option linter.all false
namespace Sp
open Rb35
def cls (b:Nat):Nat:=
 if isWord b||(signs.contains b||(b==35||b==10)) then b else if b==9||(b==13||b==32) then 32 else 63
theorem kE:∀ b,b < 256→isSmall (cls b)=isSmall b∧isDigit (cls b)=isDigit b∧isWord (cls b)=isWord b∧(cls b==10)=(b==10)∧(cls b==35)=(b==35) ∧
  signs.contains (cls b)=signs.contains b∧((cls b==32)||(cls b==10))=isBlank b∧((isWord b||signs.contains b)=true→cls b=b):=by decide +kernel
abbrev PT:=List Nat×Nat
def dR:List Nat→Nat
 | []=>0
 | c::r=>if c=35 then ((c::r).takeWhile fun x=>x != 10).length else if isSmall c=true then ((c::r).takeWhile isWord).length
  else if isDigit c=true then ((c::r).takeWhile isDigit).length else 1
def jK (c:Nat):Bool:=c==32||(c==10||c==35)
def kO:Nat→Nat→List Nat→List PT
 | 0,at_,_=>[([],at_)]
 | f+1,at_,b=>match b with
  | []=>[([],at_)]
  | c::r=>if jK c=true then kO f (at_+dR (c::r)) ((c::r).drop (dR (c::r)))
   else ((c::r).take (dR (c::r)),at_)::kO f (at_+dR (c::r)) ((c::r).drop (dR (c::r)))
theorem kB (f at_ c:Nat) (r:List Nat):kO (f+1) at_ (c::r)=if jK c=true then kO f (at_+dR (c::r)) ((c::r).drop (dR (c::r)))
   else ((c::r).take (dR (c::r)),at_)::kO f (at_+dR (c::r)) ((c::r).drop (dR (c::r))):=rfl
def dm (w:List Nat):Tok:=match w with
 | []=>.ended
 | c::r=>if isSmall c=true then (if 15 < (c::r).length then .bad else .name (c::r))
  else if isDigit c=true then (if 5 < (c::r).length then .bad else .num (valueOf (c::r)))
  else if r=[]∧signs.contains c=true then .sign c else .bad
def absT:List PT→Toks
 | []=>[]
 | t::r=>match dm t.1 with
  | .bad=>[(.bad,t.2)]
  | .ended=>[(.ended,t.2)]
  | x=>(x,t.2)::absT r
theorem gV {p q:Nat→Bool}{g:Nat→Nat}:∀ {l:List Nat},(∀ x∈l,p (g x)=q x)→((l.map g).takeWhile p)=(l.takeWhile q).map g
 | [],_=>rfl
 | a::r,h=>by
  have h1:=h a List.mem_cons_self
  have h2:=gV (p:=p) (q:=q) (g:=g) (l:=r) fun x hx=>h x (List.mem_cons_of_mem _ hx)
  simp only [List.map_cons,List.takeWhile_cons,h1]
  cases q a <;> simp [h2]
theorem gL {p:Nat→Bool}:∀ {l:List Nat}{x:Nat},x∈l.takeWhile p→p x=true∧x∈l
 | [],_,h=>by simp at h
 | a::r,x,h=>by
  rw [List.takeWhile_cons] at h
  cases e:p a with
  | false=>rw [e] at h;simp at h
  | true=>
   rw [e] at h
   simp at h
   rcases h with rfl | h
   ·exact ⟨e,List.mem_cons_self⟩
   ·exact ⟨(gL h).1,List.mem_cons_of_mem _ (gL h).2⟩
theorem gP {p:Nat→Bool}:∀ (l:List Nat),l.take (l.takeWhile p).length=l.takeWhile p
 | []=>rfl
 | a::r=>by
  rw [List.takeWhile_cons]
  cases e:p a <;> simp [gP r]
theorem wR {g:Nat→Nat}:∀ {l:List Nat},(∀ x∈l,g x=x)→l.map g=l
 | [],_=>rfl
 | a::r,h=>by
  rw [List.map_cons,h a List.mem_cons_self,wR fun x hx=>h x (List.mem_cons_of_mem _ hx)]
theorem vi {g:Nat→Nat} (l:List Nat) (k:Nat):(l.map g).drop k=(l.drop k).map g:=(List.map_drop).symm
theorem vK:∀ (f at_:Nat) (b:List Nat),(∀ x∈b,x < 256)→absT (kO f at_ (b.map cls))=toksFrom f at_ b
 | 0,at_,b,_=>rfl
 | f+1,at_,[],_=>rfl
 | f+1,at_,c::r,hb=>by
  have hc:=kE c (hb c List.mem_cons_self)
  have hall:∀ x∈c::r,x < 256:=hb
  obtain ⟨h1,h2,h3,h4,h5,h6,h7,h8⟩:=hc
  have e35:(cls c=35)↔c=35:=by
   constructor
   ·intro e;have:=h5;rw [e] at this;simpa using this.symm
   ·intro e;have:=h5;rw [e] at this;simpa [e] using this
  have wW:((c::r).map cls).takeWhile isWord=(c::r).takeWhile isWord:=by
   rw [gV (q:=isWord) fun x hx=>(kE x (hall x hx)).2.2.1]
   exact wR fun x hx=>(kE x (hall x (gL hx).2)).2.2.2.2.2.2.2 (by simp [(gL hx).1])
  have wD:((c::r).map cls).takeWhile isDigit=(c::r).takeWhile isDigit:=by
   rw [gV (q:=isDigit) fun x hx=>(kE x (hall x hx)).2.1]
   exact wR fun x hx=>(kE x (hall x (gL hx).2)).2.2.2.2.2.2.2 (by
    have:=(gL hx).1
    simp [isWord,this])
  have wN:(((c::r).map cls).takeWhile fun x=>x != 10).length=((c::r).takeWhile fun x=>x != 10).length:=by
   rw [gV (q:=fun x=>x != 10) fun x hx=>by
    have:=(kE x (hall x hx)).2.2.2.1
    show (!(cls x==10))=!(x==10)
    rw [this]]
   exact List.length_map _
  have hlen:(c::r).map cls=cls c::r.map cls:=rfl
  have drops:∀ k x,x∈(c::r).drop k→x < 256:=fun k x hx=>hall x (List.mem_of_mem_drop hx)
  rw [toksFrom]
  rw [hlen,kB]
  by_cases hbl:isBlank c=true
  ·
   rw [if_pos hbl]
   have hs:jK (cls c)=true:=by
    rw [hbl] at h7
    unfold jK
    cases h32:(cls c==32) <;> simp_all
   rw [if_pos hs]
   have n35:¬ cls c=35:=by
    rw [e35];intro e;subst e;revert hbl;decide
   have nsm:isSmall (cls c)=false:=by
    rw [h1];cases e:isSmall c with
    | false=>rfl
    | true=>
     exfalso
     simp [isSmall] at e
     simp [isBlank] at hbl
     omega
   have ndg:isDigit (cls c)=false:=by
    rw [h2];cases e:isDigit c with
    | false=>rfl
    | true=>
     exfalso
     simp [isDigit] at e
     simp [isBlank] at hbl
     omega
   have er:dR (cls c::r.map cls)=1:=by
    unfold dR
    dsimp only
    rw [if_neg n35,if_neg (by simp [nsm]),if_neg (by simp [ndg])]
   rw [er]
   exact vK f (at_+1) r fun x hx=>hall x (List.mem_cons_of_mem _ hx)
  ·rw [if_neg hbl]
   have hbl':isBlank c=false:=by simpa using hbl
   rw [hbl'] at h7
   by_cases h35:c=35
   ·rw [if_pos h35]
    have e1:cls c=35:=e35.mpr h35
    have hs:jK (cls c)=true:=by rw [e1];rfl
    rw [if_pos hs]
    have er:dR (cls c::r.map cls)=((c::r).takeWhile fun x=>x != 10).length:=by
     unfold dR
     dsimp only
     rw [if_pos e1,←hlen,wN]
    rw [er,←hlen,vi]
    exact vK f _ _ (drops _)
   ·rw [if_neg h35]
    have n35:¬ cls c=35:=fun e=>h35 (e35.mp e)
    have hs:jK (cls c)=false:=by
     unfold jK
     cases h32:(cls c==32) <;> cases h10:(cls c==10) <;> simp_all
    rw [if_neg (by simp [hs])]
    by_cases hsm:isSmall c=true
    ·rw [if_pos hsm]
     have er:dR (cls c::r.map cls)=((c::r).takeWhile isWord).length:=by
      unfold dR
      dsimp only
      rw [if_neg n35,if_pos (by rw [h1];exact hsm),←hlen,wW]
     have et:(cls c::r.map cls).take ((c::r).takeWhile isWord).length=(c::r).takeWhile isWord:=by
      rw [←hlen,←wW]
      exact gP _
     have ew:(c::r).takeWhile isWord=c::r.takeWhile isWord:=by
      rw [List.takeWhile_cons,show isWord c=true by simp [isWord,hsm]]
      rfl
     rw [er,et,←hlen,vi]
     show absT (((c::r).takeWhile isWord,at_)::_)=_
     have ih:=vK f (at_+((c::r).takeWhile isWord).length) _ (drops ((c::r).takeWhile isWord).length)
     rw [absT,ih]
     dsimp only
     rw [ew]
     unfold dm
     dsimp only
     rw [if_pos hsm]
     by_cases hl:15 < (c::r.takeWhile isWord).length
     ·rw [if_pos hl,if_pos hl]
     ·rw [if_neg hl,if_neg hl]
    ·rw [if_neg hsm]
     by_cases hdg:isDigit c=true
     ·rw [if_pos hdg]
      have er:dR (cls c::r.map cls)=((c::r).takeWhile isDigit).length:=by
       unfold dR
       dsimp only
       rw [if_neg n35,if_neg (by rw [h1];exact hsm),if_pos (by rw [h2];exact hdg),←hlen,wD]
      have et:(cls c::r.map cls).take ((c::r).takeWhile isDigit).length=(c::r).takeWhile isDigit:=by
       rw [←hlen,←wD]
       exact gP _
      have ew:(c::r).takeWhile isDigit=c::r.takeWhile isDigit:=by
       rw [List.takeWhile_cons,hdg]
       rfl
      rw [er,et,←hlen,vi]
      show absT (((c::r).takeWhile isDigit,at_)::_)=_
      have ih:=vK f (at_+((c::r).takeWhile isDigit).length) _ (drops ((c::r).takeWhile isDigit).length)
      rw [absT,ih]
      dsimp only
      rw [ew]
      unfold dm
      dsimp only
      rw [if_neg hsm,if_pos hdg]
      by_cases hl:5 < (c::r.takeWhile isDigit).length
      ·rw [if_pos hl,if_pos hl]
      ·rw [if_neg hl,if_neg hl]
     ·rw [if_neg hdg]
      have er:dR (cls c::r.map cls)=1:=by
       unfold dR
       dsimp only
       rw [if_neg n35,if_neg (by rw [h1];exact hsm),if_neg (by rw [h2];exact hdg)]
      rw [er]
      show absT (([cls c],at_)::kO f (at_+1) (r.map cls))=_
      have ih:=vK f (at_+1) r fun x hx=>hall x (List.mem_cons_of_mem _ hx)
      rw [absT,ih]
      have ea:dm [cls c]=if signs.contains c=true then .sign c else .bad:=by
       unfold dm
       dsimp only
       rw [if_neg (by rw [h1];exact hsm),if_neg (by rw [h2];exact hdg)]
       by_cases hsg:signs.contains c=true
       ·rw [if_pos ⟨rfl,by rw [h6];exact hsg⟩,if_pos hsg,h8 (by rw [hsg,Bool.or_true])]
       ·rw [if_neg fun z=>hsg (by rw [←h6];exact z.2),if_neg hsg]
      dsimp only
      rw [ea]
      by_cases hsg:signs.contains c=true
      ·rw [if_pos hsg,if_pos hsg]
      ·rw [if_neg hsg,if_neg hsg]
end Sp
end
section
set_option linter.all false
namespace Sp
open Rb35
def ofL:List Form→Forms
 | []=>.nil
 | f::l=>.cons f (ofL l)
def toL:Forms→List Form
 | .nil=>[]
 | .cons f l=>f::toL l
theorem dBL:∀ l,toL (ofL l)=l
 | []=>rfl
 | f::l=>by rw [ofL,toL,dBL l]
theorem yS:∀ l,ofL (toL l)=l
 | .nil=>rfl
 | .cons f l=>by rw [toL,ofL,yS l]
theorem kR:∀ l:Forms,countOf l=(toL l).length
 | .nil=>rfl
 | .cons f l=>by rw [countOf,toL,List.length_cons,kR l]
theorem yH:∀ a b:Forms,toL (joined a b)=toL a++toL b
 | .nil,b=>rfl
 | .cons f l,b=>by rw [joined,toL,yH l b];rfl
theorem yF {c:Nat}{t:Toks} (h:is_ c t=true):t.drop 1=t.tail∧(t.drop 1).length+1=t.length:=by
 cases t with
 | nil=>simp [is_] at h
 | cons a r=>simp
theorem jR {c:Nat}{t u:Toks} (h:take_ c t=.ok u):u.length+1=t.length:=by
 unfold take_ at h
 by_cases q:is_ c t=true
 ·rw [if_pos q] at h
  cases h
  exact (yF q).2
 ·rw [if_neg q] at h;cases h
def gM (w:Nat):Prop:=w=0∨w=1∨w=2∨w=10∨w=11∨w=12
def cw (w:Nat):Nat:=if w=0 then 1 else if w=10 then 2 else if w=1 then 3 else if w=11 then 4 else if w=2 then 5 else 6
theorem gS (e:Known) (f what:Nat) (t:Toks):readAt e (f+1) what t =
  if 10≤what then (readAt e f (what-10) t).bind fun (x:Forms×Toks)=>if is_ (betweens what) x.2=true then (readAt e f what (x.2.drop 1)).map fun (y:Forms×Toks)=>(joined x.1 y.1,y.2) else .ok x
  else if 0 < what then (readAt e f (what+9) t).map fun (x:Forms×Toks)=>(grouped what x.1,x.2)
  else match t with
   | (.name b,k)::r=>(match (if keys.contains b=true then none else meaning e b) with
    | some x=>.ok (.cons x .nil,r)
    | none=>.error k)
   | (.num k,p)::r=>
    if k=0 then .error p
    else if isKey "of" r=false then .error (placeOf r)
    else (take_ 40 (r.drop 1)).bind fun (u:Toks)=>(readAt e f 12 u).bind fun (x:Forms×Toks)=>if is_ 41 x.2=false∨countOf x.1 < k then .error (placeOf x.2) else .ok (.cons (.some_ k x.1) .nil,x.2.drop 1)
   | u=>(take_ 40 u).bind fun (v:Toks)=>(readAt e f 2 v).bind fun (x:Forms×Toks)=>(take_ 41 x.2).map fun (r:Toks)=>(x.1,r):=rfl
theorem kj (e:Known):∀ (f what:Nat) (t:Toks) (x:Forms×Toks),gM what→readAt e f what t=.ok x→x.2.length < t.length
 | 0,what,t,x,_,h=>by simp [readAt] at h
 | f+1,what,t,x,hw,h=>by
  rw [gS] at h
  by_cases h10:10≤what
  ·rw [if_pos h10] at h
   cases q:readAt e f (what-10) t with
   | error k=>rw [q] at h;cases h
   | ok y=>
    rw [q] at h
    have hy:=kj e f (what-10) t y (by unfold gM at *;omega) q
    simp only [Except.bind] at h
    by_cases hi:is_ (betweens what) y.2=true
    ·rw [if_pos hi] at h
     cases q2:readAt e f what (y.2.drop 1) with
     | error k=>rw [q2] at h;cases h
     | ok z=>
      rw [q2] at h
      have hz:=kj e f what _ z hw q2
      simp only [Except.map,Except.ok.injEq] at h
      subst h
      have:=(yF hi).2
      show z.2.length < _
      omega
    ·rw [if_neg hi] at h
     cases h
     exact hy
  ·rw [if_neg h10] at h
   by_cases h0:0 < what
   ·rw [if_pos h0] at h
    cases q:readAt e f (what+9) t with
    | error k=>rw [q] at h;cases h
    | ok y=>
     rw [q] at h
     have hy:=kj e f (what+9) t y (by unfold gM at *;omega) q
     simp only [Except.map,Except.ok.injEq] at h
     subst h
     exact hy
   ·rw [if_neg h0] at h
    have paren:∀ (u:Toks),((take_ 40 u).bind fun (v:Toks)=>(readAt e f 2 v).bind fun (x:Forms×Toks)=>(take_ 41 x.2).map fun (r:Toks)=>(x.1,r))=.ok x→x.2.length < u.length:=by
     intro u h
     cases q:take_ 40 u with
     | error k=>rw [q] at h;cases h
     | ok v=>
      rw [q] at h
      simp only [Except.bind] at h
      cases q2:readAt e f 2 v with
      | error k=>rw [q2] at h;cases h
      | ok y=>
       rw [q2] at h
       simp only [Except.bind] at h
       cases q3:take_ 41 y.2 with
       | error k=>rw [q3] at h;cases h
       | ok r=>
        rw [q3] at h
        simp only [Except.map,Except.ok.injEq] at h
        subst h
        have h1:=jR q
        have h2:=jR q3
        have h3:=kj e f 2 v y (by unfold gM;omega) q2
        show r.length < _
        omega
    split at h
    ·rename_i b k r
     split at h
     ·cases h
      simp
     ·cases h
    ·rename_i k p r
     by_cases hk:k=0
     ·rw [if_pos hk] at h;cases h
     ·rw [if_neg hk] at h
      by_cases ho:isKey "of" r=false
      ·rw [if_pos ho] at h;cases h
      ·rw [if_neg ho] at h
       cases q:take_ 40 (r.drop 1) with
       | error k=>rw [q] at h;cases h
       | ok v=>
        rw [q] at h
        simp only [Except.bind] at h
        cases q2:readAt e f 12 v with
        | error k=>rw [q2] at h;cases h
        | ok y=>
         rw [q2] at h
         simp only [Except.bind] at h
         split at h
         ·cases h
         ·cases h
          have h1:=jR q
          have h3:=kj e f 12 v y (by unfold gM;omega) q2
          have h4:(r.drop 1).length≤r.length:=by simp
          show (y.2.drop 1).length < r.length+1
          have h5:(y.2.drop 1).length≤y.2.length:=by simp
          omega
    ·exact paren _ h
theorem yE (e:Known):∀ (f g what:Nat) (t:Toks),gM what→8*t.length+cw what≤f→8*t.length+cw what≤g→readAt e f what t=readAt e g what t
 | 0,g,what,t,hw,hf,hg=>by
  exfalso
  have:1≤cw what:=by unfold cw;repeat (first | split | omega)
  omega
 | f+1,0,what,t,hw,hf,hg=>by
  exfalso
  have:1≤cw what:=by unfold cw;repeat (first | split | omega)
  omega
 | f+1,g+1,what,t,hw,hf,hg=>by
  rw [gS,gS]
  by_cases h10:10≤what
  ·rw [if_pos h10,if_pos h10]
   have hw':gM (what-10):=by unfold gM at *;omega
   have hc:cw (what-10)+1≤cw what:=by
    unfold gM at hw
    rcases hw with h | h | h | h | h | h <;> subst h <;> first | omega | decide
   rw [yE e f g (what-10) t hw' (by omega) (by omega)]
   cases q:readAt e g (what-10) t with
   | error k=>rfl
   | ok y=>
    have hy:=kj e g (what-10) t y hw' q
    show (if is_ (betweens what) y.2=true then _ else _)=(if is_ (betweens what) y.2=true then _ else _)
    by_cases hi:is_ (betweens what) y.2=true
    ·rw [if_pos hi,if_pos hi]
     have:=(yF hi).2
     rw [yE e f g what (y.2.drop 1) hw (by omega) (by omega)]
    ·rw [if_neg hi,if_neg hi]
  ·rw [if_neg h10,if_neg h10]
   by_cases h0:0 < what
   ·rw [if_pos h0,if_pos h0]
    have hw':gM (what+9):=by unfold gM at *;omega
    have hc:cw (what+9)+1≤cw what:=by
     unfold gM at hw
     rcases hw with h | h | h | h | h | h <;> subst h <;> first | omega | decide
    rw [yE e f g (what+9) t hw' (by omega) (by omega)]
   ·rw [if_neg h0,if_neg h0]
    have e0:what=0:=by omega
    subst e0
    have c0:cw 0=1:=rfl
    have c2:cw 2=5:=rfl
    have c12:cw 12=6:=rfl
    rw [c0] at hf hg
    have paren:∀ (u:Toks),u.length=t.length→((take_ 40 u).bind fun (v:Toks)=>(readAt e f 2 v).bind fun (x:Forms×Toks)=>(take_ 41 x.2).map fun (r:Toks)=>(x.1,r)) =
      ((take_ 40 u).bind fun (v:Toks)=>(readAt e g 2 v).bind fun (x:Forms×Toks)=>(take_ 41 x.2).map fun (r:Toks)=>(x.1,r)):=by
     intro u hu
     cases q:take_ 40 u with
     | error k=>rfl
     | ok v=>
      have h1:=jR q
      show (readAt e f 2 v).bind _=(readAt e g 2 v).bind _
      rw [yE e f g 2 v (by unfold gM;omega) (by omega) (by omega)]
    split
    ·rfl
    ·rename_i k p r
     by_cases hk:k=0
     ·rw [if_pos hk,if_pos hk]
     ·rw [if_neg hk,if_neg hk]
      by_cases ho:isKey "of" r=false
      ·rw [if_pos ho,if_pos ho]
      ·rw [if_neg ho,if_neg ho]
       cases q:take_ 40 (r.drop 1) with
       | error k=>rfl
       | ok v=>
        have h1:=jR q
        have h4:(r.drop 1).length≤r.length:=by simp
        have h5:r.length+1≤8*(r.length+1):=by omega
        have hl:((Tok.num k,p)::r).length=r.length+1:=rfl
        rw [hl] at hf hg
        show (readAt e f 12 v).bind _=(readAt e g 12 v).bind _
        rw [yE e f g 12 v (by unfold gM;omega) (by omega) (by omega)]
    ·exact paren _ rfl
def R (e:Known) (what:Nat) (t:Toks):Read Forms:=readAt e (8*t.length+8) what t
theorem R_of (e:Known) {f what:Nat}{t:Toks} (hw:gM what) (hf:8*t.length+cw what≤f):readAt e f what t=R e what t:=by
 refine yE e f _ what t hw hf ?_
 have:cw what≤6:=by unfold cw;repeat (first | split | omega)
 omega
abbrev RF:=Except Nat (List Form×Toks)
def lst (r:Read Forms):RF:=r.map fun x=>(toL x.1,x.2)
def RL (e:Known) (what:Nat) (t:Toks):RF:=lst (R e what t)
def grp (what:Nat) (l:List Form):Form:=match l with
 | [f]=>f
 | l=>.some_ (if what=1 then l.length else 1) (ofL l)
theorem d8q (what:Nat) (l:Forms):toL (grouped what l)=[grp what (toL l)]:=by
 unfold grouped
 rw [kR]
 match l with
 | .nil=>rfl
 | .cons f .nil=>rfl
 | .cons f (.cons g r)=>
  rw [if_neg (by simp [toL])]
  show [Form.some_ _ (Forms.cons f (Forms.cons g r))]=[Form.some_ _ (ofL (toL (Forms.cons f (Forms.cons g r))))]
  rw [yS]
  rfl
theorem dCf {e:Known}{what:Nat}{t:Toks}{x:List Form×Toks} (hw:gM what) (h:RL e what t=.ok x):x.2.length < t.length:=by
 unfold RL lst at h
 cases q:R e what t with
 | error k=>rw [q] at h;cases h
 | ok y=>
  rw [q] at h
  simp only [Except.map,Except.ok.injEq] at h
  subst h
  exact kj e _ what t y hw q
theorem d8l (e:Known) {what:Nat} (t:Toks) (hw:what=10∨what=11∨what=12) :
  RL e what t=(RL e (what-10) t).bind fun x=>if is_ (betweens what) x.2=true then (RL e what (x.2.drop 1)).map fun y=>(x.1++y.1,y.2) else .ok x:=by
 unfold RL
 have ok1:gM what:=by unfold gM;omega
 have ok2:gM (what-10):=by unfold gM;omega
 have hc:cw (what-10)≤7:=by unfold cw;repeat (first | split | omega)
 have hc2:cw what≤7:=by unfold cw;repeat (first | split | omega)
 have u:R e what t=readAt e (8*t.length+7+1) what t:=rfl
 rw [u,gS,if_pos (by omega),R_of e ok2 (by omega)]
 cases q:R e (what-10) t with
 | error k=>rfl
 | ok y=>
  have hy:y.2.length < t.length:=kj e _ (what-10) t y ok2 q
  show lst (if is_ (betweens what) y.2=true then _ else _)=(if is_ (betweens what) y.2=true then _ else _)
  by_cases hi:is_ (betweens what) y.2=true
  ·rw [if_pos hi,if_pos hi]
   have:=(yF hi).2
   rw [R_of e ok1 (by omega)]
   cases q2:R e what (y.2.drop 1) with
   | error k=>rfl
   | ok z=>
    show Except.ok (toL (joined y.1 z.1),z.2)=Except.ok (toL y.1++toL z.1,z.2)
    rw [yH]
  ·rw [if_neg hi,if_neg hi]
   rfl
theorem dDw (e:Known) {what:Nat} (t:Toks) (hw:what=1∨what=2):RL e what t=(RL e (what+9) t).map fun x=>([grp what x.1],x.2):=by
 unfold RL
 have ok2:gM (what+9):=by unfold gM;omega
 have hc:cw (what+9)≤7:=by unfold cw;repeat (first | split | omega)
 have u:R e what t=readAt e (8*t.length+7+1) what t:=rfl
 rw [u,gS,if_neg (by omega),if_pos (by omega),R_of e ok2 (by omega)]
 cases q:R e (what+9) t with
 | error k=>rfl
 | ok y=>
  show Except.ok (toL (grouped what y.1),y.2)=Except.ok ([grp what (toL y.1)],y.2)
  rw [d8q]
def d4Q (e:Known) (u:Toks):RF:=(take_ 40 u).bind fun v=>(RL e 2 v).bind fun x=>(take_ 41 x.2).map fun r=>(x.1,r)
theorem vb (e:Known) (u:Toks) (n:Nat) (hn:8*u.length≤n):lst ((take_ 40 u).bind fun (v:Toks)=>(readAt e n 2 v).bind fun (x:Forms×Toks)=>(take_ 41 x.2).map fun (r:Toks)=>(x.1,r))=d4Q e u:=by
 unfold d4Q
 cases q:take_ 40 u with
 | error k=>rfl
 | ok v=>
  have h1:=jR q
  show lst ((readAt e n 2 v).bind _)=(RL e 2 v).bind _
  have c2:cw 2=5:=rfl
  rw [R_of e (by unfold gM;omega) (by rw [c2];omega)]
  unfold RL
  cases q2:R e 2 v with
  | error k=>rfl
  | ok y=>
   show lst ((take_ 41 y.2).map _)=(take_ 41 y.2).map _
   cases take_ 41 y.2 <;> rfl
theorem dBN (e:Known) (b:Bytes) (k:Nat) (r:Toks):RL e 0 ((.name b,k)::r)=match (if keys.contains b=true then none else meaning e b) with
  | some x=>.ok ([x],r)
  | none=>.error k:=by
 unfold RL
 have u:R e 0 ((.name b,k)::r)=readAt e (8*((Tok.name b,k)::r).length+7+1) 0 ((.name b,k)::r):=rfl
 rw [u,gS,if_neg (by omega),if_neg (by omega)]
 dsimp only
 cases (if keys.contains b=true then none else meaning e b) <;> rfl
theorem d91 (e:Known) (k p:Nat) (r:Toks):RL e 0 ((.num k,p)::r)=if k=0 then .error p else if isKey "of" r=false then .error (placeOf r) else
  (take_ 40 (r.drop 1)).bind fun u=>(RL e 12 u).bind fun x=>if is_ 41 x.2=false∨x.1.length < k then .error (placeOf x.2) else .ok ([.some_ k (ofL x.1)],x.2.drop 1):=by
 unfold RL
 have u:R e 0 ((.num k,p)::r)=readAt e (8*((Tok.num k,p)::r).length+7+1) 0 ((.num k,p)::r):=rfl
 rw [u,gS,if_neg (by omega),if_neg (by omega)]
 dsimp only
 by_cases hk:k=0
 ·rw [if_pos hk,if_pos hk];rfl
 ·rw [if_neg hk,if_neg hk]
  by_cases ho:isKey "of" r=false
  ·rw [if_pos ho,if_pos ho];rfl
  ·rw [if_neg ho,if_neg ho]
   cases q:take_ 40 (r.drop 1) with
   | error k=>rfl
   | ok v=>
    have h1:=jR q
    have h4:(r.drop 1).length≤r.length:=by simp
    have c12:cw 12=6:=rfl
    show lst ((readAt e _ 12 v).bind _)=(lst (R e 12 v)).bind _
    rw [R_of e (by unfold gM;omega) (by rw [c12,List.length_cons];omega)]
    cases q2:R e 12 v with
    | error k=>rfl
    | ok y=>
     show lst (if is_ 41 y.2=false∨countOf y.1 < k then _ else _)=(if is_ 41 y.2=false∨(toL y.1).length < k then _ else _)
     rw [kR]
     by_cases hh:is_ 41 y.2=false∨(toL y.1).length < k
     ·rw [if_pos hh,if_pos hh];rfl
     ·rw [if_neg hh,if_neg hh]
      show Except.ok (toL (Forms.cons (Form.some_ k y.1) .nil),y.2.drop 1)=Except.ok ([Form.some_ k (ofL (toL y.1))],y.2.drop 1)
      rw [yS];rfl
def d9K:Toks→Bool
 | (.name _,_)::_=>false
 | (.num _,_)::_=>false
 | _=>true
theorem dCO (e:Known) (t:Toks) (h:d9K t=true):RL e 0 t=d4Q e t:=by
 unfold RL
 have u:R e 0 t=readAt e (8*t.length+7+1) 0 t:=rfl
 rw [u,gS,if_neg (by omega),if_neg (by omega)]
 match t,h with
 | [],_=>exact vb e [] _ (by simp)
 | (.sign c,k)::r,_=>exact vb e _ _ (by omega)
 | (.bad,k)::r,_=>exact vb e _ _ (by omega)
 | (.ended,k)::r,_=>exact vb e _ _ (by omega)
theorem yG (e:Known) (t:Toks):formula e t=(RL e 2 t).map fun x=>(first (ofL x.1),x.2):=by
 unfold formula RL R
 cases readAt e (8*t.length+8) 2 t with
 | error k=>rfl
 | ok y=>
  show Except.ok (first y.1,y.2)=Except.ok (first (ofL (toL y.1)),y.2)
  rw [yS]
structure Fra where
 asked:Nat
 fs:List Form
 bs:List Form
 ps:List Form
def Fra.empty (k:Nat):Fra:=⟨k,[],[],[]⟩
section
variable (e:Known)
def a10 (ps:List Form) (t:Toks):RF:=if is_ 38 t=true then (RL e 10 (t.drop 1)).map fun y=>(ps++y.1,y.2) else .ok (ps,t)
def a11 (bs ps:List Form) (t:Toks):RF:=(a10 e ps t).bind fun x=>if is_ 124 x.2=true then (RL e 11 (x.2.drop 1)).map fun y=>((bs++[grp 1 x.1])++y.1,y.2) else .ok (bs++[grp 1 x.1],x.2)
def a2 (F:Fra) (t:Toks):Except Nat (Form×Toks):=(a11 e F.bs F.ps t).map fun x=>(grp 2 x.1,x.2)
def a12 (F:Fra) (t:Toks):RF:=(a2 e F t).bind fun x=>if is_ 44 x.2=true then (RL e 12 (x.2.drop 1)).map fun y=>((F.fs++[x.1])++y.1,y.2) else .ok (F.fs++[x.1],x.2)
def fin (F:Fra) (t:Toks):Except Nat (Form×Toks):=
 if F.asked=0 then (a2 e F t).bind fun x=>(take_ 41 x.2).map fun r=>(x.1,r)
 else (a12 e F t).bind fun x=>if is_ 41 x.2=false∨x.1.length < F.asked then .error (placeOf x.2) else .ok (.some_ F.asked (ofL x.1),x.2.drop 1)
def cAll:Fra→List Fra→Toks→Except Nat (Form×Toks)
 | F,[],t=>a2 e F t
 | F,G::r,t=>(fin e F t).bind fun x=>cAll { G with ps:=G.ps++[x.1] } r x.2
def bAll (F:Fra) (r:List Fra) (t:Toks):Except Nat (Form×Toks):=(RL e 0 t).bind fun x=>cAll e { F with ps:=F.ps++x.1 } r x.2
end
section
variable {e:Known}{F G:Fra}{r:List Fra}{t:Toks}
theorem dO {α β γ:Type} (x:Except Nat α) (f:α→Except Nat β) (g:β→Except Nat γ):(x.bind f).bind g=x.bind fun a=>(f a).bind g:=by cases x <;> rfl
theorem vm {α β γ:Type} (x:Except Nat α) (f:α→β) (g:β→Except Nat γ):(x.map f).bind g=x.bind fun a=>g (f a):=by cases x <;> rfl
theorem gq {α β γ:Type} (x:Except Nat α) (f:α→Except Nat β) (g:β→γ):(x.bind f).map g=x.bind fun a=>(f a).map g:=by cases x <;> rfl
theorem v4 {α β γ:Type} (x:Except Nat α) (f:α→β) (g:β→γ):(x.map f).map g=x.map fun a=>g (f a):=by cases x <;> rfl
theorem dFB {α:Type} (x:Except Nat α):(x.map fun a=>a)=x:=by cases x <;> rfl
theorem dF {α β:Type}{x:Except Nat α}{f g:α→Except Nat β} (h:∀ a,x=.ok a→f a=g a):x.bind f=x.bind g:=by
 cases x with
 | error k=>rfl
 | ok a=>exact h a rfl
theorem RL10 (e:Known) (t:Toks):RL e 10 t=(RL e 0 t).bind fun x=>a10 e x.1 x.2:=by
 rw [d8l e t (.inl rfl)]
 refine dF fun x _=>?_
 unfold a10
 rfl
theorem RL1 (e:Known) (t:Toks):RL e 1 t=(RL e 10 t).map fun x=>([grp 1 x.1],x.2):=dDw e t (.inl rfl)
theorem RL2 (e:Known) (t:Toks):RL e 2 t=(RL e 11 t).map fun x=>([grp 2 x.1],x.2):=dDw e t (.inr rfl)
theorem RL11 (e:Known) (t:Toks):RL e 11 t=(RL e 0 t).bind fun x=>a11 e [] x.1 x.2:=by
 rw [d8l e t (.inr (.inl rfl))]
 show (RL e 1 t).bind _=_
 rw [RL1,RL10,vm,dO]
 refine dF fun x _=>?_
 unfold a11
 refine dF fun y _=>?_
 show (if is_ 124 y.2=true then _ else _)=if is_ 124 y.2=true then _ else _
 rfl
theorem RL2' (e:Known) (t:Toks):RL e 2 t=(RL e 0 t).bind fun x=>(a2 e ⟨0,[],[],x.1⟩ x.2).map fun y=>([y.1],y.2):=by
 rw [RL2,RL11,gq]
 refine dF fun x _=>?_
 unfold a2
 rw [v4]
theorem RL12 (e:Known) (k:Nat) (t:Toks):RL e 12 t=(RL e 0 t).bind fun x=>a12 e ⟨k,[],[],x.1⟩ x.2:=by
 rw [d8l e t (.inr (.inr rfl))]
 show (RL e 2 t).bind _=_
 rw [RL2',dO]
 refine dF fun x _=>?_
 unfold a12
 rw [vm]
 show (a2 e ⟨0,[],[],x.1⟩ x.2).bind _=(a2 e ⟨0,[],[],x.1⟩ x.2).bind _
 refine dF fun y _=>?_
 show (if is_ 44 y.2=true then _ else _)=if is_ 44 y.2=true then _ else _
 rfl
theorem yi (e:Known) (t:Toks):formula e t=bAll e (Fra.empty 0) [] t:=by
 rw [yG,RL2',gq]
 unfold bAll
 refine dF fun x _=>?_
 rw [v4]
 show (a2 e ⟨0,[],[],x.1⟩ x.2).map (fun a=>(a.1,a.2))=a2 e ⟨0,[],[],x.1⟩ x.2
 exact dFB _
theorem dFk (k:Nat):bAll e F r ((.sign 40,k)::t)=bAll e (Fra.empty 0) (F::r) t:=by
 unfold bAll
 rw [dCO e _ rfl]
 unfold d4Q
 show ((RL e 2 t).bind _).bind _=_
 rw [dO,RL2',dO]
 refine dF fun x _=>?_
 rw [vm]
 show _=(fin e ⟨0,[],[],x.1⟩ x.2).bind _
 unfold fin
 rw [if_pos rfl,dO]
 refine dF fun y _=>?_
 cases take_ 41 y.2 <;> rfl
theorem dEz {b:Bytes} (k p q s:Nat) (hk:k≠0) (hb:b=ascii "of"):bAll e F r ((.num k,p)::(.name b,q)::(.sign 40,s)::t)=bAll e (Fra.empty k) (F::r) t:=by
 unfold bAll
 rw [d91,if_neg hk,if_neg (by simp [isKey,hb])]
 show ((RL e 12 t).bind _).bind _=_
 rw [dO,RL12 e k,dO]
 refine dF fun x _=>?_
 show _=(fin e ⟨k,[],[],x.1⟩ x.2).bind _
 unfold fin
 rw [if_neg hk,dO]
 refine dF fun y _=>?_
 show (if is_ 41 y.2=false∨y.1.length < k then _ else _:RF).bind _=(if is_ 41 y.2=false∨y.1.length < k then _ else _:Except Nat (Form×Toks)).bind _
 by_cases hh:is_ 41 y.2=false∨y.1.length < k
 ·rw [if_pos hh,if_pos hh];rfl
 ·rw [if_neg hh,if_neg hh];rfl
theorem dFP {b:Bytes}{x:Form} (k:Nat) (hk:keys.contains b=false) (hm:meaning e b=some x):bAll e F r ((.name b,k)::t)=cAll e { F with ps:=F.ps++[x] } r t:=by
 unfold bAll
 rw [dBN,hk]
 show (match meaning e b with | some x=>_ | none=>_:RF).bind _=_
 rw [hm]
 rfl
theorem dGf (h:RL e 0 t=.error (placeOf t)):bAll e F r t=.error (placeOf t):=by
 unfold bAll
 rw [h];rfl
theorem dGt (k:Nat):cAll e F r ((.sign 38,k)::t)=bAll e F r t:=by
 have h10:a10 e F.ps ((.sign 38,k)::t)=(RL e 0 t).bind fun x=>a10 e (F.ps++x.1) x.2:=by
  rw [show a10 e F.ps ((.sign 38,k)::t)=(RL e 10 t).map (fun y=>(F.ps++y.1,y.2)) from rfl,RL10,gq]
  refine dF fun x _=>?_
  unfold a10
  by_cases hi:is_ 38 x.2=true
  ·rw [if_pos hi,if_pos hi,v4]
   congr 1
   funext y
   show (F.ps++(x.1++y.1),y.2)=((F.ps++x.1)++y.1,y.2)
   rw [List.append_assoc]
  ·rw [if_neg hi,if_neg hi];rfl
 have h2:∀ k' fs,a2 e ⟨k',fs,F.bs,F.ps⟩ ((.sign 38,k)::t)=(RL e 0 t).bind fun x=>a2 e ⟨k',fs,F.bs,F.ps++x.1⟩ x.2:=by
  intro k' fs
  unfold a2 a11
  rw [h10,dO,gq]
 unfold bAll
 cases r with
 | nil=>exact h2 F.asked F.fs
 | cons G r=>
  show (fin e F _).bind _=(RL e 0 t).bind fun x=>(fin e ⟨F.asked,F.fs,F.bs,F.ps++x.1⟩ x.2).bind _
  rw [←dO]
  congr 1
  unfold fin
  by_cases h0:F.asked=0
  ·rw [if_pos h0]
   have:=h2 F.asked F.fs
   rw [show a2 e F ((.sign 38,k)::t)=_ from this,dO]
   refine dF fun x _=>?_
   rw [if_pos h0]
  ·rw [if_neg h0]
   unfold a12
   rw [show a2 e F ((.sign 38,k)::t)=_ from h2 F.asked F.fs,dO,dO]
   refine dF fun x _=>?_
   rw [if_neg h0,dO]
theorem c_or (k:Nat):cAll e F r ((.sign 124,k)::t)=bAll e ⟨F.asked,F.fs,F.bs++[grp 1 F.ps],[]⟩ r t:=by
 have h11:a11 e F.bs F.ps ((.sign 124,k)::t)=(RL e 0 t).bind fun x=>a11 e (F.bs++[grp 1 F.ps]) x.1 x.2:=by
  have h10:a10 e F.ps ((.sign 124,k)::t)=.ok (F.ps,(.sign 124,k)::t):=by
   unfold a10
   rw [if_neg (by simp [is_])]
  rw [show a11 e F.bs F.ps ((.sign 124,k)::t)=(RL e 11 t).map (fun y=>((F.bs++[grp 1 F.ps])++y.1,y.2)) from by rw [a11,h10];rfl,RL11,gq]
  refine dF fun x _=>?_
  unfold a11
  rw [gq]
  refine dF fun y _=>?_
  by_cases hi:is_ 124 y.2=true
  ·rw [if_pos hi,if_pos hi,v4]
   congr 1
   funext z
   show (_++(([]++[grp 1 y.1])++z.1),z.2)=(((F.bs++[grp 1 F.ps])++[grp 1 y.1])++z.1,z.2)
   rw [List.nil_append,←List.append_assoc]
  ·rw [if_neg hi,if_neg hi];rfl
 have h2:∀ k' fs,a2 e ⟨k',fs,F.bs,F.ps⟩ ((.sign 124,k)::t)=(RL e 0 t).bind fun x=>a2 e ⟨k',fs,F.bs++[grp 1 F.ps],x.1⟩ x.2:=by
  intro k' fs
  unfold a2
  dsimp only
  rw [h11,gq]
 unfold bAll
 cases r with
 | nil=>exact h2 F.asked F.fs
 | cons G r=>
  show (fin e F _).bind _=(RL e 0 t).bind fun x=>(fin e ⟨F.asked,F.fs,F.bs++[grp 1 F.ps],x.1⟩ x.2).bind _
  rw [←dO]
  congr 1
  unfold fin
  by_cases h0:F.asked=0
  ·rw [if_pos h0]
   rw [show a2 e F ((.sign 124,k)::t)=_ from h2 F.asked F.fs,dO]
   refine dF fun x _=>?_
   rw [if_pos h0]
  ·rw [if_neg h0]
   unfold a12
   rw [show a2 e F ((.sign 124,k)::t)=_ from h2 F.asked F.fs,dO,dO]
   refine dF fun x _=>?_
   rw [if_neg h0,dO]
theorem vw (h1:is_ 38 t=false) (h2:is_ 124 t=false):a2 e F t=.ok (grp 2 (F.bs++[grp 1 F.ps]),t):=by
 unfold a2 a11 a10
 rw [if_neg (by simp [h1])]
 show (if is_ 124 t=true then _ else _:RF).map _=_
 rw [if_neg (by simp [h2])]
 rfl
theorem dF2 (k:Nat) (h0:F.asked≠0) (G:Fra):cAll e F (G::r) ((.sign 44,k)::t)=bAll e ⟨F.asked,F.fs++[grp 2 (F.bs++[grp 1 F.ps])],[],[]⟩ (G::r) t:=by
 unfold bAll
 show (fin e F _).bind _=(RL e 0 t).bind fun x=>(fin e ⟨F.asked,F.fs++[grp 2 (F.bs++[grp 1 F.ps])],[],x.1⟩ x.2).bind _
 rw [←dO]
 congr 1
 unfold fin
 rw [if_neg h0]
 have h12:a12 e F ((.sign 44,k)::t)=(RL e 0 t).bind fun x=>a12 e ⟨F.asked,F.fs++[grp 2 (F.bs++[grp 1 F.ps])],[],x.1⟩ x.2:=by
  rw [show a12 e F ((.sign 44,k)::t)=(RL e 12 t).map (fun y=>((F.fs++[grp 2 (F.bs++[grp 1 F.ps])])++y.1,y.2)) from by rw [a12,vw rfl rfl];rfl,RL12 e F.asked,gq]
  refine dF fun x _=>?_
  unfold a12
  rw [gq]
  show (a2 e ⟨F.asked,[],[],x.1⟩ x.2).bind _=(a2 e ⟨F.asked,[],[],x.1⟩ x.2).bind _
  refine dF fun y _=>?_
  by_cases hi:is_ 44 y.2=true
  ·rw [if_pos hi,if_pos hi,v4]
   congr 1
   funext z
   show (_++(([]++[y.1])++z.1),z.2)=(((F.fs++[grp 2 (F.bs++[grp 1 F.ps])])++[y.1])++z.1,z.2)
   rw [List.nil_append,←List.append_assoc]
  ·rw [if_neg hi,if_neg hi];rfl
 rw [h12,dO]
 refine dF fun x _=>?_
 rw [if_neg h0]
theorem dF4 (k:Nat) (h0:F.asked=0):cAll e F (G::r) ((.sign 41,k)::t)=cAll e { G with ps:=G.ps++[grp 2 (F.bs++[grp 1 F.ps])] } r t:=by
 show (fin e F _).bind _=_
 unfold fin
 rw [if_pos h0,vw rfl rfl]
 rfl
theorem wQ (h0:F.asked≠0) (h1:is_ 38 t=false) (h2:is_ 124 t=false) (h4:is_ 44 t=false):fin e F t =
  if is_ 41 t=false∨(F.fs++[grp 2 (F.bs++[grp 1 F.ps])]).length < F.asked then .error (placeOf t) else .ok (.some_ F.asked (ofL (F.fs++[grp 2 (F.bs++[grp 1 F.ps])])),t.drop 1):=by
 have h12:a12 e F t=.ok (F.fs++[grp 2 (F.bs++[grp 1 F.ps])],t):=by
  rw [a12,vw h1 h2]
  simp only [Except.bind,h4,Bool.false_eq_true,if_false]
 rw [fin,if_neg h0,h12]
 rfl
theorem dD0 (k:Nat) (h0:F.asked≠0) (hk:F.asked≤(F.fs++[grp 2 (F.bs++[grp 1 F.ps])]).length) :
  cAll e F (G::r) ((.sign 41,k)::t)=cAll e { G with ps:=G.ps++[.some_ F.asked (ofL (F.fs++[grp 2 (F.bs++[grp 1 F.ps])]))] } r t:=by
 rw [cAll,wQ h0 rfl rfl rfl,if_neg (by
  rintro (h | h)
  ·simp [is_] at h
  ·omega)]
 rfl
theorem dGb (k:Nat) (h0:F.asked≠0) (hk:(F.fs++[grp 2 (F.bs++[grp 1 F.ps])]).length < F.asked):cAll e F (G::r) ((.sign 41,k)::t)=.error k:=by
 rw [cAll,wQ h0 rfl rfl rfl,if_pos (.inr hk)]
 rfl
theorem dGk (h1:is_ 38 t=false) (h2:is_ 124 t=false) (h3:is_ 41 t=false) (h4:is_ 44 t=false∨F.asked=0):cAll e F (G::r) t=.error (placeOf t):=by
 rw [cAll]
 by_cases h0:F.asked=0
 ·rw [fin,if_pos h0,vw h1 h2]
  simp only [Except.bind,take_,h3,Bool.false_eq_true,if_false,Except.map]
 ·rw [wQ h0 h1 h2 (h4.resolve_right h0),if_pos (.inl h3)]
  rfl
theorem dGT (h1:is_ 38 t=false) (h2:is_ 124 t=false):cAll e F [] t=.ok (grp 2 (F.bs++[grp 1 F.ps]),t):=vw h1 h2
end
end Sp
end
section
set_option linter.all false
namespace Sp
open Rb35
abbrev dI:=Nat×List Nat
def dens (P:Nat) (ns:List dI):List Form:=ns.foldl (fun d n=>d++[.some_ n.1 (ofL (n.2.map fun i=>d.getD i (.one 0)))]) ((List.range P).map .one)
def den (P:Nat) (ns:List dI) (i:Nat):Form:=(dens P ns).getD i (.one 0)
theorem uY (P:Nat) (ns:List dI) (n:dI):dens P (ns++[n])=dens P ns++[.some_ n.1 (ofL (n.2.map (den P ns)))]:=by
 unfold dens
 rw [List.foldl_append]
 rfl
theorem kI {α:Type}{p:List α→Prop} (h0:p []) (h1:∀ l a,p l→p (l++[a])) (l:List α):p l:=by
 have:∀ r:List α,p r.reverse:=fun r=>by
  induction r with
  | nil=>exact h0
  | cons a r ih=>rw [List.reverse_cons];exact h1 _ _ ih
 have h:=this l.reverse
 rwa [List.reverse_reverse] at h
theorem jU (P:Nat) (ns:List dI):(dens P ns).length=P+ns.length:=by
 induction ns using kI with
 | h0=>simp [dens]
 | h1 l a ih=>rw [uY,List.length_append,ih,List.length_append];simp;omega
theorem d8K (P:Nat) (ns more:List dI):∃ d,dens P (ns++more)=dens P ns++d:=by
 induction more using kI with
 | h0=>exact ⟨[],by simp⟩
 | h1 l a ih=>
  obtain ⟨d,e⟩:=ih
  refine ⟨d++[Form.some_ a.1 (ofL (a.2.map (den P (ns++l))))],?_⟩
  rw [←List.append_assoc,uY,e,List.append_assoc]
theorem den_ext {P:Nat}{ns:List dI} (more:List dI) {i:Nat} (h:i < P+ns.length):den P (ns++more) i=den P ns i:=by
 obtain ⟨d,e⟩:=d8K P ns more
 unfold den
 rw [e,List.getD_eq_getElem?_getD,List.getD_eq_getElem?_getD,List.getElem?_append_left (by rw [jU];exact h)]
theorem uN (P:Nat) (ns:List dI) (n:dI):den P (ns++[n]) (P+ns.length)=.some_ n.1 (ofL (n.2.map (den P ns))):=by
 show (dens P (ns++[n])).getD (P+ns.length) (.one 0)=_
 rw [uY,List.getD_eq_getElem?_getD,List.getElem?_append_right (by rw [jU];exact Nat.le_refl _),jU,Nat.sub_self]
 rfl
theorem gU {P:Nat} (ns:List dI) {i:Nat} (h:i < P):den P ns i=.one i:=by
 have e:=den_ext (P:=P) (ns:=[]) ns (i:=i) (by simpa using h)
 rw [List.nil_append] at e
 rw [e]
 unfold den dens
 rw [List.foldl_nil,List.getD_eq_getElem?_getD,List.getElem?_map,List.getElem?_range h]
 rfl
theorem ge {P:Nat}{ns:List dI} (more:List dI) {l:List Nat} (h:∀ i∈l,i < P+ns.length):l.map (den P (ns++more))=l.map (den P ns):=
 List.map_congr_left fun i hi=>den_ext more (h i hi)
def Good (P:Nat) (ns:List dI):Prop:=∀ (j:Nat) (n:dI),ns[j]?=some n→(∀ i∈n.2,i < P+j)∧1≤n.1∧n.1≤n.2.length
theorem Good.nil {P:Nat}:Good P []:=fun j n h=>by simp at h
theorem Good.snoc {P:Nat}{ns:List dI}{n:dI} (g:Good P ns) (h:∀ i∈n.2,i < P+ns.length) (h1:1≤n.1) (h2:n.1≤n.2.length):Good P (ns++[n]):=fun j m e=>by
 by_cases hj:j < ns.length
 ·rw [List.getElem?_append_left hj] at e
  exact g j m e
 ·rw [List.getElem?_append_right (by omega)] at e
  have hj2:j-ns.length=0:=by
   cases q:j-ns.length with
   | zero=>rfl
   | succ k=>rw [q] at e;simp at e
  rw [hj2] at e
  simp at e
  subst e
  have:j=ns.length:=by omega
  subst this
  exact ⟨h,h1,h2⟩
theorem Good.init {P:Nat}{ns:List dI}{n:dI} (g:Good P (ns++[n])):Good P ns∧(∀ i∈n.2,i < P+ns.length)∧1≤n.1∧n.1≤n.2.length:=by
 refine ⟨fun j m e=>g j m ?_,g ns.length n (by simp)⟩
 rw [List.getElem?_append_left (List.getElem?_eq_some_iff.mp e).1]
 exact e
def d3B {α:Type} (base:Nat→α) (step:Nat→List α→α) (dflt:α) (P:Nat) (ns:List dI):List α:=
 ns.foldl (fun d n=>d++[step n.1 (n.2.map fun i=>d.getD i dflt)]) ((List.range P).map base)
theorem yC {α:Type} (base:Nat→α) (step:Nat→List α→α) (dflt:α) (P:Nat) (ns:List dI) (n:dI) :
  d3B base step dflt P (ns++[n])=d3B base step dflt P ns++[step n.1 (n.2.map fun i=>(d3B base step dflt P ns).getD i dflt)]:=by
 unfold d3B
 rw [List.foldl_append]
 rfl
theorem dD5 {α:Type}{base:Nat→α}{step:Nat→List α→α}{dflt:α}{P:Nat} (g:Form→α) (h1:∀ i,g (.one i)=base i) (h2:∀ k l,g (.some_ k (ofL l))=step k (l.map g)) (ns:List dI) (ok:Good P ns) :
  d3B base step dflt P ns=(dens P ns).map g:=by
 induction ns using kI with
 | h0=>
  show (List.range P).map base=((List.range P).map Form.one).map g
  rw [List.map_map]
  exact List.map_congr_left fun i _=>(h1 i).symm
 | h1 l a ih=>
  obtain ⟨g1,g2,_⟩:=ok.init
  rw [yC,uY,ih g1,List.map_append,List.map_cons,List.map_nil,h2,List.map_map]
  congr 2
  congr 1
  refine List.map_congr_left fun i hi=>?_
  have hl:i < (dens P l).length:=by rw [jU];exact g2 i hi
  show ((dens P l).map g).getD i dflt=g ((dens P l).getD i (.one 0))
  rw [List.getD_eq_getElem?_getD,List.getD_eq_getElem?_getD,List.getElem?_map,List.getElem?_eq_getElem hl]
  rfl
theorem dDB {α:Type}{base:Nat→α}{step:Nat→List α→α}{dflt:α}{P:Nat} (g:Form→α) (h1:∀ i,g (.one i)=base i) (h2:∀ k l,g (.some_ k (ofL l))=step k (l.map g)) (ns:List dI) (ok:Good P ns) {i:Nat} (hi:i < P+ns.length) :
  (d3B base step dflt P ns)[i]?=some (g (den P ns i)):=by
 have hl:i < (dens P ns).length:=by rw [jU];exact hi
 rw [dD5 g h1 h2 ns ok,List.getElem?_map,List.getElem?_eq_getElem hl]
 unfold den
 rw [List.getD_eq_getElem?_getD,List.getElem?_eq_getElem hl]
 rfl
theorem g9:∀ l:List Form,(leavesIn (ofL l)).length=(l.map fun f=>(leaves f).length).sum
 | []=>rfl
 | f::l=>by rw [ofL,leavesIn,List.length_append,g9 l];rfl
theorem d87 (l:List Form):countOf (ofL l)=l.length:=by rw [kR,dBL]
theorem wB (p:Nat):∀ l:List Form,soundIn p (ofL l)=true↔∀ f∈l,sound p f=true
 | []=>by simp [ofL,soundIn]
 | f::l=>by rw [ofL,soundIn,Bool.and_eq_true,wB p l];simp
theorem vC (p k:Nat) (l:List Form):sound p (.some_ k (ofL l))=true↔1≤k∧k≤l.length∧l.length < p∧∀ f∈l,sound p f=true:=by
 rw [sound,Bool.and_eq_true,Bool.and_eq_true,Bool.and_eq_true,wB,d87]
 simp
def w6 (p:Nat) (ns:List dI):Prop:=∀ n∈ns,n.2.length < p
theorem vd {p P:Nat} (ns:List dI) (ok:Good P ns) (h:w6 p ns):∀ i,i < P+ns.length→sound p (den P ns i)=true:=by
 induction ns using kI with
 | h0=>
  intro i hi
  rw [gU [] (by simpa using hi)]
  rfl
 | h1 l a ih=>
  obtain ⟨g1,g2,g3,g4⟩:=ok.init
  have ih':=ih g1 fun n hn=>h n (List.mem_append_left _ hn)
  intro i hi
  by_cases hl:i < P+l.length
  ·rw [den_ext [a] hl];exact ih' i hl
  ·have e:i=P+l.length:=by rw [List.length_append] at hi;simp at hi;omega
   subst e
   rw [uN,vC,List.length_map]
   refine ⟨g3,g4,h a (by simp),fun f hf=>?_⟩
   obtain ⟨j,hj,rfl⟩:=List.mem_map.mp hf
   exact ih' j (g2 j hj)
theorem js {P:Nat}{ns:List dI} (ok:Good P ns) {j:Nat}{n:dI} (h:ns[j]?=some n):den P ns (P+j)=.some_ n.1 (ofL (n.2.map (den P ns))):=by
 obtain ⟨hj,e⟩:=List.getElem?_eq_some_iff.mp h
 have hs:ns=(ns.take j++[n])++ns.drop (j+1):=by
  rw [←e,List.append_assoc,List.singleton_append,List.getElem_cons_drop,List.take_append_drop]
 have hl:(ns.take j).length=j:=by rw [List.length_take,Nat.min_eq_left (Nat.le_of_lt hj)]
 have h1:den P ((ns.take j++[n])++ns.drop (j+1)) (P+j)=den P (ns.take j++[n]) (P+j):=den_ext _ (by rw [List.length_append,hl];simp)
 have h2:den P (ns.take j++[n]) (P+(ns.take j).length)=.some_ n.1 (ofL (n.2.map (den P (ns.take j)))):=uN _ _ _
 rw [hl] at h2
 rw [←hs] at h1
 rw [h1,h2]
 have g:=(ok j n h).1
 have h3:∀ i∈n.2,i < P+(ns.take j).length:=fun i hi=>by rw [hl];exact g i hi
 have h4:=ge (P:=P) (ns:=ns.take j) ([n]++ns.drop (j+1)) h3
 rw [←List.append_assoc,←hs] at h4
 rw [h4]
def dGd (q:Form→Prop):Prop:=∀ k l,q (.some_ k (ofL l))→∀ f∈l,q f
def Cov (P:Nat) (ns:List dI) (rts:List Nat):Prop:=∀ q,dGd q→(∀ i∈rts,q (den P ns i))→∀ j,j < ns.length→q (den P ns (P+j))
theorem Cov.mono {P:Nat}{ns:List dI}{a b:List Nat} (c:Cov P ns a) (h:∀ i∈a,i∈b):Cov P ns b:=fun q hq z=>c q hq fun i hi=>z i (h i hi)
theorem Cov.nil {P:Nat}:Cov P [] []:=fun q _ _ j hj=>by simp at hj
theorem Cov.node {P k:Nat}{ns:List dI}{w a b:List Nat} (c:Cov P ns a) (hw:∀ i∈w,i < P+ns.length) (ha:∀ i∈a,i < P+ns.length) (hab:∀ i∈a,i∈w∨i∈b) (hn:P+ns.length∈b):Cov P (ns++[(k,w)]) b:=fun q hq z j hj=>by
 have h1:=z _ hn
 by_cases hl:j < ns.length
 ·rw [den_ext [(k,w)] (by omega:P+j < P+ns.length)]
  refine c q hq (fun i hi=>?_) j hl
  rcases hab i hi with y | y
  ·rw [uN] at h1
   exact hq _ _ h1 _ (List.mem_map.mpr ⟨i,y,rfl⟩)
  ·rw [←den_ext [(k,w)] (ha i hi)]
   exact z i y
 ·have:j=ns.length:=by rw [List.length_append] at hj;simp at hj;omega
  subst this
  exact h1
theorem Cov.narrow {P:Nat}{ns:List dI}{a:List Nat} (c:Cov P ns a) (g:Good P ns) (p:Nat) (h:∀ i∈a,sound p (den P ns i)=true):w6 p ns:=fun n hn=>by
 obtain ⟨j,hj,e⟩:=List.mem_iff_getElem.mp hn
 have h1:=c (fun f=>sound p f=true) (fun k l z f hf=>((vC p k l).mp z).2.2.2 f hf) h j hj
 rw [js g (by rw [List.getElem?_eq_getElem hj,e]),vC,List.length_map] at h1
 exact h1.2.2.1
theorem Cov.places {P:Nat}{ns:List dI}{a:List Nat} (c:Cov P ns a) (m:Nat) (h:∀ i∈a,(leaves (den P ns i)).length≤m) {j:Nat} (hj:j < ns.length):(leaves (den P ns (P+j))).length≤m:=
 c (fun f=>(leaves f).length≤m) (fun k l z f hf=>by
  have z':(leavesIn (ofL l)).length≤m:=z
  rw [g9] at z'
  refine Nat.le_trans ?_ z'
  clear z z'
  induction l with
  | nil=>simp at hf
  | cons x t ih=>
   rw [List.map_cons,List.sum_cons]
   rcases List.mem_cons.mp hf with rfl | hf
   ·exact Nat.le_add_right _ _
   ·exact Nat.le_trans (ih hf) (Nat.le_add_left _ _)) h j hj
structure FraN where
 asked:Nat
 fs:List Nat
 bs:List Nat
 ps:List Nat
def FraN.empty (k:Nat):FraN:=⟨k,[],[],[]⟩
def FraN.all (F:FraN):List Nat:=F.fs++(F.bs++F.ps)
def FraN.den (P:Nat) (ns:List dI) (F:FraN):Fra:=⟨F.asked,F.fs.map (Sp.den P ns),F.bs.map (Sp.den P ns),F.ps.map (Sp.den P ns)⟩
theorem FraN.den_ext {P:Nat}{ns:List dI} (more:List dI) {F:FraN} (h:∀ i∈F.all,i < P+ns.length):F.den P (ns++more)=F.den P ns:=by
 unfold FraN.den
 rw [ge more fun i hi=>h i (by simp [FraN.all,hi]),ge more fun i hi=>h i (by simp [FraN.all,hi]),ge more fun i hi=>h i (by simp [FraN.all,hi])]
def gb (ns:List dI) (k:Nat) (w:List Nat):List dI:=if w.length=1 then ns else ns++[(k,w)]
def jH (P:Nat) (ns:List dI) (w:List Nat):Nat:=if w.length=1 then w.headD 0 else P+ns.length
theorem v6 (ns:List dI) (k:Nat) (w:List Nat):∃ more,gb ns k w=ns++more:=by
 unfold gb
 split
 ·exact ⟨[],by simp⟩
 ·exact ⟨_,rfl⟩
theorem d5w {P k:Nat}{ns:List dI}{w:List Nat} (hw:∀ i∈w,i < P+ns.length):jH P ns w < P+(gb ns k w).length:=by
 unfold jH gb
 by_cases h:w.length=1
 ·rw [if_pos h,if_pos h]
  match w,h with
  | [i],_=>exact hw i (by simp)
 ·rw [if_neg h,if_neg h];simp
theorem vy {P k:Nat}{ns:List dI}{w:List Nat} (g:Good P ns) (hw:∀ i∈w,i < P+ns.length) (h1:1≤k) (h2:k≤w.length):Good P (gb ns k w):=by
 unfold gb
 split
 ·exact g
 ·exact g.snoc hw h1 h2
theorem yP {P k what:Nat}{ns:List dI}{w:List Nat} (hw:∀ i∈w,i < P+ns.length) (hk:k=if what=1 then w.length else 1):den P (gb ns k w) (jH P ns w)=grp what (w.map (den P ns)):=by
 unfold jH gb
 by_cases h:w.length=1
 ·rw [if_pos h,if_pos h]
  match w,h with
  | [i],_=>rfl
 ·rw [if_neg h,if_neg h,uN]
  show Form.some_ k _=_
  match w,h with
  | [],_=>rw [hk];rfl
  | i::j::r,_=>
   show Form.some_ k _=Form.some_ _ _
   rw [hk]
   simp
theorem yA {P k:Nat}{ns:List dI}{w a b:List Nat} (c:Cov P ns a) (hw:∀ i∈w,i < P+ns.length) (ha:∀ i∈a,i < P+ns.length) (hab:∀ i∈a,i∈w∨i∈b) (hn:jH P ns w∈b):Cov P (gb ns k w) b:=by
 unfold jH at hn
 unfold gb
 by_cases h:w.length=1
 ·rw [if_pos h] at hn ⊢
  refine c.mono fun i hi=>?_
  rcases hab i hi with z | z
  ·match w,h with
   | [j],_=>
    simp at z
    subst z
    exact hn
  ·exact z
 ·rw [if_neg h] at hn ⊢
  exact c.node hw ha hab hn
end Sp
end
section
set_option linter.all false
namespace Sp
open Rb35
def look (l:List (Bytes×Nat)) (b:Bytes):Option Nat:=(l.find? fun x=>x.1==b).map (·.2)
theorem wP (l m:List (Bytes×Nat)) (b:Bytes):look (l++m) b=(look l b).or (look m b):=by
 unfold look
 rw [List.find?_append]
 cases List.find? (fun x=>x.1==b) l <;> rfl
theorem uM (b:Bytes):∀ (l:List Bytes) (k:Nat),look (l.zipIdx k) b=(l.findIdx? fun x=>x==b).map (·+k)
 | [],k=>rfl
 | a::r,k=>by
  rw [List.zipIdx_cons,List.findIdx?_cons]
  unfold look
  rw [List.find?_cons]
  cases h:(a==b) with
  | true=>simp [h]
  | false=>
   have ih:=uM b r (k+1)
   unfold look at ih
   simp only [h,ih,Bool.false_eq_true,if_false,Option.map_map]
   congr 1
   funext x
   show x+(k+1)=(x+1)+k
   omega
structure Bk where
 people:List Bytes
 ns:List dI
 ls:List (Bytes×Nat)
def Bk.P (B:Bk):Nat:=B.people.length
def Bk.names (B:Bk):List (Bytes×Nat):=B.people.zipIdx++B.ls
def Bk.known (B:Bk):Known:=⟨B.people,B.ls.map fun x=>(x.1,den B.P B.ns x.2)⟩
structure Bk.Ok (B:Bk):Prop where
 good:Good B.P B.ns
 lt:∀ x∈B.ls,x.2 < B.P+B.ns.length
 cov:Cov B.P B.ns (B.ls.map (·.2))
theorem uX (g:Nat→Form) (b:Bytes):∀ l:List (Bytes×Nat),((l.map fun x=>(x.1,g x.2)).find? fun (x:Bytes×Form)=>x.1==b).map (fun x=>x.2)=(look l b).map g
 | []=>rfl
 | a::r=>by
  have ih:=uX g b r
  unfold look at ih ⊢
  rw [List.map_cons,List.find?_cons,List.find?_cons]
  show (match a.1==b with | true=>_ | false=>_:Option (Bytes×Form)).map _=_
  cases h:(a.1==b) with
  | true=>rfl
  | false=>exact ih
theorem vR (g:Nat→Form) (b:Bytes):∀ l:List (Bytes×Nat),((l.map fun x=>(x.1,g x.2)).any fun (x:Bytes×Form)=>x.1==b)=(look l b).isSome
 | []=>rfl
 | a::r=>by
  have ih:=vR g b r
  unfold look at ih ⊢
  rw [List.map_cons,List.any_cons,List.find?_cons,ih]
  cases h:(a.1==b) <;> simp [h]
theorem kW (b:Bytes):∀ (l:List Bytes),l.contains b=(l.findIdx? fun x=>x==b).isSome
 | []=>rfl
 | a::r=>by
  rw [List.contains_cons,List.findIdx?_cons,kW b r]
  by_cases h:a=b
  ·subst h
   simp
  ·have h1:(b==a)=false:=by simpa using fun z:b=a=>h z.symm
   have h2:(a==b)=false:=by simpa using h
   rw [h1,h2]
   simp
theorem ww (b:Bytes):∀ (l:List Bytes) (i:Nat),(l.findIdx? fun x=>x==b)=some i→i < l.length
 | [],i,h=>by simp at h
 | a::r,i,h=>by
  rw [List.findIdx?_cons] at h
  split at h
  ·cases h;simp
  ·cases q:r.findIdx? fun x=>x==b with
   | none=>rw [q] at h;cases h
   | some j=>
    rw [q] at h
    cases h
    have:=ww b r j q
    simp;omega
theorem Bk.knows_eq (B:Bk) (b:Bytes):knows B.known b=(look B.names b).isSome:=by
 unfold knows Bk.names
 rw [wP,uM]
 show (B.people.contains b||(B.ls.map fun x=>(x.1,den B.P B.ns x.2)).any _)=_
 rw [vR,kW]
 cases (B.people.findIdx? fun x=>x==b) <;> simp
theorem Bk.meaning_eq (B:Bk) (b:Bytes):meaning B.known b=(look B.names b).map (den B.P B.ns):=by
 unfold meaning Bk.names
 rw [wP,uM]
 show (match B.people.findIdx? fun (x:Bytes)=>x==b with | some i=>some (Form.one i) | none=>_)=_
 cases h:(B.people.findIdx? fun x=>x==b) with
 | none=>
  show (((B.ls.map fun x=>(x.1,den B.P B.ns x.2)).find? fun (x:Bytes×Form)=>x.1==b).map fun x=>x.2)=_
  rw [uX]
  simp
 | some i=>
  have hi:i < B.P:=ww b _ i h
  show some (Form.one i)=some (den B.P B.ns (i+0))
  rw [Nat.add_zero,gU _ hi]
theorem dDL {l:List (Bytes×Nat)}{b:Bytes}{i:Nat} (h:look l b=some i):(b,i)∈l:=by
 unfold look at h
 cases q:l.find? fun x=>x.1==b with
 | none=>rw [q] at h;cases h
 | some x=>
  rw [q] at h
  have h1:=List.find?_some q
  have h2:=List.mem_of_find?_eq_some q
  simp at h h1
  rw [←h1,←h]
  exact h2
theorem Bk.Ok.look_lt {B:Bk} (k:B.Ok) {b:Bytes}{i:Nat} (h:look B.names b=some i):i < B.P+B.ns.length:=by
 have hm:=dDL h
 unfold Bk.names at hm
 rcases List.mem_append.mp hm with z | z
 ·have:=(List.mem_zipIdx z).2.1
  simp at this
  unfold Bk.P
  omega
 ·exact k.lt _ z
theorem uT {e:Known}{t:Toks}{x:Bytes×Toks} (h:newName e t=.ok x):x.2.length+1=t.length:=by
 match t,h with
 | (.name b,k)::r,h=>
  rw [newName] at h
  split at h
  ·cases h
  ·cases h;rfl
 | [],h=>simp [newName] at h
 | (.num b,k)::r,h=>simp [newName] at h
 | (.sign b,k)::r,h=>simp [newName] at h
 | (.bad,k)::r,h=>simp [newName] at h
 | (.ended,k)::r,h=>simp [newName] at h
theorem uU (f:Nat) (e:Known) (t:Toks):people (f+1) e t=(newName e t).bind fun (x:Bytes×Toks)=>if is_ 44 x.2=true then people f ⟨e.people++[x.1],e.lets⟩ (x.2.drop 1) else .ok (⟨e.people++[x.1],e.lets⟩,x.2):=rfl
theorem kJ:∀ (f g:Nat) (e:Known) (t:Toks),t.length < f→t.length < g→people f e t=people g e t
 | 0,_,_,_,h,_=>absurd h (Nat.not_lt_zero _)
 | _+1,0,_,_,_,h=>absurd h (Nat.not_lt_zero _)
 | f+1,g+1,e,t,h1,h2=>by
  rw [uU,uU]
  refine dF fun x hx=>?_
  have:=uT hx
  by_cases hi:is_ 44 x.2=true
  ·rw [if_pos hi,if_pos hi]
   have:=(yF hi).2
   exact kJ f g _ _ (by omega) (by omega)
  ·rw [if_neg hi,if_neg hi]
def jg (e:Known) (t:Toks):Read Known:=people (t.length+1) e t
theorem dAO (e:Known) (t:Toks):jg e t=(newName e t).bind fun (x:Bytes×Toks)=>if is_ 44 x.2=true then jg ⟨e.people++[x.1],e.lets⟩ (x.2.drop 1) else .ok (⟨e.people++[x.1],e.lets⟩,x.2):=by
 unfold jg
 rw [uU]
 refine dF fun x hx=>?_
 have:=uT hx
 by_cases hi:is_ 44 x.2=true
 ·rw [if_pos hi,if_pos hi]
  have:=(yF hi).2
  exact kJ _ _ _ _ (by omega) (by omega)
 ·rw [if_neg hi,if_neg hi]
theorem d8J {e:Known}{t:Toks}{x:Form×Toks} (h:formula e t=.ok x):x.2.length < t.length:=by
 rw [yG] at h
 cases q:RL e 2 t with
 | error k=>rw [q] at h;cases h
 | ok y=>
  rw [q] at h
  simp only [Except.map,Except.ok.injEq] at h
  subst h
  exact dCf (by unfold gM;omega) q
def jm (e:Known) (t:Toks) (k:Known→Toks→Except Nat Known):Except Nat Known:=
 if atEnd t=true then .ok e
 else if isKey "let" t=false then .error (placeOf t)
 else (newName e (t.drop 1)).bind fun (x:Bytes×Toks)=>(take_ 61 x.2).bind fun (u:Toks)=>(formula e u).bind fun (y:Form×Toks)=>(take_ 59 y.2).bind fun (r:Toks)=>k ⟨e.people,e.lets++[(x.1,y.1)]⟩ r
theorem wX (f:Nat) (e:Known) (t:Toks):lets (f+1) e t=jm e t (lets f):=rfl
theorem uG {e:Known}{t:Toks}{k k':Known→Toks→Except Nat Known} (h:∀ e' r,r.length < t.length→k e' r=k' e' r):jm e t k=jm e t k':=by
 unfold jm
 by_cases h1:atEnd t=true
 ·rw [if_pos h1,if_pos h1]
 ·rw [if_neg h1,if_neg h1]
  by_cases h2:isKey "let" t=false
  ·rw [if_pos h2,if_pos h2]
  ·rw [if_neg h2,if_neg h2]
   refine dF fun x hx=>dF fun u hu=>dF fun y hy=>dF fun r hr=>h _ _ ?_
   have h3:=uT hx
   have h4:=jR hu
   have h5:=d8J hy
   have h6:=jR hr
   have h7:(t.drop 1).length≤t.length:=by simp
   omega
theorem wF:∀ (f g:Nat) (e:Known) (t:Toks),t.length < f→t.length < g→lets f e t=lets g e t
 | 0,_,_,_,h,_=>absurd h (Nat.not_lt_zero _)
 | _+1,0,_,_,_,h=>absurd h (Nat.not_lt_zero _)
 | f+1,g+1,e,t,h1,h2=>by
  rw [wX,wX]
  exact uG fun e' r hr=>wF f g e' r (by omega) (by omega)
def ux (e:Known) (t:Toks):Except Nat Known:=lets (t.length+1) e t
theorem z0 (e:Known) (t:Toks):ux e t=jm e t ux:=by
 unfold ux
 rw [wX]
 exact uG fun e' r hr=>wF _ _ _ _ (by omega) (by omega)
theorem dAE (t:Toks):program t=(field t).bind fun (x:Nat×Toks)=>if isKey "who" x.2=false then .error (placeOf x.2) else
  (jg ⟨[],[]⟩ (x.2.drop 1)).bind fun (y:Known×Toks)=>(take_ 59 y.2).bind fun (r:Toks)=>(ux y.1 r).map fun (e:Known)=>⟨x.1,e.people,e.lets⟩:=by
 unfold program
 refine dF fun x _=>?_
 by_cases h:isKey "who" x.2=false
 ·rw [if_pos h,if_pos h]
 ·rw [if_neg h,if_neg h]
  have hl:(x.2.drop 1).length≤x.2.length:=by simp
  unfold jg
  rw [kJ (x.2.length+1) ((x.2.drop 1).length+1) _ _ (by omega) (by omega)]
  rfl
theorem d69 {B:Bk} (k:B.Ok) (p:Nat):small ⟨p,B.people,B.known.lets⟩=true ↔
  B.people.length≤10∧B.ls.length≤16∧w6 p B.ns∧∀ x∈B.ls,(leaves (den B.P B.ns x.2)).length≤24:=by
 unfold small
 rw [Bool.and_eq_true,Bool.and_eq_true,List.all_eq_true]
 show (decide (B.people.length≤10)=true∧decide ((B.ls.map fun x=>(x.1,den B.P B.ns x.2)).length≤16)=true∧∀ x∈B.ls.map fun x=>(x.1,den B.P B.ns x.2),_)↔_
 rw [List.length_map,decide_eq_true_iff,decide_eq_true_iff]
 constructor
 ·rintro ⟨h1,h2,h3⟩
  have h3':∀ x∈B.ls,(leaves (den B.P B.ns x.2)).length≤24∧sound p (den B.P B.ns x.2)=true:=fun x hx=>by
   have:=h3 _ (List.mem_map.mpr ⟨x,hx,rfl⟩)
   rw [Bool.and_eq_true,decide_eq_true_iff] at this
   exact this
  refine ⟨h1,h2,k.cov.narrow k.good p fun i hi=>?_,fun x hx=>(h3' x hx).1⟩
  obtain ⟨x,hx,rfl⟩:=List.mem_map.mp hi
  exact (h3' x hx).2
 ·rintro ⟨h1,h2,h3,h4⟩
  refine ⟨h1,h2,fun x hx=>?_⟩
  obtain ⟨y,hy,rfl⟩:=List.mem_map.mp hx
  rw [Bool.and_eq_true,decide_eq_true_iff]
  exact ⟨h4 y hy,vd B.ns k.good h3 y.2 (k.lt y hy)⟩
end Sp
end
section
set_option linter.all false
namespace Sp
open Rb35
structure PSt (B:Bk) (ns:List dI) (st:List FraN):Prop where
 ext:∃ more,ns=B.ns++more
 good:Good B.P ns
 ltl:∀ i∈B.ls.map (·.2),i < B.P+ns.length
 lt:∀ i∈st.flatMap FraN.all,i < B.P+ns.length
 cov:Cov B.P ns (B.ls.map (·.2)++st.flatMap FraN.all)
section
variable {B:Bk}{ns:List dI}{F G:FraN}{r:List FraN}
theorem PSt.start (k:B.Ok):PSt B B.ns [FraN.empty 0]:=⟨⟨[],by simp⟩,k.good,fun i hi=>by obtain ⟨x,hx,rfl⟩:=List.mem_map.mp hi;exact k.lt x hx,fun i hi=>by simp [FraN.all,FraN.empty] at hi,by
 have e:([FraN.empty 0].flatMap FraN.all)=[]:=rfl
 rw [e,List.append_nil]
 exact k.cov⟩
theorem PSt.le (S:PSt B ns r):B.ns.length≤ns.length:=by
 obtain ⟨m,rfl⟩:=S.ext
 rw [List.length_append];omega
theorem PSt.old (S:PSt B ns r) {i:Nat} (h:i < B.P+B.ns.length):den B.P ns i=den B.P B.ns i:=by
 obtain ⟨m,rfl⟩:=S.ext
 exact den_ext m h
theorem PSt.push (S:PSt B ns r) (k:Nat):PSt B ns (FraN.empty k::r):=by
 have e:(FraN.empty k::r).flatMap FraN.all=r.flatMap FraN.all:=rfl
 exact ⟨S.ext,S.good,S.ltl,by rw [e];exact S.lt,by rw [e];exact S.cov⟩
theorem PSt.part (k:B.Ok) (S:PSt B ns (F::r)) {b:Bytes}{i:Nat} (h:look B.names b=some i):PSt B ns ({ F with ps:=F.ps++[i] }::r):=by
 have hi:i < B.P+ns.length:=Nat.lt_of_lt_of_le (k.look_lt h) (Nat.add_le_add_left S.le _)
 have mem:∀ j,j∈({ F with ps:=F.ps++[i] }::r).flatMap FraN.all↔j=i∨j∈(F::r).flatMap FraN.all:=fun j=>by
  simp only [List.flatMap_cons,FraN.all,List.mem_append,List.mem_singleton]
  constructor
  ·rintro ((h | (h | (h | h))) | h) <;> simp [h]
  ·rintro (h | ((h | (h | h)) | h)) <;> simp [h]
 refine ⟨S.ext,S.good,S.ltl,fun j hj=>?_,S.cov.mono fun j hj=>?_⟩
 ·rcases (mem j).mp hj with rfl | z
  ·exact hi
  ·exact S.lt j z
 ·rcases List.mem_append.mp hj with z | z
  ·exact List.mem_append_left _ z
  ·exact List.mem_append_right _ ((mem j).mpr (.inr z))
def ebNs (ns:List dI) (F:FraN):List dI:=gb ns F.ps.length F.ps
def j8 (P:Nat) (ns:List dI) (F:FraN):FraN:=⟨F.asked,F.fs,F.bs++[jH P ns F.ps],[]⟩
def efNs (P:Nat) (ns:List dI) (F:FraN):List dI:=gb (ebNs ns F) 1 (j8 P ns F).bs
def efAt (P:Nat) (ns:List dI) (F:FraN):Nat:=jH P (ebNs ns F) (j8 P ns F).bs
def gG (P:Nat) (ns:List dI) (F:FraN):FraN:=⟨F.asked,F.fs++[efAt P ns F],[],[]⟩
theorem j4 {i:Nat} (h:i∈F.all):i∈(F::r).flatMap FraN.all:=by rw [List.flatMap_cons];exact List.mem_append_left _ h
theorem uA {i:Nat} (h:i∈r.flatMap FraN.all):i∈(F::r).flatMap FraN.all:=by rw [List.flatMap_cons];exact List.mem_append_right _ h
theorem dED (ns:List dI) (F:FraN):∃ more,ebNs ns F=ns++more:=v6 _ _ _
theorem PSt.eb (S:PSt B ns (F::r)) (hp:F.ps≠[]):PSt B (ebNs ns F) (j8 B.P ns F::r):=by
 have hlen:1≤F.ps.length:=by cases h:F.ps with
  | nil=>exact absurd h hp
  | cons a b=>simp
 have hps:∀ i∈F.ps,i < B.P+ns.length:=fun i hi=>S.lt i (j4 (by simp [FraN.all,hi]))
 obtain ⟨m,em⟩:=dED ns F
 obtain ⟨m0,e0⟩:=S.ext
 have hle:ns.length≤(ebNs ns F).length:=by rw [em,List.length_append];omega
 have mem:∀ j,j∈(j8 B.P ns F::r).flatMap FraN.all↔j=jH B.P ns F.ps∨(j∈F.fs∨j∈F.bs)∨j∈r.flatMap FraN.all:=fun j=>by
  simp only [List.flatMap_cons,FraN.all,j8,List.mem_append,List.mem_singleton,List.append_nil]
  constructor
  ·rintro ((h | (h | h)) | h) <;> simp [h]
  ·rintro (h | (h | h) | h) <;> simp [h]
 refine ⟨⟨m0++m,by rw [em,e0,List.append_assoc]⟩,vy S.good hps hlen (Nat.le_refl _),fun i hi=>Nat.lt_of_lt_of_le (S.ltl i hi) (Nat.add_le_add_left hle _),fun j hj=>?_,?_⟩
 ·rcases (mem j).mp hj with rfl | (h | h) | h
  ·exact d5w hps
  ·exact Nat.lt_of_lt_of_le (S.lt j (j4 (by simp [FraN.all,h]))) (Nat.add_le_add_left hle _)
  ·exact Nat.lt_of_lt_of_le (S.lt j (j4 (by simp [FraN.all,h]))) (Nat.add_le_add_left hle _)
  ·exact Nat.lt_of_lt_of_le (S.lt j (uA h)) (Nat.add_le_add_left hle _)
 ·refine yA (a:=B.ls.map (·.2)++(F::r).flatMap FraN.all) S.cov hps (fun i hi=>?_) (fun i hi=>?_) (List.mem_append_right _ ((mem _).mpr (.inl rfl)))
  ·rcases List.mem_append.mp hi with z | z
   ·exact S.ltl i z
   ·exact S.lt i z
  ·rcases List.mem_append.mp hi with z | z
   ·exact .inr (List.mem_append_left _ z)
   ·rw [List.flatMap_cons] at z
    rcases List.mem_append.mp z with z | z
    ·simp only [FraN.all,List.mem_append] at z
     rcases z with z | z | z
     ·exact .inr (List.mem_append_right _ ((mem i).mpr (.inr (.inl (.inl z)))))
     ·exact .inr (List.mem_append_right _ ((mem i).mpr (.inr (.inl (.inr z)))))
     ·exact .inl z
    ·exact .inr (List.mem_append_right _ ((mem i).mpr (.inr (.inr z))))
theorem d8t {P:Nat}{l:List FraN}{more:List dI} (h:∀ i∈l.flatMap FraN.all,i < P+ns.length):l.map (FraN.den P (ns++more))=l.map (FraN.den P ns):=
 List.map_congr_left fun F hF=>FraN.den_ext more fun i hi=>h i (List.mem_flatMap.mpr ⟨F,hF,hi⟩)
theorem PSt.eb_den (S:PSt B ns (F::r)):(j8 B.P ns F).den B.P (ebNs ns F)=⟨F.asked,F.fs.map (den B.P ns),F.bs.map (den B.P ns)++[grp 1 (F.ps.map (den B.P ns))],[]⟩∧r.map (FraN.den B.P (ebNs ns F))=r.map (FraN.den B.P ns):=by
 have hps:∀ i∈F.ps,i < B.P+ns.length:=fun i hi=>S.lt i (j4 (by simp [FraN.all,hi]))
 have hj:=yP (P:=B.P) (ns:=ns) (w:=F.ps) (what:=1) (k:=F.ps.length) hps rfl
 obtain ⟨m,em⟩:=dED ns F
 constructor
 ·unfold FraN.den j8
  dsimp only
  rw [List.map_append,List.map_cons,List.map_nil]
  show (⟨F.asked,F.fs.map (Sp.den B.P (ebNs ns F)),F.bs.map (Sp.den B.P (ebNs ns F))++[Sp.den B.P (gb ns F.ps.length F.ps) (jH B.P ns F.ps)],[]⟩:Fra)=_
  rw [hj,em,ge m fun i hi=>S.lt i (j4 (by simp [FraN.all,hi])),ge m fun i hi=>S.lt i (j4 (by simp [FraN.all,hi]))]
 ·rw [em]
  exact d8t fun i hi=>S.lt i (uA hi)
theorem PSt.ef (S:PSt B ns (F::r)) (hp:F.ps≠[]):PSt B (efNs B.P ns F) (gG B.P ns F::r):=by
 have S1:=S.eb hp
 have hlen:1≤(j8 B.P ns F).bs.length:=by simp [j8]
 have hbs:∀ i∈(j8 B.P ns F).bs,i < B.P+(ebNs ns F).length:=fun i hi=>S1.lt i (j4 (by simp [FraN.all,hi]))
 obtain ⟨m,em⟩:=v6 (ebNs ns F) 1 (j8 B.P ns F).bs
 obtain ⟨m0,e0⟩:=S1.ext
 have hle:(ebNs ns F).length≤(efNs B.P ns F).length:=by unfold efNs;rw [em,List.length_append];omega
 have mem:∀ j,j∈(gG B.P ns F::r).flatMap FraN.all↔j=efAt B.P ns F∨j∈F.fs∨j∈r.flatMap FraN.all:=fun j=>by
  simp only [List.flatMap_cons,FraN.all,gG,List.mem_append,List.mem_singleton,List.append_nil]
  constructor
  ·rintro ((h | h) | h) <;> simp [h]
  ·rintro (h | h | h) <;> simp [h]
 refine ⟨⟨m0++m,by unfold efNs;rw [em,e0,List.append_assoc]⟩,vy S1.good hbs (Nat.le_refl _) hlen,fun i hi=>Nat.lt_of_lt_of_le (S1.ltl i hi) (Nat.add_le_add_left hle _),fun j hj=>?_,?_⟩
 ·rcases (mem j).mp hj with rfl | h | h
  ·exact d5w hbs
  ·exact Nat.lt_of_lt_of_le (S1.lt j (j4 (by simp [FraN.all,j8,h]))) (Nat.add_le_add_left hle _)
  ·exact Nat.lt_of_lt_of_le (S1.lt j (uA h)) (Nat.add_le_add_left hle _)
 ·refine yA (a:=B.ls.map (·.2)++(j8 B.P ns F::r).flatMap FraN.all) S1.cov hbs (fun i hi=>?_) (fun i hi=>?_) (List.mem_append_right _ ((mem _).mpr (.inl rfl)))
  ·rcases List.mem_append.mp hi with z | z
   ·exact S1.ltl i z
   ·exact S1.lt i z
  ·rcases List.mem_append.mp hi with z | z
   ·exact .inr (List.mem_append_left _ z)
   ·rw [List.flatMap_cons] at z
    rcases List.mem_append.mp z with z | z
    ·have z:i∈F.fs∨i∈(j8 B.P ns F).bs:=by simpa [FraN.all,j8] using z
     rcases z with z | z
     ·exact .inr (List.mem_append_right _ ((mem i).mpr (.inr (.inl z))))
     ·exact .inl z
    ·exact .inr (List.mem_append_right _ ((mem i).mpr (.inr (.inr z))))
theorem PSt.ef_den (S:PSt B ns (F::r)) (hp:F.ps≠[]):den B.P (efNs B.P ns F) (efAt B.P ns F)=grp 2 (F.bs.map (den B.P ns)++[grp 1 (F.ps.map (den B.P ns))]) ∧
  (gG B.P ns F).den B.P (efNs B.P ns F)=⟨F.asked,F.fs.map (den B.P ns)++[grp 2 (F.bs.map (den B.P ns)++[grp 1 (F.ps.map (den B.P ns))])],[],[]⟩∧r.map (FraN.den B.P (efNs B.P ns F))=r.map (FraN.den B.P ns):=by
 have S1:=S.eb hp
 have hbs:∀ i∈(j8 B.P ns F).bs,i < B.P+(ebNs ns F).length:=fun i hi=>S1.lt i (j4 (by simp [FraN.all,hi]))
 have hj:=yP (P:=B.P) (ns:=ebNs ns F) (w:=(j8 B.P ns F).bs) (what:=2) (k:=1) hbs rfl
 obtain ⟨e1,e2⟩:=S.eb_den
 have eb:(j8 B.P ns F).bs.map (den B.P (ebNs ns F))=F.bs.map (den B.P ns)++[grp 1 (F.ps.map (den B.P ns))]:=congrArg Fra.bs e1
 have ef0:(j8 B.P ns F).fs.map (den B.P (ebNs ns F))=F.fs.map (den B.P ns):=congrArg Fra.fs e1
 rw [eb] at hj
 obtain ⟨m,em⟩:=v6 (ebNs ns F) 1 (j8 B.P ns F).bs
 have hj':den B.P (efNs B.P ns F) (efAt B.P ns F)=grp 2 (F.bs.map (den B.P ns)++[grp 1 (F.ps.map (den B.P ns))]):=hj
 refine ⟨hj',?_,?_⟩
 ·unfold FraN.den
  show (⟨F.asked,(F.fs++[efAt B.P ns F]).map (Sp.den B.P (efNs B.P ns F)),[],[]⟩:Fra)=_
  rw [List.map_append,List.map_cons,List.map_nil,hj']
  unfold efNs
  rw [em,ge m fun i hi=>S1.lt i (j4 (by simp [FraN.all,j8,hi]))]
  have ef1:F.fs.map (den B.P (ebNs ns F))=F.fs.map (den B.P ns):=ef0
  rw [ef1]
 ·unfold efNs
  rw [em,d8t fun i hi=>S1.lt i (uA hi),e2]
theorem PSt.close (S:PSt B ns (F::G::r)) (hf:F.bs=[]∧F.ps=[]) {i:Nat} (hi:F.fs=[i]):PSt B ns ({ G with ps:=G.ps++[i] }::r):=by
 have mem:∀ j,j∈({ G with ps:=G.ps++[i] }::r).flatMap FraN.all↔j∈(F::G::r).flatMap FraN.all:=fun j=>by
  simp only [List.flatMap_cons,FraN.all,List.mem_append,List.mem_singleton,hf.1,hf.2,hi,List.append_nil]
  constructor
  ·rintro ((h | (h | (h | h))) | h) <;> simp [h]
  ·rintro (h | ((h | (h | h)) | h)) <;> simp [h]
 exact ⟨S.ext,S.good,S.ltl,fun j hj=>S.lt j ((mem j).mp hj),S.cov.mono fun j hj=>by
  rcases List.mem_append.mp hj with z | z
  ·exact List.mem_append_left _ z
  ·exact List.mem_append_right _ ((mem j).mpr z)⟩
theorem PSt.closeK (S:PSt B ns (F::G::r)) (hf:F.bs=[]∧F.ps=[]) (h1:1≤F.asked) (h2:F.asked≤F.fs.length):PSt B (ns++[(F.asked,F.fs)]) ({ G with ps:=G.ps++[B.P+ns.length] }::r):=by
 have hfs:∀ i∈F.fs,i < B.P+ns.length:=fun i hi=>S.lt i (j4 (by simp [FraN.all,hi]))
 have mem:∀ j,j∈({ G with ps:=G.ps++[B.P+ns.length] }::r).flatMap FraN.all↔j=B.P+ns.length∨j∈(G::r).flatMap FraN.all:=fun j=>by
  simp only [List.flatMap_cons,FraN.all,List.mem_append,List.mem_singleton]
  constructor
  ·rintro ((h | (h | (h | h))) | h) <;> simp [h]
  ·rintro (h | ((h | (h | h)) | h)) <;> simp [h]
 obtain ⟨m,em⟩:=S.ext
 have hl:(ns++[(F.asked,F.fs)]).length=ns.length+1:=by simp
 refine ⟨⟨m++[(F.asked,F.fs)],by rw [em,List.append_assoc]⟩,S.good.snoc hfs h1 h2,fun i hi=>by rw [hl];have:=S.ltl i hi;omega,fun j hj=>?_,?_⟩
 ·rw [hl]
  rcases (mem j).mp hj with rfl | z
  ·omega
  ·have:=S.lt j (uA z)
   omega
 ·refine S.cov.node hfs (fun i hi=>?_) (fun i hi=>?_) (List.mem_append_right _ ((mem _).mpr (.inl rfl)))
  ·rcases List.mem_append.mp hi with z | z
   ·exact S.ltl i z
   ·exact S.lt i z
  ·rcases List.mem_append.mp hi with z | z
   ·exact .inr (List.mem_append_left _ z)
   ·rw [List.flatMap_cons] at z
    rcases List.mem_append.mp z with z | z
    ·have z:i∈F.fs:=by simpa [FraN.all,hf.1,hf.2] using z
     exact .inl z
    ·exact .inr (List.mem_append_right _ ((mem i).mpr (.inr z)))
theorem PSt.known (S:PSt B ns r) (k:B.Ok):(⟨B.people,ns,B.ls⟩:Bk).known=B.known:=by
 unfold Bk.known
 show (⟨B.people,B.ls.map fun x=>(x.1,den B.P ns x.2)⟩:Known)=_
 congr 1
 refine List.map_congr_left fun x hx=>?_
 rw [S.old (k.lt x hx)]
theorem PSt.done (k:B.Ok) (S:PSt B ns [F]) (hf:F.bs=[]∧F.ps=[]) {i:Nat} (hi:F.fs=[i]) (x:Bytes):(⟨B.people,ns,B.ls++[(x,i)]⟩:Bk).Ok ∧
  (⟨B.people,ns,B.ls++[(x,i)]⟩:Bk).known=⟨B.known.people,B.known.lets++[(x,den B.P ns i)]⟩:=by
 have hall:[F].flatMap FraN.all=[i]:=by simp [FraN.all,hf.1,hf.2,hi]
 refine ⟨⟨S.good,fun y hy=>?_,?_⟩,?_⟩
 ·rcases List.mem_append.mp hy with z | z
  ·exact S.ltl y.2 (List.mem_map.mpr ⟨y,z,rfl⟩)
  ·simp at z
   subst z
   exact S.lt i (by rw [hall];simp)
 ·have c:=S.cov
  rw [hall] at c
  show Cov B.P ns ((B.ls++[(x,i)]).map (·.2))
  rw [List.map_append]
  exact c
 ·have e:=S.known k
  unfold Bk.known at e ⊢
  show (⟨B.people,(B.ls++[(x,i)]).map fun y=>(y.1,den B.P ns y.2)⟩:Known)=_
  rw [List.map_append]
  have e2:(B.ls.map fun y=>(y.1,den B.P ns y.2))=B.ls.map fun y=>(y.1,den B.P B.ns y.2):=congrArg Known.lets e
  rw [e2]
  rfl
end
end Sp
end
section
set_option linter.all false
set_option maxRecDepth 100000
namespace Pg
open PySem L2 Xc Sp
theorem jO {f:Str}{v:V}{r:List (Str×V)}:List.lookup f ((f,v)::r)=some v:=by rw [List.lookup_cons,beq_self_eq_true]
theorem de {f g:Str}{v:V}{r:List (Str×V)} (h:¬ f=g):List.lookup f ((g,v)::r)=List.lookup f r:=by rw [List.lookup_cons,beq_eq_false_iff_ne.mpr h]
theorem dB7 {f:Str}{v x:V}{r:List (Str×V)}:putF f v ((f,x)::r)=(f,v)::r:=by
 rw [show putF f v ((f,x)::r)=(if f=f then (f,v)::r else (f,x)::putF f v r) from rfl,if_pos rfl]
theorem jA {f g:Str}{v x:V}{r:List (Str×V)} (h:¬ g=f):putF f v ((g,x)::r)=(g,x)::putF f v r:=by
 rw [show putF f v ((g,x)::r)=(if g=f then (g,v)::r else (g,x)::putF f v r) from rfl,if_neg h]
theorem uw {f:Str}{v:V}:putF f v []=[(f,v)]:=rfl
def mkS (l:List Nat):Str:=⟨l.toArray⟩
theorem d8d {a b:List Nat} (h:mkS a=mkS b):a=b:=by
 have:=congrArg TL.tl h
 exact this
def dl (w:List Nat):Str:=match w with
 | []=>"end"
 | c::r=>if Rb35.isSmall c=true∧(c::r).length≤15∧¬ Rb35.keys.contains (c::r)=true then "name" else if Rb35.isDigit c=true∧(c::r).length≤5 then "number" else "other"
def tokG (k w:Str) (p:Int):List (Str×V):=[("kind",.str k),("word",.str w),("place",.int p)]
def ndF (k:Int) (wl:Addr):List (Str×V):=[("asked",.int k),("within",.ref wl)]
def bkF (p:Int) (pa na la ma:Addr):List (Str×V):=[("prime",.int p),("people",.ref pa),("nodes",.ref na),("lets",.ref la),("names",.ref ma)]
def brF (k:Int) (fl bl pl:Addr):List (Str×V):=[("asked",.int k),("formulas",.ref fl),("boths",.ref bl),("parts",.ref pl)]
def rdF (lt:Addr) (i:Int):List (Str×V):=[("tokens",.ref lt),("at",.int i)]
theorem ko (k w:Str) (p:Int):(tokG k w p).lookup ("kind":Str)=some (.str k):=jO
theorem jd (k w:Str) (p:Int):(tokG k w p).lookup ("word":Str)=some (.str w):=(de (by decide +kernel)).trans jO
theorem dA4 (k w:Str) (p:Int):(tokG k w p).lookup ("place":Str)=some (.int p):=(de (by decide +kernel)).trans ((de (by decide +kernel)).trans jO)
theorem dAn (k:Int) (wl:Addr):(ndF k wl).lookup ("asked":Str)=some (.int k):=jO
theorem uC (k:Int) (wl:Addr):(ndF k wl).lookup ("within":Str)=some (.ref wl):=(de (by decide +kernel)).trans jO
section
variable (p:Int) (pa na la ma:Addr)
theorem wH:(bkF p pa na la ma).lookup ("prime":Str)=some (.int p):=jO
theorem gm:(bkF p pa na la ma).lookup ("people":Str)=some (.ref pa):=(de (by decide +kernel)).trans jO
theorem kh:(bkF p pa na la ma).lookup ("nodes":Str)=some (.ref na):=(de (by decide +kernel)).trans ((de (by decide +kernel)).trans jO)
theorem ul:(bkF p pa na la ma).lookup ("lets":Str)=some (.ref la):=(de (by decide +kernel)).trans ((de (by decide +kernel)).trans ((de (by decide +kernel)).trans jO))
theorem kD:(bkF p pa na la ma).lookup ("names":Str)=some (.ref ma):=(de (by decide +kernel)).trans ((de (by decide +kernel)).trans ((de (by decide +kernel)).trans ((de (by decide +kernel)).trans jO)))
theorem uc {m:Str} (h1:¬ m="prime") (h2:¬ m="people") (h3:¬ m="nodes") (h4:¬ m="lets") (h5:¬ m="names"):(bkF p pa na la ma).lookup m=none:=
 (de h1).trans ((de h2).trans ((de h3).trans ((de h4).trans ((de h5).trans rfl))))
end
section
variable (k:Int) (fl bl pl x:Addr)
theorem uk:(brF k fl bl pl).lookup ("asked":Str)=some (.int k):=jO
theorem jG:(brF k fl bl pl).lookup ("formulas":Str)=some (.ref fl):=(de (by decide +kernel)).trans jO
theorem d3V:(brF k fl bl pl).lookup ("boths":Str)=some (.ref bl):=(de (by decide +kernel)).trans ((de (by decide +kernel)).trans jO)
theorem um:(brF k fl bl pl).lookup ("parts":Str)=some (.ref pl):=(de (by decide +kernel)).trans ((de (by decide +kernel)).trans ((de (by decide +kernel)).trans jO))
theorem d7G {m:Str} (h1:¬ m="asked") (h2:¬ m="formulas") (h3:¬ m="boths") (h4:¬ m="parts"):(brF k fl bl pl).lookup m=none:=
 (de h1).trans ((de h2).trans ((de h3).trans ((de h4).trans rfl)))
theorem d2k:putF "parts" (.ref x) (brF k fl bl pl)=brF k fl bl x:=by
 unfold brF
 rw [jA (by decide +kernel),jA (by decide +kernel),jA (by decide +kernel),dB7]
theorem d3S:putF "boths" (.ref x) (brF k fl bl pl)=brF k fl x pl:=by
 unfold brF
 rw [jA (by decide +kernel),jA (by decide +kernel),dB7]
end
theorem dAX (lt:Addr) (i:Int):(rdF lt i).lookup ("tokens":Str)=some (.ref lt):=jO
theorem dAs (lt:Addr) (i:Int):(rdF lt i).lookup ("at":Str)=some (.int i):=(de (by decide +kernel)).trans jO
theorem dEj (lt:Addr) (i j:Int):putF "at" (.int j) (rdF lt i)=rdF lt j:=by
 unfold rdF
 rw [jA (by decide +kernel),dB7]
theorem jn (lt:Addr) (i:Int) {m:Str} (h1:¬ m="tokens") (h2:¬ m="at"):(rdF lt i).lookup m=none:=(de h1).trans ((de h2).trans rfl)
def Kp (F:List Addr) (H H':Hp):Prop:=∀ b o,H b=some o→b∉F→H' b=some o
theorem Kp.refl {H:Hp}{F:List Addr}:Kp F H H:=fun _ _ h _=>h
theorem Kp.trans {F:List Addr}{H H1 H2:Hp} (a:Kp F H H1) (b:Kp F H1 H2):Kp F H H2:=fun c o h n=>b c o (a c o h n) n
theorem Kp.mono {F G:List Addr}{H H1:Hp} (a:Kp F H H1) (h:∀ x∈F,x∈G):Kp G H H1:=fun c o q n=>a c o q fun z=>n (h c z)
theorem Kp.same {H H1:Hp} (h:Same H H1) (F:List Addr):Kp F H H1:=fun c o q _=>h c o q
theorem Kp.toSame {H H1:Hp} (h:Kp [] H H1):Same H H1:=fun c o q=>h c o q (by simp)
theorem Kp.upd {F:List Addr}{H H1:Hp}{a:Addr}{o:HO} (h:Kp F H H1) (ha:a∈F∨H a=none):Kp F H (L2.upd H1 a o):=fun c u q n=>by
 have hca:c≠a:=by
  rcases ha with z | z
  ·exact fun e=>n (e▸z)
  ·exact dC q z
 rw [d8 hca]
 exact h c u q n
structure Cs where
 nod:Addr
 boo:Addr
 tok:Addr
 bra:Addr
 rea:Addr
 ref:Addr
 oor:Addr
 ovl:Addr
 cst:Addr
end Pg
end
section
set_option linter.all false
set_option maxRecDepth 100000
namespace Pg
open PySem PySem.Spec PyProof.Rows L2 Xc Sp
section
variable {P:Program}{w:World}{K:PySem.W.Frag}{mg:Str→Option Value}{base:Heap}
theorem okN {x qual:Str}{st:Stmt}{f:Addr}{fd:FuncData}{N ps:List Str}{k:Nat}{sp:Sp} (F:Fun K x qual st f fd) (S:FnScope N ps (dB st)) (len:∀ vs H Q E,sp vs H Q E→vs.length=ps.length)
  (hbody:∀ (cdv:Value) (A:Around) (outer:List Env) (s:Shared) (H:Hp) (vs:List V) (Q:VK) (E:XK),Room k (A.deeper (envOfC qual (dB st) s.heap.objs.size f cdv))→sp vs H Q E →
   ∃ t,PSs (cxOf (CXX P w) P w K mg base N qual (dB st) f cdv A outer s H E).nox (gC st) t∧t { nx:=fun _ H'=>Q .non H',rt:=Q } (start N vs) H):FnOk P w K mg base (CXX P w) (k+1) f fd ps sp:=by
 obtain ⟨oc,od,kV,doc,pm,an,cdv,ct,osl,rfl,lk,hcd⟩:=F.ex
 refine dFA lk hcd S len fun A outer s H vs Q E hr hsp=>?_
 obtain ⟨t,h,q⟩:=hbody cdv A outer s H vs Q E hr hsp
 exact ⟨t,h.nox,q⟩
theorem okX {x qual:Str}{st:Stmt}{f:Addr}{fd:FuncData}{N ps:List Str}{k:Nat}{sp:Sp} (F:Fun K x qual st f fd) (S:FnScope N ps (dB st)) (len:∀ vs H Q E,sp vs H Q E→vs.length=ps.length)
  (hbody:∀ (cdv:Value) (A:Around) (outer:List Env) (s:Shared) (H:Hp) (vs:List V) (Q:VK) (E:XK),Room k (A.deeper (envOfC qual (dB st) s.heap.objs.size f cdv))→sp vs H Q E →
   ∃ t,PSs (cxOf (CXX P w) P w K mg base N qual (dB st) f cdv A outer s H E) (gC st) t∧t { nx:=fun _ H'=>Q .non H',rt:=Q } (start N vs) H):FnOk P w K mg base (CXX P w) (k+1) f fd ps sp:=by
 obtain ⟨oc,od,kV,doc,pm,an,cdv,ct,osl,rfl,lk,hcd⟩:=F.ex
 exact dFA lk hcd S len fun A outer s H vs Q E hr hsp=>hbody cdv A outer s H vs Q E hr hsp
structure DefOk (P:Program) (w:World) (K:PySem.W.Frag) (mg:Str→Option Value) (base:Heap) (k:Nat) (x:Str) (ps:List Str) (sp:Sp):Prop where
 ex:∃ f fd,mg x=some (.ref f)∧PySem.W.keepIn K (.ref f)=true∧Binds K fd ps []∧FnOk P w K mg base (CXX P w) k f fd ps sp
structure MetOk (P:Program) (w:World) (K:PySem.W.Frag) (mg:Str→Option Value) (base:Heap) (k:Nat) (C:Addr) (m:Str) (ps:List Str) (sp:Sp):Prop where
 ex:∃ f fd,Meth K C m f∧Binds K fd ps []∧FnOk P w K mg base (CXX P w) k f fd ps sp
structure ClaOk (P:Program) (w:World) (K:PySem.W.Frag) (mg:Str→Option Value) (base:Heap) (k:Nat) (x:Str) (C:Addr) (ps:List Str) (sp:Sp):Prop where
 ex:∃ f fd,mg x=some (.ref C)∧Mk K C f∧Binds K fd ps []∧FnOk P w K mg base (CXX P w) k f fd ps sp
theorem DefOk.mono {j k:Nat}{x:Str}{ps:List Str}{sp:Sp} (D:DefOk P w K mg base j x ps sp) (h:j≤k):DefOk P w K mg base k x ps sp:=
 let ⟨f,fd,a,b,c,d⟩:=D.ex;⟨f,fd,a,b,c,d.mono h⟩
theorem MetOk.mono {j k:Nat}{C:Addr}{x:Str}{ps:List Str}{sp:Sp} (D:MetOk P w K mg base j C x ps sp) (h:j≤k):MetOk P w K mg base k C x ps sp:=
 let ⟨f,fd,a,c,d⟩:=D.ex;⟨f,fd,a,c,d.mono h⟩
theorem ClaOk.mono {j k:Nat}{C:Addr}{x:Str}{ps:List Str}{sp:Sp} (D:ClaOk P w K mg base j x C ps sp) (h:j≤k):ClaOk P w K mg base k x C ps sp:=
 let ⟨f,fd,a,b,c,d⟩:=D.ex;⟨f,fd,a,b,c,d.mono h⟩
end
section
variable {X:Cx}{k:Nat}{C:Addr}{ps:List Str}{sp:Sp}{E:XK}{x m:Str}{p pos apos:Pos}{e o:Expr}{es:List Expr}{ta:TE}{t:TA}
theorem dj (D:DefOk X.prog X.w X.K X.mg X.base k x ps sp) (hr:Room k X.A) (hg:Gl X x) (hx:jF (CXX X.prog X.w) X E) (ha:PA X (e::es) t) (hdb:(x==("__debug__":Str))=false:=by decide)
  (he:starEach (e::es) X.env=(false,eval e X.env)::starEach es X.env:=by rfl) (hpl:(backTo pos (starEach es X.env)).any (·.1)=false:=by rfl):PE X (.Call (.Name x p) (e::es) [] pos) (dF9 sp [] E t):=by
 obtain ⟨f,fd,h1,h2,h3,h4⟩:=D.ex
 exact dEJ h4 hr hg h1 h2 h3 .nil hx ha hdb he hpl
theorem wI (D:ClaOk X.prog X.w X.K X.mg X.base k x C ps sp) (hr:Room (k+1) X.A) (hg:Gl X x) (hx:jF (CXX X.prog X.w) X E) (ha:PA X (e::es) t) (hdb:(x==("__debug__":Str))=false:=by decide)
  (he:starEach (e::es) X.env=(false,eval e X.env)::starEach es X.env:=by rfl) (hpl:(backTo pos (starEach es X.env)).any (·.1)=false:=by rfl):PE X (.Call (.Name x p) (e::es) [] pos) (dEP C sp [] E t):=by
 obtain ⟨f,fd,h1,h2,h3,h4⟩:=D.ex
 exact dFD h2 h4 hr hg h1 h3 .nil hx ha hdb he hpl
theorem di {pl:Sem Bool} (he:PE X o ta) (c:Cls X.K C) (D:MetOk X.prog X.w X.K X.mg X.base k C m ps sp) (hr:Room k X.A) (hx:jF (CXX X.prog X.w) X E) (ha:PA X (e::es) t)
  (hst:starEach (e::es) X.env=(false,eval e X.env)::starEach es X.env:=by rfl) (hpl:(backTo pos (starEach es X.env)).any (·.1)=false:=by rfl)
  (ht:eval (.Call (.Attribute o m apos) (e::es) [] pos) X.env=(do
   let ov ←eval o X.env
   standAt apos.atName
   let (f,first) ←holding [ov] (getMethod ov m pl)
   callWith pos f first (backTo pos (starEach (e::es) X.env)) (backToKw pos (keywordEach [] X.env))):=by rfl) :
  PE X (.Call (.Attribute o m apos) (e::es) [] pos) (yu C m sp [] E ta t):=by
 obtain ⟨f,fd,h2,h3,h4⟩:=D.ex
 exact dF8 (pl:=pl) he c h2 h4 hr h3 .nil hx ha hst hpl ht
theorem gX {pl:Sem Bool} (he:PE X o ta) (c:Cls X.K C) (D:MetOk X.prog X.w X.K X.mg X.base k C m ps sp) (hr:Room k X.A) (hx:jF (CXX X.prog X.w) X E)
  (ht:eval (.Call (.Attribute o m apos) [] [] pos) X.env=(do
   let ov ←eval o X.env
   standAt apos.atName
   let (f,first) ←holding [ov] (getMethod ov m pl)
   callWith pos f first (backTo pos (starEach [] X.env)) (backToKw pos (keywordEach [] X.env))):=by rfl) :
  PE X (.Call (.Attribute o m apos) [] [] pos) (yu C m sp [] E ta tNil):=by
 obtain ⟨f,fd,h2,h3,h4⟩:=D.ex
 exact dDg (pl:=pl) he c h2 h4 hr h3 .nil hx ht
end
structure FunT (K:PySem.W.Frag) (mg:Str→Option Value) (x:Str) (st:Stmt):Prop where
 ex:∃ f fd,Fun K x x st f fd∧mg x=some (.ref f)
structure MetT (K:PySem.W.Frag) (C:Addr) (m qual:Str) (st:Stmt):Prop where
 ex:∃ f fd,Fun K m qual st f fd∧Meth K C m f
structure ClaT (K:PySem.W.Frag) (mg:Str→Option Value) (x:Str) (C:Addr) (qual:Str) (st:Stmt):Prop where
 ex:∃ f fd,Fun K "__init__" qual st f fd∧Mk K C f∧mg x=some (.ref C)
structure ExcT (K:PySem.W.Frag) (mg:Str→Option Value) (x:Str) (C:Addr) (qual:Str) (st:Stmt):Prop where
 ex:∃ f fd,Fun K "__init__" qual st f fd∧ExcC K C f∧mg x=some (.ref C)
 cls:ClsX K C
abbrev NoAt (K:PySem.W.Frag) (C:Addr) (fs:List Str):Prop:=∀ f∈fs,NoAttr K C f
end Pg
end
section
set_option linter.all false
set_option maxRecDepth 100000
set_option maxHeartbeats 4000000
namespace Pg
open PySem L2 Xc Sp
def top (i:Nat):Stmt:=PySem.Challenge.pw_secretparts_s06_open_by.main.body.getD i (.Pass ⟨0,0,0,0⟩)
abbrev st_value_through:Stmt:=top 1
abbrev st_product:Stmt:=top 2
abbrev st_inverse:Stmt:=top 3
abbrev j2:Stmt:=top 5
abbrev st_steps_of:Stmt:=top 6
abbrev st_owners_of:Stmt:=top 7
abbrev g6:Stmt:=dv (top 9) 0
abbrev gt:Stmt:=dv (top 10) 0
abbrev st_WrongNumbers_init:Stmt:=dv (top 11) 0
abbrev jB:Stmt:=dv (top 12) 0
abbrev gh:Stmt:=dv (top 13) 0
abbrev st_keep_numbers:Stmt:=top 15
abbrev st_opened:Stmt:=top 19
abbrev st_held_by:Stmt:=top 20
abbrev st_found_of:Stmt:=top 21
abbrev st_found_of_node:Stmt:=top 22
abbrev kt:Stmt:=dv (top 24) 0
abbrev kr:Stmt:=dv (top 25) 0
abbrev gw:Stmt:=dv (top 25) 1
abbrev jM:Stmt:=dv (top 25) 2
abbrev jZ:Stmt:=dv (top 25) 3
abbrev st_Book_is_person:Stmt:=dv (top 25) 4
abbrev st_Book_node_of:Stmt:=dv (top 25) 5
abbrev kN:Stmt:=dv (top 39) 0
abbrev kc:Stmt:=top 40
abbrev kd:Stmt:=top 41
abbrev vA:Stmt:=top 42
abbrev jk:Stmt:=top 43
abbrev vH:Stmt:=top 44
abbrev jc:Stmt:=dv (top 46) 0
abbrev gf:Stmt:=dv (top 46) 1
abbrev gO:Stmt:=dv (top 46) 2
abbrev vx:Stmt:=top 47
abbrev jb:Stmt:=top 48
abbrev jD:Stmt:=top 49
abbrev jC:Stmt:=top 50
abbrev vh:Stmt:=top 51
abbrev jW:Stmt:=top 52
abbrev gc:Stmt:=top 57
abbrev jt:Stmt:=dv (top 60) 0
abbrev kG:Stmt:=dv (top 60) 1
abbrev jv:Stmt:=dv (top 60) 2
abbrev gN:Stmt:=dv (top 60) 3
abbrev gK:Stmt:=dv (top 60) 4
abbrev gB:Stmt:=dv (top 60) 5
abbrev gY:Stmt:=dv (top 60) 6
abbrev gZ:Stmt:=dv (top 60) 7
abbrev kP:Stmt:=top 61
abbrev v9:Stmt:=top 64
abbrev kF:Stmt:=top 65
abbrev jy:Stmt:=top 66
abbrev uO:Stmt:=top 67
abbrev st_open_by:Stmt:=top 70
abbrev st_answered:Stmt:=top 71
abbrev st_opened_by:Stmt:=top 72
abbrev st_formula_of:Stmt:=top 73
abbrev st_keep_people:Stmt:=top 74
theorem dFU (k:Int) (wl:Addr):putF "within" (.ref wl) (putF "asked" (.int k) [])=ndF k wl:=by
 unfold ndF
 rw [uw,jA (by decide +kernel),uw]
theorem dEk (k w:Str) (p:Int):putF "place" (.int p) (putF "word" (.str w) (putF "kind" (.str k) []))=tokG k w p:=by
 unfold tokG
 rw [uw,jA (by decide +kernel),uw,jA (by decide +kernel),jA (by decide +kernel),uw]
theorem dG3 (lt:Addr) (i:Int):putF "at" (.int i) (putF "tokens" (.ref lt) [])=rdF lt i:=by
 unfold rdF
 rw [uw,jA (by decide +kernel),uw]
def dDp (cs:Cs):Sp:=fun vs H Q _=>∃ (p dx wl:Addr) (k:Int),vs=[.ref p,.int k,.ref wl]∧H p=some (.ins cs.nod dx [])∧∀ H',H' p=some (.ins cs.nod dx (ndF k wl))→Kp [p] H H'→Q .non H'
def dAr (cs:Cs):Sp:=fun vs H Q _=>∃ (p dx:Addr) (k w:Str) (i:Int),vs=[.ref p,.str k,.str w,.int i]∧H p=some (.ins cs.tok dx [])∧∀ H',H' p=some (.ins cs.tok dx (tokG k w i))→Kp [p] H H'→Q .non H'
def d9f (cs:Cs):Sp:=fun vs H Q _=>∃ (p dx lt:Addr),vs=[.ref p,.ref lt]∧H p=some (.ins cs.rea dx [])∧∀ H',H' p=some (.ins cs.rea dx (rdF lt 0))→Kp [p] H H'→Q .non H'
section
variable {P:Program}{w:World}{K:PySem.W.Frag}{mg:Str→Option Value}{base:Heap}{cs:Cs}
theorem dEK:FnScope ["self","asked","within"] ["self","asked","within"] (dB kt):=⟨rfl,rfl,rfl,by decide +kernel,rfl,by decide +kernel,by decide +kernel⟩
theorem dEw (T:ClaT K mg "Node" cs.nod "Node.__init__" kt) (cl:Cls K cs.nod) (na:NoAt K cs.nod ["asked","within"]):ClaOk P w K mg base 1 "Node" cs.nod ["self","asked","within"] (dDp cs):=by
 obtain ⟨f,fd,F,M,hm⟩:=T.ex
 refine ⟨f,fd,hm,M,F.binds (fun _ _ _ _ _ _ us hl=>match us,hl with | [_,_,_],_=>rfl),okN F dEK (fun vs H Q E h=>?_) (fun cdv A outer s H vs Q E hr h=>?_)⟩
 ·obtain ⟨p,dx,wl,k,rfl,_⟩:=h
  rfl
 ·obtain ⟨p,dx,wl,k,rfl,hp,kq⟩:=h
  refine ⟨_,dA (j9 (pv 0) (pv 1) rfl) (dE (j9 (pv 0) (pv 2) rfl)),?_⟩
  refine ⟨_,rfl,_,rfl,p,cs.nod,dx,[],rfl,hp,cl,na _ (by simp),(by show 0 < 1000;decide),_,rfl,_,rfl,p,cs.nod,dx,_,rfl,d9,cl,na _ (by simp),(by show 1 < 1000;decide),?_⟩
  exact kq _ (Eq.trans d9 (congrArg (fun q=>some (HO.ins cs.nod dx q)) (dFU k wl))) (((Kp.refl).upd (.inl (by simp))).upd (.inl (by simp)))
theorem dCu:FnScope ["self","kind","word","place"] ["self","kind","word","place"] (dB kN):=⟨rfl,rfl,rfl,by decide +kernel,rfl,by decide +kernel,by decide +kernel⟩
theorem dCV (T:ClaT K mg "Token" cs.tok "Token.__init__" kN) (cl:Cls K cs.tok) (na:NoAt K cs.tok ["kind","word","place"]):ClaOk P w K mg base 1 "Token" cs.tok ["self","kind","word","place"] (dAr cs):=by
 obtain ⟨f,fd,F,M,hm⟩:=T.ex
 refine ⟨f,fd,hm,M,F.binds (fun _ _ _ _ _ _ us hl=>match us,hl with | [_,_,_,_],_=>rfl),okN F dCu (fun vs H Q E h=>?_) (fun cdv A outer s H vs Q E hr h=>?_)⟩
 ·obtain ⟨p,dx,k,wd,i,rfl,_⟩:=h
  rfl
 ·obtain ⟨p,dx,k,wd,i,rfl,hp,kq⟩:=h
  refine ⟨_,dA (j9 (pv 0) (pv 1) rfl) (dA (j9 (pv 0) (pv 2) rfl) (dE (j9 (pv 0) (pv 3) rfl))),?_⟩
  refine ⟨_,rfl,_,rfl,p,cs.tok,dx,[],rfl,hp,cl,na _ (by simp),(by show 0 < 1000;decide),_,rfl,_,rfl,p,cs.tok,dx,_,rfl,d9,cl,na _ (by simp),(by show 1 < 1000;decide),?_⟩
  refine ⟨_,rfl,_,rfl,p,cs.tok,dx,_,rfl,d9,cl,na _ (by simp),?_,?_⟩
  ·exact Nat.lt_of_le_of_lt (kK _ _ _) (by show 1+1 < 1000;decide)
  ·exact kq _ (Eq.trans d9 (congrArg (fun q=>some (HO.ins cs.tok dx q)) (dEk k wd i))) ((((Kp.refl).upd (.inl (by simp))).upd (.inl (by simp))).upd (.inl (by simp)))
theorem dBZ:FnScope ["self","tokens"] ["self","tokens"] (dB jt):=⟨rfl,rfl,rfl,by decide +kernel,rfl,by decide +kernel,by decide +kernel⟩
theorem dBo (T:ClaT K mg "Reader" cs.rea "Reader.__init__" jt) (cl:Cls K cs.rea) (na:NoAt K cs.rea ["tokens","at"]):ClaOk P w K mg base 1 "Reader" cs.rea ["self","tokens"] (d9f cs):=by
 obtain ⟨f,fd,F,M,hm⟩:=T.ex
 refine ⟨f,fd,hm,M,F.binds (fun _ _ _ _ _ _ us hl=>match us,hl with | [_,_],_=>rfl),okN F dBZ (fun vs H Q E h=>?_) (fun cdv A outer s H vs Q E hr h=>?_)⟩
 ·obtain ⟨p,dx,lt,rfl,_⟩:=h
  rfl
 ·obtain ⟨p,dx,lt,rfl,hp,kq⟩:=h
  refine ⟨_,dA (j9 (pv 0) (pv 1) rfl) (dE (j9 (pv 0) dS rfl)),?_⟩
  refine ⟨_,rfl,_,rfl,p,cs.rea,dx,[],rfl,hp,cl,na _ (by simp),(by show 0 < 1000;decide),_,rfl,p,cs.rea,dx,_,rfl,d9,cl,na _ (by simp),(by show 1 < 1000;decide),?_⟩
  exact kq _ (Eq.trans d9 (congrArg (fun q=>some (HO.ins cs.rea dx q)) (dG3 lt 0))) (((Kp.refl).upd (.inl (by simp))).upd (.inl (by simp)))
end
end Pg
end
section
set_option linter.all false
set_option maxRecDepth 100000
set_option maxHeartbeats 4000000
namespace Pg
open PySem L2 Xc Sp
theorem lenF {f:Str}{v:V}{fs:List (Str×V)}{n:Nat} (h:fs.length≤n):(putF f v fs).length≤n+1:=Nat.le_trans (kK f v fs) (Nat.add_le_add_right h 1)
theorem dG5 (k:Int) (pa na la ma:Addr):putF "names" (.ref ma) (putF "lets" (.ref la) (putF "nodes" (.ref na) (putF "people" (.ref pa) (putF "prime" (.int k) []))))=bkF k pa na la ma:=by
 unfold bkF
 repeat (first | rw [uw] | rw [jA (by decide +kernel)])
theorem dFl (k:Int) (fl bl pl:Addr):putF "parts" (.ref pl) (putF "boths" (.ref bl) (putF "formulas" (.ref fl) (putF "asked" (.int k) [])))=brF k fl bl pl:=by
 unfold brF
 repeat (first | rw [uw] | rw [jA (by decide +kernel)])
def dDj (cs:Cs):Sp:=fun vs H Q _=>∃ (p dx:Addr) (k:Int),vs=[.ref p,.int k]∧H p=some (.ins cs.boo dx [])∧∀ (pa na la ma:Addr) (H':Hp),H' p=some (.ins cs.boo dx (bkF k pa na la ma)) →
 H' pa=some (.lst [])→H' na=some (.lst [])→H' la=some (.lst [])→H' ma=some (.dK [])→H pa=none→H na=none→H la=none→H ma=none→[pa,na,la].Nodup→Kp [p] H H'→Q .non H'
def uo (cs:Cs):Sp:=fun vs H Q _=>∃ (p dx:Addr) (k:Int),vs=[.ref p,.int k]∧H p=some (.ins cs.bra dx [])∧∀ (fl bl pl:Addr) (H':Hp),H' p=some (.ins cs.bra dx (brF k fl bl pl)) →
 H' fl=some (.lst [])→H' bl=some (.lst [])→H' pl=some (.lst [])→H fl=none→H bl=none→H pl=none→[fl,bl,pl].Nodup→Kp [p] H H'→Q .non H'
section
variable {P:Program}{w:World}{K:PySem.W.Frag}{mg:Str→Option Value}{base:Heap}{cs:Cs}
theorem dAN:FnScope ["self","asked"] ["self","asked"] (dB jc):=⟨rfl,rfl,rfl,by decide +kernel,rfl,by decide +kernel,by decide +kernel⟩
theorem dAB (T:ClaT K mg "Bracket" cs.bra "Bracket.__init__" jc) (cl:Cls K cs.bra) (na:NoAt K cs.bra ["asked","formulas","boths","parts"]):ClaOk P w K mg base 1 "Bracket" cs.bra ["self","asked"] (uo cs):=by
 obtain ⟨f,fd,F,M,hm⟩:=T.ex
 refine ⟨f,fd,hm,M,F.binds (fun _ _ _ _ _ _ us hl=>match us,hl with | [_,_],_=>rfl),okN F dAN (fun vs H Q E h=>?_) (fun cdv A outer s H vs Q E hr h=>?_)⟩
 ·obtain ⟨p,dx,k,rfl,_⟩:=h
  rfl
 ·obtain ⟨p,dx,k,rfl,hp,kq⟩:=h
  refine ⟨_,dA (j9 (pv 0) (pv 1) rfl) (dA (j9 (pv 0) (jJ dD) rfl) (dA (j9 (pv 0) (jJ dD) rfl) (dE (j9 (pv 0) (jJ dD) rfl)))),?_⟩
  refine ⟨_,rfl,_,rfl,p,cs.bra,dx,[],rfl,hp,cl,na _ (by simp),(by show 0 < 1000;decide),?_⟩
  refine ⟨Nat.zero_le _,fun fl hfl=>?_⟩
  have p1:p≠fl:=fun z=>by rw [←z,d9] at hfl;cases hfl
  refine ⟨_,rfl,p,cs.bra,dx,_,rfl,by rw [d8 p1];exact d9,cl,na _ (by simp),Nat.lt_of_le_of_lt (lenF (Nat.le_refl _)) (by decide),?_⟩
  refine ⟨Nat.zero_le _,fun bl hbl=>?_⟩
  have p2:p≠bl:=fun z=>by rw [←z,d9] at hbl;cases hbl
  refine ⟨_,rfl,p,cs.bra,dx,_,rfl,by rw [d8 p2];exact d9,cl,na _ (by simp),Nat.lt_of_le_of_lt (lenF (lenF (Nat.le_refl _))) (by decide),?_⟩
  refine ⟨Nat.zero_le _,fun pl hpl=>?_⟩
  have p3:p≠pl:=fun z=>by rw [←z,d9] at hpl;cases hpl
  refine ⟨_,rfl,p,cs.bra,dx,_,rfl,by rw [d8 p3];exact d9,cl,na _ (by simp),Nat.lt_of_le_of_lt (lenF (lenF (lenF (Nat.le_refl _)))) (by decide),?_⟩
  have q1:H fl=none:=by rw [d8 p1.symm] at hfl;exact hfl
  have b1:bl≠fl:=fun z=>by rw [d8 p2.symm,z,d9] at hbl;cases hbl
  have q2:H bl=none:=by rw [d8 p2.symm,d8 b1,d8 p2.symm] at hbl;exact hbl
  have c1:pl≠bl:=fun z=>by rw [d8 p3.symm,z,d9] at hpl;cases hpl
  have c2:pl≠fl:=fun z=>by rw [d8 p3.symm,d8 c1,d8 p3.symm,z,d9] at hpl;cases hpl
  have q3:H pl=none:=by rw [d8 p3.symm,d8 c1,d8 p3.symm,d8 c2,d8 p3.symm] at hpl;exact hpl
  refine kq fl bl pl _ (Eq.trans d9 (congrArg (fun q=>some (HO.ins cs.bra dx q)) (dFl k fl bl pl))) ?_ ?_ ?_ q1 q2 q3 (by simp [b1.symm,c1.symm,c2.symm]) ?_
  ·rw [d8 p1.symm,d8 c2.symm,d8 p1.symm,d8 b1.symm,d8 p1.symm,d9]
  ·rw [d8 p2.symm,d8 c1.symm,d8 p2.symm,d9]
  ·rw [d8 p3.symm,d9]
  ·exact ((((((Kp.refl.upd (.inl (by simp))).upd (.inr q1)).upd (.inl (by simp))).upd (.inr q2)).upd (.inl (by simp))).upd (.inr q3)).upd (.inl (by simp))
theorem dEf:FnScope ["self","prime"] ["self","prime"] (dB kr):=⟨rfl,rfl,rfl,by decide +kernel,rfl,by decide +kernel,by decide +kernel⟩
theorem dEg (T:ClaT K mg "Book" cs.boo "Book.__init__" kr) (cl:Cls K cs.boo) (na:NoAt K cs.boo ["prime","people","nodes","lets","names"]):ClaOk P w K mg base 1 "Book" cs.boo ["self","prime"] (dDj cs):=by
 obtain ⟨f,fd,F,M,hm⟩:=T.ex
 refine ⟨f,fd,hm,M,F.binds (fun _ _ _ _ _ _ us hl=>match us,hl with | [_,_],_=>rfl),okN F dEf (fun vs H Q E h=>?_) (fun cdv A outer s H vs Q E hr h=>?_)⟩
 ·obtain ⟨p,dx,k,rfl,_⟩:=h
  rfl
 ·obtain ⟨p,dx,k,rfl,hp,kq⟩:=h
  refine ⟨_,dA (j9 (pv 0) (pv 1) rfl) (dA (j9 (pv 0) (jJ dD) rfl) (dA (j9 (pv 0) (jJ dD) rfl) (dA (j9 (pv 0) (jJ dD) rfl) (dE (j9 (pv 0) dDQ rfl))))),?_⟩
  refine ⟨_,rfl,_,rfl,p,cs.boo,dx,[],rfl,hp,cl,na _ (by simp),(by show 0 < 1000;decide),?_⟩
  refine ⟨Nat.zero_le _,fun fl hfl=>?_⟩
  have p1:p≠fl:=fun z=>by rw [←z,d9] at hfl;cases hfl
  refine ⟨_,rfl,p,cs.boo,dx,_,rfl,by rw [d8 p1];exact d9,cl,na _ (by simp),Nat.lt_of_le_of_lt (lenF (Nat.le_refl _)) (by decide),?_⟩
  refine ⟨Nat.zero_le _,fun bl hbl=>?_⟩
  have p2:p≠bl:=fun z=>by rw [←z,d9] at hbl;cases hbl
  refine ⟨_,rfl,p,cs.boo,dx,_,rfl,by rw [d8 p2];exact d9,cl,na _ (by simp),Nat.lt_of_le_of_lt (lenF (lenF (Nat.le_refl _))) (by decide),?_⟩
  refine ⟨Nat.zero_le _,fun pl hpl=>?_⟩
  have p3:p≠pl:=fun z=>by rw [←z,d9] at hpl;cases hpl
  refine ⟨_,rfl,p,cs.boo,dx,_,rfl,by rw [d8 p3];exact d9,cl,na _ (by simp),Nat.lt_of_le_of_lt (lenF (lenF (lenF (Nat.le_refl _)))) (by decide),?_⟩
  intro ma hma
  have p4:p≠ma:=fun z=>by rw [←z,d9] at hma;cases hma
  refine ⟨_,rfl,p,cs.boo,dx,_,rfl,by rw [d8 p4];exact d9,cl,na _ (by simp),Nat.lt_of_le_of_lt (lenF (lenF (lenF (lenF (Nat.le_refl _))))) (by decide),?_⟩
  have q1:H fl=none:=by rw [d8 p1.symm] at hfl;exact hfl
  have b1:bl≠fl:=fun z=>by rw [d8 p2.symm,z,d9] at hbl;cases hbl
  have q2:H bl=none:=by rw [d8 p2.symm,d8 b1,d8 p2.symm] at hbl;exact hbl
  have c1:pl≠bl:=fun z=>by rw [d8 p3.symm,z,d9] at hpl;cases hpl
  have c2:pl≠fl:=fun z=>by rw [d8 p3.symm,d8 c1,d8 p3.symm,z,d9] at hpl;cases hpl
  have q3:H pl=none:=by rw [d8 p3.symm,d8 c1,d8 p3.symm,d8 c2,d8 p3.symm] at hpl;exact hpl
  have d1:ma≠pl:=fun z=>by rw [d8 p4.symm,z,d9] at hma;cases hma
  have d2:ma≠bl:=fun z=>by rw [d8 p4.symm,d8 d1,d8 p4.symm,z,d9] at hma;cases hma
  have d3:ma≠fl:=fun z=>by rw [d8 p4.symm,d8 d1,d8 p4.symm,d8 d2,d8 p4.symm,z,d9] at hma;cases hma
  have q4:H ma=none:=by rw [d8 p4.symm,d8 d1,d8 p4.symm,d8 d2,d8 p4.symm,d8 d3,d8 p4.symm] at hma;exact hma
  refine kq fl bl pl ma _ (Eq.trans d9 (congrArg (fun q=>some (HO.ins cs.boo dx q)) (dG5 k fl bl pl ma))) ?_ ?_ ?_ ?_ q1 q2 q3 q4 (by simp [b1.symm,c1.symm,c2.symm]) ?_
  ·rw [d8 p1.symm,d8 d3.symm,d8 p1.symm,d8 c2.symm,d8 p1.symm,d8 b1.symm,d8 p1.symm,d9]
  ·rw [d8 p2.symm,d8 d2.symm,d8 p2.symm,d8 c1.symm,d8 p2.symm,d9]
  ·rw [d8 p3.symm,d8 d1.symm,d8 p3.symm,d9]
  ·rw [d8 p4.symm,d9]
  ·exact ((((((((Kp.refl.upd (.inl (by simp))).upd (.inr q1)).upd (.inl (by simp))).upd (.inr q2)).upd (.inl (by simp))).upd (.inr q3)).upd (.inl (by simp))).upd (.inr q4)).upd (.inl (by simp))
end
end Pg
end
section
set_option linter.all false
set_option maxRecDepth 100000
set_option maxHeartbeats 4000000
namespace Pg
open PySem L2 Xc Sp
structure BkA where
 pa:Addr
 na:Addr
 la:Addr
 ma:Addr
 nds:List (Addr×Addr)
def BkA.lists (A:BkA):List Addr:=A.pa::A.na::A.la::A.nds.map (·.2)
def nV (l:List Nat):List V:=l.map fun (i:Nat)=>V.int (i:Int)
theorem dH (l:List Nat):(nV l).length=l.length:=List.length_map _
theorem jV (l:List Nat) (i:Nat):nV (l++[i])=nV l++[V.int (i:Int)]:=by unfold nV;rw [List.map_append];rfl
def dGN (cs:Cs) (H:Hp) (x:Addr×Addr) (n:dI):Prop:=(∃ dx,H x.1=some (.ins cs.nod dx (ndF (n.1:Int) x.2)))∧H x.2=some (.lst (nV n.2))
structure BookAt (cs:Cs) (H:Hp) (b:Addr) (A:BkA) (p:Nat) (B:Bk):Prop where
 ob:∃ dx,H b=some (.ins cs.boo dx (bkF (p:Int) A.pa A.na A.la A.ma))
 people:H A.pa=some (.lst (B.people.map fun x=>V.str (mkS x)))
 nodes:H A.na=some (.lst (A.nds.map fun x=>V.ref x.1))
 lets:H A.la=some (.lst (nV (B.ls.map (·.2))))
 names:H A.ma=some (.dK (B.names.map fun x=>(Sum.inr (mkS x.1),V.int (x.2:Int))))
 len:A.nds.length=B.ns.length
 at_:∀ (j:Nat) (x:Addr×Addr) (n:dI),A.nds[j]?=some x→B.ns[j]?=some n→dGN cs H x n
 nd:A.lists.Nodup
theorem jE {H:Hp}{a b:Addr}{C dx:Addr}{fs:List (Str×V)}{xs:List V} (h:H a=some (.ins C dx fs)) (h':H b=some (.lst xs)):a≠b:=uq h h' (by intro z;cases z)
theorem dCP {H:Hp}{a b:Addr}{kvs:List (Key×V)}{xs:List V} (h:H a=some (.dK kvs)) (h':H b=some (.lst xs)):a≠b:=uq h h' (by intro z;cases z)
theorem BookAt.keepL {cs:Cs}{H H':Hp}{b:Addr}{A:BkA}{p:Nat}{B:Bk} (R:BookAt cs H b A p B) {F:List Addr} (k:Kp F H H') (hF:∀ x∈F,x∉A.lists∧∀ C dx fs,H x=some (.ins C dx fs)→C≠cs.boo∧C≠cs.nod) (hD:∀ x∈F,∀ kvs,H x≠some (.dK kvs)):BookAt cs H' b A p B:=by
 have lst:∀ x xs,x∈A.lists→H x=some (.lst xs)→H' x=some (.lst xs):=fun x xs hx e=>k x _ e fun z=>(hF x z).1 hx
 obtain ⟨dx,ob⟩:=R.ob
 refine ⟨⟨dx,k b _ ob fun z=>((hF b z).2 _ _ _ ob).1 rfl⟩,lst _ _ (by simp [BkA.lists]) R.people,lst _ _ (by simp [BkA.lists]) R.nodes,lst _ _ (by simp [BkA.lists]) R.lets,k _ _ R.names fun z=>hD _ z _ R.names,R.len,fun j x n h1 h2=>?_,R.nd⟩
 obtain ⟨⟨dy,n1⟩,n2⟩:=R.at_ j x n h1 h2
 exact ⟨⟨dy,k _ _ n1 fun z=>((hF _ z).2 _ _ _ n1).2 rfl⟩,lst _ _ (by
  have:x.2∈A.nds.map (·.2):=List.mem_map.mpr ⟨x,List.mem_of_getElem? h1,rfl⟩
  simp [BkA.lists,this]) n2⟩
def vg (cs:Cs):Sp:=fun vs H Q _=>∃ (b wl:Addr) (k:Nat) (A:BkA) (p:Nat) (B:Bk) (ws:List Nat),vs=[.ref b,.int k,.ref wl]∧BookAt cs H b A p B∧H wl=some (.lst (nV ws))∧wl∉A.lists∧B.ns.length < 100000 ∧
 ∀ (nx:Addr) (H':Hp),BookAt cs H' b { A with nds:=A.nds++[(nx,wl)] } p { B with ns:=B.ns++[(k,ws)] }→Kp [A.na] H H'→H nx=none→Q (.int ((B.P+B.ns.length:Nat):Int)) H'
section
variable {P:Program}{w:World}{K:PySem.W.Frag}{mg:Str→Option Value}{base:Heap}{cs:Cs}
theorem dc:100000 < sizeLine:=by decide
theorem d8G:FnScope ["self","asked","within"] ["self","asked","within"] (dB jM):=⟨rfl,rfl,rfl,by decide +kernel,rfl,by decide +kernel,by decide +kernel⟩
theorem d8Q (T:MetT K cs.boo "add_node" "Book.add_node" jM) (clB:Cls K cs.boo) (naB:NoAt K cs.boo ["prime","people","nodes","lets","names"]) (hlen:mg "len"=none) (N1:ClaOk P w K mg base 1 "Node" cs.nod ["self","asked","within"] (dDp cs)) :
  MetOk P w K mg base 3 cs.boo "add_node" ["self","asked","within"] (vg cs):=by
 obtain ⟨f,fd,F,M⟩:=T.ex
 refine ⟨f,fd,M,F.binds (fun _ _ _ _ _ _ us hl=>match us,hl with | [_,_,_],_=>rfl),okN F d8G (fun vs H Q E h=>?_) (fun cdv A outer s H vs Q E hr h=>?_)⟩
 ·obtain ⟨b,wl,k,A,p,B,ws,rfl,_⟩:=h
  rfl
 ·obtain ⟨b,wl,k,Ad,p,B,ws,rfl,R,hwl,nwl,hsm,kq⟩:=h
  obtain ⟨dx,ob⟩:=R.ob
  refine ⟨_,dA (dN (kZ PySem.F.plainAttrs_list PySem.F.slot_list_append PySem.F.type_list_append g7 (dM (pv 0) rfl) (d0 (wI N1 hr rfl dG (d0 (pv 1) (d0 (pv 2) dD))) dD)))
   (dE (dZ (jT wq (jT dBw (dP dJ (by rfl) hlen PySem.boot_len (d0 (dM (pv 0) rfl) dD)) (dP dJ (by rfl) hlen PySem.boot_len (d0 (dM (pv 0) rfl) dD))) dS))),?_⟩
  refine ⟨_,rfl,b,cs.boo,dx,_,_,rfl,ob,clB,naB _ (by simp),kh _ _ _ _ _,.inl ⟨rfl,_,SqL.of R.nodes⟩,_,rfl,_,rfl,?_⟩
  intro x dxn nx ndx nex
  refine ⟨x,dxn,wl,k,rfl,d9,fun H1 h1 k1=>⟨rfl,?_⟩⟩
  have s1:Same H H1:=Same.made nx ndx fun c o e hc=>k1 c o e (by simpa using hc)
  have nl1:=s1 _ _ R.nodes
  have hll:(Ad.nds.map fun x=>V.ref x.1).length < sizeLine:=by rw [List.length_map,R.len];exact Nat.lt_trans hsm dc
  refine ⟨Ad.na,_,_,rfl,rfl,nl1,hll,?_⟩
  have ob2:(upd H1 Ad.na (.lst ((Ad.nds.map fun x=>V.ref x.1)++[V.ref x]))) b=some (.ins cs.boo dx (bkF (p:Int) Ad.pa Ad.na Ad.la Ad.ma)):=by rw [d8 (jE ob R.nodes)];exact s1 _ _ ob
  have npn:Ad.pa≠Ad.na:=fun z=>by have:=R.nd;unfold BkA.lists at this;rw [z] at this;simp at this
  refine ⟨_,rfl,b,cs.boo,dx,_,_,rfl,ob2,clB,naB _ (by simp),gm _ _ _ _ _,_,_,rfl,.inl (SqL.of (by rw [d8 npn];exact s1 _ _ R.people)),?_⟩
  refine ⟨_,rfl,b,cs.boo,dx,_,_,rfl,ob2,clB,naB _ (by simp),kh _ _ _ _ _,_,_,rfl,.inl (SqL.of d9),_,_,rfl,rfl,_,_,rfl,rfl,?_⟩
  have ek:Kp [Ad.na] H (upd H1 Ad.na (.lst ((Ad.nds.map fun x=>V.ref x.1)++[V.ref x]))):=(Kp.same s1 _).upd (.inl (by simp))
  have ev:(V.int (((B.people.map fun x=>V.str (mkS x)).length:Int)+(((Ad.nds.map fun x=>V.ref x.1)++[V.ref x]).length:Int)-1))=V.int ((B.P+B.ns.length:Nat):Int):=by
   rw [List.length_map,List.length_append,List.length_map,R.len,List.length_singleton]
   show V.int ((B.people.length:Int)+((B.ns.length+1:Nat):Int)-1)=V.int ((B.people.length+B.ns.length:Nat):Int)
   congr 1
   omega
  show Q (V.int (((B.people.map fun x=>V.str (mkS x)).length:Int)+(((Ad.nds.map fun x=>V.ref x.1)++[V.ref x]).length:Int)-1)) _
  rw [ev]
  refine kq x _ ?_ ek nx
  have nnd:=R.nd
  have hnl:∀ y∈Ad.lists,y≠wl:=fun y hy z=>nwl (z▸hy)
  have na_in:∀ y∈Ad.nds.map (·.2),y≠Ad.na:=fun y hy z=>by
   have:=R.nd
   unfold BkA.lists at this
   rw [z] at hy
   simp only [List.nodup_cons] at this
   exact this.2.1 (List.mem_cons_of_mem _ hy)
  have wlna:wl≠Ad.na:=fun z=>nwl (by rw [z];simp [BkA.lists])
  refine ⟨⟨dx,ob2⟩,by show upd _ _ _ Ad.pa=_;rw [d8 npn];exact s1 _ _ R.people,?_,?_,?_,?_,fun j y n e1 e2=>?_,?_⟩
  ·show upd _ _ _ Ad.na=_
   rw [d9,List.map_append]
   rfl
  ·show upd _ _ _ Ad.la=_
   have:Ad.la≠Ad.na:=fun z=>by have:=R.nd;unfold BkA.lists at this;rw [z] at this;simp at this
   rw [d8 this];exact s1 _ _ R.lets
  ·show upd _ _ _ Ad.ma=_
   rw [d8 (dCP R.names R.nodes)];exact s1 _ _ R.names
  ·show (Ad.nds++[(x,wl)]).length=(B.ns++[(k,ws)]).length
   rw [List.length_append,List.length_append,R.len];rfl
  ·by_cases hj:j < Ad.nds.length
   ·rw [List.getElem?_append_left hj] at e1
    rw [List.getElem?_append_left (by rw [←R.len];exact hj)] at e2
    obtain ⟨⟨dy,n1⟩,n2⟩:=R.at_ j y n e1 e2
    exact ⟨⟨dy,by rw [d8 (jE n1 R.nodes)];exact s1 _ _ n1⟩,by rw [d8 (na_in _ (List.mem_map.mpr ⟨y,List.mem_of_getElem? e1,rfl⟩))];exact s1 _ _ n2⟩
   ·rw [List.getElem?_append_right (by omega)] at e1
    rw [List.getElem?_append_right (by rw [←R.len];omega)] at e2
    have h0:j-Ad.nds.length=0:=by
     cases q:j-Ad.nds.length with
     | zero=>rfl
     | succ i=>rw [q] at e1;simp at e1
    have h0':j-B.ns.length=0:=by rw [←R.len];exact h0
    rw [h0] at e1
    rw [h0'] at e2
    simp at e1 e2
    subst e1 e2
    exact ⟨⟨dxn,by rw [d8 (jE h1 nl1)];exact h1⟩,by rw [d8 wlna];exact s1 _ _ hwl⟩
  ·show (Ad.pa::Ad.na::Ad.la::(Ad.nds++[(x,wl)]).map (·.2)).Nodup
   have e:(Ad.pa::Ad.na::Ad.la::(Ad.nds++[(x,wl)]).map (·.2))=Ad.lists++[wl]:=by unfold BkA.lists;rw [List.map_append];rfl
   rw [e]
   exact dCM R.nd nwl
end
end Pg
end
section
set_option linter.all false
set_option maxRecDepth 100000
set_option maxHeartbeats 4000000
namespace Pg
open PySem L2 Xc Sp
def Grow (H:Hp) (A A':BkA) (ws:List Addr):Prop:=∃ more:List (Addr×Addr),A'={ A with nds:=A.nds++more }∧more.map (·.2)=ws∧∀ x∈more,H x.1=none
theorem Grow.none (H:Hp) (A:BkA):Grow H A A []:=⟨[],by simp,rfl,fun x hx=>by simp at hx⟩
theorem Grow.one {H:Hp}{A:BkA}{nx wl:Addr} (h:H nx=Option.none):Grow H A { A with nds:=A.nds++[(nx,wl)] } [wl]:=⟨[(nx,wl)],rfl,rfl,fun x hx=>by simp at hx;subst hx;exact h⟩
theorem Grow.lists {H:Hp}{A A':BkA}{ws:List Addr} (g:Grow H A A' ws):A'.lists=A.lists++ws:=by
 obtain ⟨more,rfl,rfl,_⟩:=g
 show A.pa::A.na::A.la::(A.nds++more).map (·.2)=(A.pa::A.na::A.la::A.nds.map (·.2))++more.map (·.2)
 rw [List.map_append]
 rfl
theorem Grow.na {H:Hp}{A A':BkA}{ws:List Addr} (g:Grow H A A' ws):A'.na=A.na∧A'.ma=A.ma∧A'.la=A.la∧A'.pa=A.pa:=by
 obtain ⟨more,rfl,_,_⟩:=g
 exact ⟨rfl,rfl,rfl,rfl⟩
theorem Grow.trans {H H1:Hp}{A A1 A2:BkA}{ws vs:List Addr} (a:Grow H A A1 ws) (b:Grow H1 A1 A2 vs) (h:∀ x,H1 x=Option.none→H x=Option.none):Grow H A A2 (ws++vs):=by
 obtain ⟨m,rfl,rfl,h1⟩:=a
 obtain ⟨m2,rfl,rfl,h2⟩:=b
 refine ⟨m++m2,by simp,by rw [List.map_append],fun x hx=>?_⟩
 rcases List.mem_append.mp hx with z | z
 ·exact h1 x z
 ·exact h _ (h2 x z)
theorem Kp.free {F:List Addr}{H H':Hp} (k:Kp F H H') (hF:∀ x∈F,H' x≠Option.none) {x:Addr} (h:H' x=Option.none):H x=Option.none:=by
 cases q:H x with
 | none=>rfl
 | some o=>
  by_cases hx:x∈F
  ·exact absurd h (hF x hx)
  ·rw [k x o q hx] at h;cases h
structure BrA where
 ob:Addr
 fl:Addr
 bl:Addr
 pl:Addr
def BrA.lists (a:BrA):List Addr:=[a.fl,a.bl,a.pl]
structure BrkAt (cs:Cs) (H:Hp) (a:BrA) (F:FraN):Prop where
 ob:∃ dx,H a.ob=some (.ins cs.bra dx (brF (F.asked:Int) a.fl a.bl a.pl))
 fs:H a.fl=some (.lst (nV F.fs))
 bs:H a.bl=some (.lst (nV F.bs))
 ps:H a.pl=some (.lst (nV F.ps))
structure CsOk (cs:Cs):Prop where
 nb:cs.nod≠cs.boo
 bn:cs.bra≠cs.nod
 bb:cs.bra≠cs.boo
 rn:cs.rea≠cs.nod
 rb:cs.rea≠cs.boo
 rr:cs.rea≠cs.bra
def yd (cs:Cs):Sp:=fun vs H Q _=>∃ (b wl:Addr) (k:Nat) (A:BkA) (p:Nat) (B:Bk) (ws:List Nat),vs=[.ref b,.int k,.ref wl]∧BookAt cs H b A p B∧H wl=some (.lst (nV ws))∧wl∉A.lists∧B.ns.length < 100000 ∧
 ∀ (A':BkA) (vs':List Addr) (H':Hp),BookAt cs H' b A' p { B with ns:=gb B.ns k ws }→Grow H A A' vs'→(∀ x∈vs',x=wl)→vs'.length≤1→Kp [A.na] H H'→Q (.int ((jH B.P B.ns ws:Nat):Int)) H'
section
variable {P:Program}{w:World}{K:PySem.W.Frag}{mg:Str→Option Value}{base:Heap}{cs:Cs}
theorem dBW:FnScope ["book","asked","within"] ["book","asked","within"] (dB vx):=⟨rfl,rfl,rfl,by decide +kernel,rfl,by decide +kernel,by decide +kernel⟩
theorem dBI (T:FunT K mg "joined" vx) (clB:Cls K cs.boo) (hlen:mg "len"=none) (AN:MetOk P w K mg base 3 cs.boo "add_node" ["self","asked","within"] (vg cs)) :
  DefOk P w K mg base 4 "joined" ["book","asked","within"] (yd cs):=by
 obtain ⟨f,fd,F,hm⟩:=T.ex
 refine ⟨f,fd,hm,F.kp,F.binds (fun _ _ _ _ _ _ us hl=>match us,hl with | [_,_,_],_=>rfl),okN F dBW (fun vs H Q E h=>?_) (fun cdv A outer s H vs Q E hr h=>?_)⟩
 ·obtain ⟨b,wl,k,A,p,B,ws,rfl,_⟩:=h
  rfl
 ·obtain ⟨b,wl,k,Ad,p,B,ws,rfl,R,hwl,nwl,hsm,kq⟩:=h
  obtain ⟨dx,ob⟩:=R.ob
  refine ⟨_,dA (gv (dQ kL (dP dJ (by rfl) hlen PySem.boot_len (d0 (pv 2) dD)) dS (dW _)) (dE (dZ (je gj (pv 2) dS (fun _ _=>rfl)))) dq)
   (dE (dZ (di (pv 0) clB AN hr dG (d0 (pv 1) (d0 (pv 2) dD))))),?_⟩
  refine ⟨_,rfl,_,_,rfl,.inl (SqL.of hwl),rfl,_,rfl,ite2 (fun hc=>?_) fun hc=>?_⟩
  ·have h1:ws.length=1:=by
    have:=of_decide_eq_true hc
    injection this with this
    rw [dH] at this
    omega
   match ws,h1,hwl,kq with
   | [i],_,hwl,kq=>
    refine ⟨_,rfl,wl,_,_,V.int (i:Int),rfl,rfl,SqL.of hwl,uP (j:=0) rfl rfl,?_⟩
    exact kq Ad [] H (by
     have e:gb B.ns k [i]=B.ns:=if_pos rfl
     rw [e];exact R) (Grow.none H Ad) (fun x hx=>by simp at hx) (by simp) Kp.refl
  ·have h1:¬ ws.length=1:=fun z=>hc (decide_eq_true (by rw [dH,z];rfl))
   refine ⟨_,rfl,b,dx,_,rfl,ob,uc _ _ _ _ _ (by decide +kernel) (by decide +kernel) (by decide +kernel) (by decide +kernel) (by decide +kernel),_,rfl,_,rfl,b,wl,k,Ad,p,B,ws,rfl,R,hwl,nwl,hsm,fun nx H' R' k' hn=>?_⟩
   have e1:gb B.ns k ws=B.ns++[(k,ws)]:=if_neg h1
   have e2:jH B.P B.ns ws=B.P+B.ns.length:=if_neg h1
   show Q _ H'
   rw [←e2]
   exact kq _ [wl] H' (by rw [e1];exact R') (Grow.one hn) (fun x hx=>by simpa using hx) (by simp) k'
end
end Pg
end
section
set_option linter.all false
set_option maxRecDepth 100000
set_option maxHeartbeats 4000000
namespace Pg
open PySem L2 Xc Sp
theorem BookAt.isLst {cs:Cs}{H:Hp}{b:Addr}{A:BkA}{p:Nat}{B:Bk} (R:BookAt cs H b A p B) {x:Addr} (h:x∈A.lists):∃ xs,H x=some (.lst xs):=by
 unfold BkA.lists at h
 rcases List.mem_cons.mp h with rfl | h
 ·exact ⟨_,R.people⟩
 rcases List.mem_cons.mp h with rfl | h
 ·exact ⟨_,R.nodes⟩
 rcases List.mem_cons.mp h with rfl | h
 ·exact ⟨_,R.lets⟩
 obtain ⟨y,hy,rfl⟩:=List.mem_map.mp h
 obtain ⟨j,hj⟩:=List.getElem?_of_mem hy
 have hl:j < B.ns.length:=by rw [←R.len];exact (List.getElem?_eq_some_iff.mp hj).1
 exact ⟨_,(R.at_ j y B.ns[j] hj (List.getElem?_eq_getElem hl)).2⟩
theorem BookAt.keep {cs:Cs}{H H':Hp}{b:Addr}{A:BkA}{p:Nat}{B:Bk} (R:BookAt cs H b A p B) {F:List Addr} (k:Kp F H H')
  (hF:∀ x∈F,(∃ xs,H x=some (.lst xs)∧x∉A.lists)∨∃ C dx fs,H x=some (.ins C dx fs)∧C≠cs.boo∧C≠cs.nod):BookAt cs H' b A p B:=by
 refine R.keepL k (fun x hx=>?_) (fun x hx kvs e=>?_)
 ·rcases hF x hx with ⟨xs,e,n⟩ | ⟨C,dx,fs,e,n1,n2⟩
  ·exact ⟨n,fun C dx fs z=>by rw [e] at z;cases z⟩
  ·refine ⟨fun z=>?_,fun C' dx' fs' z=>?_⟩
   ·obtain ⟨xs,q⟩:=R.isLst z
    rw [e] at q;cases q
   ·rw [e] at z
    cases z
    exact ⟨n1,n2⟩
 ·rcases hF x hx with ⟨xs,q,n⟩ | ⟨C,dx,fs,q,n1,n2⟩ <;> (rw [q] at e;cases e)
structure Pair (cs:Cs) (H:Hp) (a:BrA) (F:FraN) (b:Addr) (A:BkA) (p:Nat) (B:Bk):Prop where
 br:BrkAt cs H a F
 bk:BookAt cs H b A p B
 nd:a.lists.Nodup
 ap:∀ x∈a.lists,x∉A.lists
 few:F.all.length < 50000
 fewN:B.ns.length < 50000
def vc (cs:Cs):Sp:=fun vs H Q _=>∃ (a:BrA) (F:FraN) (b:Addr) (A:BkA) (p:Nat) (B:Bk),vs=[.ref a.ob,.ref b]∧Pair cs H a F b A p B ∧
 ∀ (A':BkA) (vs':List Addr) (pl':Addr) (H':Hp),BrkAt cs H' { a with pl:=pl' } (j8 B.P B.ns F)→BookAt cs H' b A' p { B with ns:=ebNs B.ns F }→Grow H A A' vs'→(∀ x∈vs',x=a.pl)→vs'.length≤1→H pl'=none→Kp [A.na,a.bl,a.ob] H H'→Q .non H'
section
variable {P:Program}{w:World}{K:PySem.W.Frag}{mg:Str→Option Value}{base:Heap}{cs:Cs}
theorem d8o:FnScope ["self","book"] ["self","book"] (dB gf):=⟨rfl,rfl,rfl,by decide +kernel,rfl,by decide +kernel,by decide +kernel⟩
theorem d8D (co:CsOk cs) (T:MetT K cs.bra "end_both" "Bracket.end_both" gf) (cl:Cls K cs.bra) (na:NoAt K cs.bra ["asked","formulas","boths","parts"]) (hlen:mg "len"=none)
  (J:DefOk P w K mg base 4 "joined" ["book","asked","within"] (yd cs)):MetOk P w K mg base 5 cs.bra "end_both" ["self","book"] (vc cs):=by
 obtain ⟨f,fd,F,M⟩:=T.ex
 refine ⟨f,fd,M,F.binds (fun _ _ _ _ _ _ us hl=>match us,hl with | [_,_],_=>rfl),okN F d8o (fun vs H Q E h=>?_) (fun cdv A outer s H vs Q E hr h=>?_)⟩
 ·obtain ⟨a,F,b,A,p,B,rfl,_⟩:=h
  rfl
 ·obtain ⟨a,Fr,b,Ad,p,B,rfl,R,kq⟩:=h
  obtain ⟨dx,ob⟩:=R.br.ob
  have nbl:a.bl∉Ad.lists:=R.ap _ (by simp [BrA.lists])
  have npl:a.pl∉Ad.lists:=R.ap _ (by simp [BrA.lists])
  have nfl:a.fl∉Ad.lists:=R.ap _ (by simp [BrA.lists])
  have nblna:a.bl≠Ad.na:=fun z=>nbl (by rw [z];simp [BkA.lists])
  have hnd:=R.nd
  unfold BrA.lists at hnd
  simp only [List.nodup_cons,List.mem_cons,List.mem_singleton,List.not_mem_nil,not_or] at hnd
  obtain ⟨⟨nfb,nfp,_⟩,⟨nbp,_⟩,_⟩:=hnd
  refine ⟨_,dA (dN (kZ PySem.F.plainAttrs_list PySem.F.slot_list_append PySem.F.type_list_append g7 (dM (pv 0) rfl)
    (d0 (dj J hr rfl dG (d0 (pv 1) (d0 (dP dJ (by rfl) hlen PySem.boot_len (d0 (dM (pv 0) rfl) dD)) (d0 (dM (pv 0) rfl) dD)))) dD)))
   (dE (j9 (pv 0) (jJ dD) rfl)),?_⟩
  refine ⟨_,rfl,a.ob,cs.bra,dx,_,_,rfl,ob,cl,na _ (by simp),d3V _ _ _ _,.inl ⟨rfl,_,SqL.of R.br.bs⟩,_,rfl,?_⟩
  refine ⟨_,rfl,a.ob,cs.bra,dx,_,_,rfl,ob,cl,na _ (by simp),um _ _ _ _,_,_,rfl,.inl (SqL.of R.br.ps),?_⟩
  refine ⟨_,rfl,a.ob,cs.bra,dx,_,_,rfl,ob,cl,na _ (by simp),um _ _ _ _,b,a.pl,(nV Fr.ps).length,Ad,p,B,Fr.ps,rfl,R.bk,R.br.ps,npl,Nat.lt_trans R.fewN (by decide),fun A' vs' H1 R1 g hv hv1 k1=>?_⟩
  have bl1:H1 a.bl=some (.lst (nV Fr.bs)):=k1 _ _ R.br.bs (by simpa using nblna)
  have fl1:H1 a.fl=some (.lst (nV Fr.fs)):=k1 _ _ R.br.fs (by simpa using fun z:a.fl=Ad.na=>nfl (by rw [z];simp [BkA.lists]))
  have ob1:H1 a.ob=some (.ins cs.bra dx (brF (Fr.asked:Int) a.fl a.bl a.pl)):=k1 _ _ ob (by simpa using jE ob R.bk.nodes)
  refine ⟨a.bl,_,_,rfl,rfl,bl1,?_,?_⟩
  ·rw [dH]
   have:=R.few
   unfold FraN.all at this
   rw [List.length_append,List.length_append] at this
   exact Nat.lt_trans (by omega) dc
  refine ⟨Nat.zero_le _,fun pl' hpl'=>?_⟩
  have o1:a.ob≠a.bl:=jE ob1 bl1
  have o2:a.ob≠pl':=fun z=>by rw [←z,d8 o1,ob1] at hpl';cases hpl'
  have b2:pl'≠a.bl:=fun z=>by rw [z,d9] at hpl';cases hpl'
  have pn1:H1 pl'=none:=by rw [d8 b2] at hpl';exact hpl'
  have f2:a.fl≠pl':=dC fl1 pn1
  refine ⟨_,rfl,a.ob,cs.bra,dx,_,rfl,by rw [d8 o2,d8 o1];exact ob1,cl,na _ (by simp),(by show 4 < 1000;decide),?_⟩
  have kk:Kp [a.bl,a.ob] H1 (upd (upd (upd H1 a.bl (.lst (nV Fr.bs++[V.int ((jH B.P B.ns Fr.ps:Nat):Int)]))) pl' (.lst [])) a.ob (.ins cs.bra dx (putF "parts" (.ref pl') (brF (Fr.asked:Int) a.fl a.bl a.pl)))):=
   ((Kp.refl.upd (.inl (by simp))).upd (.inr pn1)).upd (.inl (by simp))
  have en:gb B.ns (nV Fr.ps).length Fr.ps=ebNs B.ns Fr:=by rw [dH];rfl
  rw [en] at R1
  refine kq A' vs' pl' _ ⟨⟨dx,Eq.trans d9 (congrArg (fun q=>some (HO.ins cs.bra dx q)) (d2k _ _ _ _ _))⟩,?_,?_,?_⟩ (R1.keep kk fun x hx=>?_) g hv hv1 ?_ ?_
  ·show upd _ _ _ a.fl=_
   rw [d8 (jE ob1 fl1).symm,d8 f2,d8 nfb];exact fl1
  ·show upd _ _ _ a.bl=_
   rw [d8 o1.symm,d8 b2.symm,d9]
   show some (HO.lst (nV Fr.bs++[_]))=some (HO.lst (nV (Fr.bs++[jH B.P B.ns Fr.ps])))
   rw [jV]
  ·show upd _ _ _ pl'=_
   rw [d8 o2.symm,d9]
   rfl
  ·rcases List.mem_cons.mp hx with rfl | hx
   ·refine .inl ⟨_,bl1,fun z=>?_⟩
    rw [g.lists] at z
    rcases List.mem_append.mp z with z | z
    ·exact nbl z
    ·exact nbp (hv _ z)
   ·rcases List.mem_singleton.mp hx with rfl
    exact .inr ⟨_,_,_,ob1,co.bb,co.bn⟩
  ·exact k1.free (fun x hx=>by
    rcases List.mem_singleton.mp hx with rfl
    rw [show H1 Ad.na=some _ from by have:=R1.nodes;rw [g.na.1] at this;exact this]
    simp) pn1
  ·exact (k1.mono fun x hx=>by simp at hx;simp [hx]).trans (kk.mono fun x hx=>by simp at hx;rcases hx with rfl | rfl <;> simp)
end
end Pg
end
section
set_option linter.all false
set_option maxRecDepth 100000
set_option maxHeartbeats 4000000
namespace Pg
open PySem L2 Xc Sp
theorem dGD {x y:Addr} (hxy:x≠y):∀ {vs ws:List Addr},(∀ a∈vs,a=x)→vs.length≤1→(∀ a∈ws,a=y)→ws.length≤1→(vs++ws).Nodup
 | [],[],_,_,_,_=>by simp
 | [],[b],_,_,_,_=>by simp
 | [a],[],_,_,_,_=>by simp
 | [a],[b],h1,_,h2,_=>by
  have e1:=h1 a (by simp)
  have e2:=h2 b (by simp)
  subst e1 e2
  simp [hxy]
 | _::_::_,_,_,h,_,_=>by simp at h
 | [],_::_::_,_,_,_,h=>by simp at h
 | [_],_::_::_,_,_,_,h=>by simp at h
theorem yY (ns:List dI) (F:FraN):(ebNs ns F).length≤ns.length+1:=by
 unfold ebNs gb
 split
 ·omega
 ·simp
theorem dDc (P:Nat) (ns:List dI) (F:FraN):(efNs P ns F).length≤ns.length+2:=by
 have:=yY ns F
 unfold efNs gb
 split
 ·omega
 ·simp;omega
def jp (cs:Cs):Sp:=fun vs H Q _=>∃ (a:BrA) (F:FraN) (b:Addr) (A:BkA) (p:Nat) (B:Bk),vs=[.ref a.ob,.ref b]∧Pair cs H a F b A p B ∧
 ∀ (A':BkA) (vs':List Addr) (bl' pl':Addr) (H':Hp),BrkAt cs H' { a with bl:=bl',pl:=pl' } (gG B.P B.ns F)→BookAt cs H' b A' p { B with ns:=efNs B.P B.ns F }→Grow H A A' vs'→(∀ x∈vs',x=a.pl∨x=a.bl)→vs'.Nodup →
  H bl'=none→H pl'=none→bl'≠pl'→Kp [A.na,a.bl,a.fl,a.ob] H H'→Q .non H'
section
variable {P:Program}{w:World}{K:PySem.W.Frag}{mg:Str→Option Value}{base:Heap}{cs:Cs}
theorem wf:FnScope ["self","book"] ["self","book"] (dB gO):=⟨rfl,rfl,rfl,by decide +kernel,rfl,by decide +kernel,by decide +kernel⟩
theorem we (co:CsOk cs) (T:MetT K cs.bra "end_formula" "Bracket.end_formula" gO) (cl:Cls K cs.bra) (na:NoAt K cs.bra ["asked","formulas","boths","parts"])
  (J:DefOk P w K mg base 4 "joined" ["book","asked","within"] (yd cs)) (EB:MetOk P w K mg base 5 cs.bra "end_both" ["self","book"] (vc cs)):MetOk P w K mg base 6 cs.bra "end_formula" ["self","book"] (jp cs):=by
 obtain ⟨f,fd,F,M⟩:=T.ex
 refine ⟨f,fd,M,F.binds (fun _ _ _ _ _ _ us hl=>match us,hl with | [_,_],_=>rfl),okN F wf (fun vs H Q E h=>?_) (fun cdv A outer s H vs Q E hr h=>?_)⟩
 ·obtain ⟨a,F,b,A,p,B,rfl,_⟩:=h
  rfl
 ·obtain ⟨a,Fr,b,Ad,p,B,rfl,R,kq⟩:=h
  obtain ⟨dx,ob⟩:=R.br.ob
  have nfl:a.fl∉Ad.lists:=R.ap _ (by simp [BrA.lists])
  have nbl:a.bl∉Ad.lists:=R.ap _ (by simp [BrA.lists])
  have npl:a.pl∉Ad.lists:=R.ap _ (by simp [BrA.lists])
  have naIn:Ad.na∈Ad.lists:=by simp [BkA.lists]
  have hnd:=R.nd
  unfold BrA.lists at hnd
  simp only [List.nodup_cons,List.mem_cons,List.mem_singleton,List.not_mem_nil,not_or] at hnd
  obtain ⟨⟨nfb,nfp,_⟩,⟨nbp,_⟩,_⟩:=hnd
  refine ⟨_,dA (dN (di (pv 0) cl EB hr dG (d0 (pv 1) dD)))
   (dA (dN (kZ PySem.F.plainAttrs_list PySem.F.slot_list_append PySem.F.type_list_append g7 (dM (pv 0) rfl)
    (d0 (dj (J.mono (by decide:4≤5)) hr rfl dG (d0 (pv 1) (d0 dS (d0 (dM (pv 0) rfl) dD)))) dD)))
   (dE (j9 (pv 0) (jJ dD) rfl))),?_⟩
  refine ⟨_,rfl,a.ob,dx,_,rfl,ob,d7G _ _ _ _ (by decide +kernel) (by decide +kernel) (by decide +kernel) (by decide +kernel),_,rfl,a,Fr,b,Ad,p,B,rfl,R,fun A1 v1 pl1 H1 br1 R1 g1 hv1 hl1 hp1 k1=>?_⟩
  obtain ⟨dx1,ob1⟩:=br1.ob
  have ob1':H1 a.ob=some (.ins cs.bra dx1 (brF (Fr.asked:Int) a.fl a.bl pl1)):=ob1
  have fl1:H1 a.fl=some (.lst (nV Fr.fs)):=br1.fs
  have bl1:H1 a.bl=some (.lst (nV (j8 B.P B.ns Fr).bs)):=br1.bs
  have pl1':H1 pl1=some (.lst []):=br1.ps
  have nbl1:a.bl∉A1.lists:=fun z=>by
   rw [g1.lists] at z
   rcases List.mem_append.mp z with z | z
   ·exact nbl z
   ·exact nbp (hv1 _ z)
  have nfl1:a.fl∉A1.lists:=fun z=>by
   rw [g1.lists] at z
   rcases List.mem_append.mp z with z | z
   ·exact nfl z
   ·exact nfp (hv1 _ z)
  have fr1:∀ x,H1 x=none→H x=none:=fun x hx=>k1.free (fun y hy=>by
   simp only [List.mem_cons,List.mem_singleton,List.not_mem_nil,or_false] at hy
   rcases hy with rfl | rfl | rfl
   ·rw [←g1.na.1,R1.nodes];simp
   ·rw [bl1];simp
   ·rw [ob1'];simp) hx
  refine ⟨_,rfl,a.ob,cs.bra,dx1,_,_,rfl,ob1',cl,na _ (by simp),jG _ _ _ _,.inl ⟨rfl,_,SqL.of fl1⟩,_,rfl,?_⟩
  refine ⟨_,rfl,a.ob,cs.bra,dx1,_,_,rfl,ob1',cl,na _ (by simp),d3V _ _ _ _,b,a.bl,1,A1,p,_,_,rfl,R1,bl1,nbl1,?_,fun A2 v2 H2 R2 g2 hv2 hl2 k2=>?_⟩
  ·show (ebNs B.ns Fr).length < 100000
   have h1:=yY B.ns Fr
   have h2:=R.fewN
   omega
  have na1:A1.na=Ad.na:=g1.na.1
  have fl2:H2 a.fl=some (.lst (nV Fr.fs)):=k2 _ _ fl1 (by simpa using fun z:a.fl=A1.na=>nfl1 (by rw [z];simp [BkA.lists]))
  have bl2:H2 a.bl=some (.lst (nV (j8 B.P B.ns Fr).bs)):=k2 _ _ bl1 (by simpa using fun z:a.bl=A1.na=>nbl1 (by rw [z];simp [BkA.lists]))
  have ob2:H2 a.ob=some (.ins cs.bra dx1 (brF (Fr.asked:Int) a.fl a.bl pl1)):=k2 _ _ ob1' (by simpa using jE ob1' R1.nodes)
  have nlA:pl1≠Ad.na:=fun z=>by rw [z,R.bk.nodes] at hp1;cases hp1
  have pl2:H2 pl1=some (.lst []):=k2 _ _ pl1' (by rw [na1];simpa using nlA)
  have npf:pl1≠a.fl:=fun z=>by rw [z,R.br.fs] at hp1;cases hp1
  refine ⟨a.fl,_,_,rfl,rfl,fl2,?_,?_⟩
  ·rw [dH]
   have:=R.few
   unfold FraN.all at this
   rw [List.length_append,List.length_append] at this
   exact Nat.lt_trans (by omega) dc
  refine ⟨Nat.zero_le _,fun bl' hbl'=>?_⟩
  have o1:a.ob≠a.fl:=jE ob2 fl2
  have o2:a.ob≠bl':=fun z=>by rw [←z,d8 o1,ob2] at hbl';cases hbl'
  have b2:bl'≠a.fl:=fun z=>by rw [z,d9] at hbl';cases hbl'
  have bn2:H2 bl'=none:=by rw [d8 b2] at hbl';exact hbl'
  have pb:pl1≠bl':=dC pl2 bn2
  refine ⟨_,rfl,a.ob,cs.bra,dx1,_,rfl,by rw [d8 o2,d8 o1];exact ob2,cl,na _ (by simp),(by show 4 < 1000;decide),?_⟩
  have kk:Kp [a.fl,a.ob] H2 (upd (upd (upd H2 a.fl (.lst (nV Fr.fs++[V.int ((jH B.P (ebNs B.ns Fr) (j8 B.P B.ns Fr).bs:Nat):Int)]))) bl' (.lst [])) a.ob (.ins cs.bra dx1 (putF "boths" (.ref bl') (brF (Fr.asked:Int) a.fl a.bl pl1)))):=
   ((Kp.refl.upd (.inl (by simp))).upd (.inr bn2)).upd (.inl (by simp))
  have fr2:∀ x,H2 x=none→H1 x=none:=fun x hx=>k2.free (fun y hy=>by
   simp only [List.mem_cons,List.mem_singleton,List.not_mem_nil,or_false] at hy
   subst hy
   rw [←g2.na.1,R2.nodes];simp) hx
  have gg:=g1.trans g2 fr1
  have nflA2:a.fl∉A2.lists:=fun z=>by
   rw [g2.lists] at z
   rcases List.mem_append.mp z with z | z
   ·exact nfl1 z
   ·exact nfb (hv2 _ z)
  refine kq A2 (v1++v2) bl' pl1 _ ⟨⟨dx1,Eq.trans d9 (congrArg (fun q=>some (HO.ins cs.bra dx1 q)) (d3S _ _ _ _ _))⟩,?_,?_,?_⟩ (R2.keep kk fun x hx=>?_) gg (fun x hx=>?_) (dGD (fun z=>nbp z.symm) hv1 hl1 hv2 hl2) (fr1 _ (fr2 _ bn2)) hp1 pb.symm ?_
  ·show upd _ _ _ a.fl=_
   rw [d8 o1.symm,d8 b2.symm,d9]
   show some (HO.lst (nV Fr.fs++[_]))=some (HO.lst (nV (Fr.fs++[efAt B.P B.ns Fr])))
   rw [jV]
   rfl
  ·show upd _ _ _ bl'=_
   rw [d8 o2.symm,d9]
   rfl
  ·show upd _ _ _ pl1=_
   rw [d8 (jE ob2 pl2).symm,d8 pb,d8 npf,pl2]
   rfl
  ·simp only [List.mem_cons,List.mem_singleton,List.not_mem_nil,or_false] at hx
   rcases hx with rfl | rfl
   ·exact .inl ⟨_,fl2,nflA2⟩
   ·exact .inr ⟨_,_,_,ob2,co.bb,co.bn⟩
  ·rcases List.mem_append.mp hx with z | z
   ·exact .inl (hv1 _ z)
   ·exact .inr (hv2 _ z)
  ·refine (k1.mono fun x hx=>?_).trans ((k2.mono fun x hx=>?_).trans (kk.mono fun x hx=>?_))
   ·simp at hx ⊢;rcases hx with rfl | rfl | rfl <;> simp
   ·simp at hx;rw [hx,na1];simp
   ·simp at hx;rcases hx with rfl | rfl <;> simp
end
end Pg
end
section
set_option linter.all false
set_option maxRecDepth 100000
set_option maxHeartbeats 4000000
namespace Pg
open PySem L2 Xc Sp
def clNs (ns:List dI) (F:FraN):List dI:=if F.asked=0 then ns else ns++[(F.asked,F.fs)]
def clAt (P:Nat) (ns:List dI) (F:FraN):Nat:=if F.asked=0 then F.fs.headD 0 else P+ns.length
def d9c (cs:Cs):Sp:=fun vs H Q _=>∃ (a:BrA) (F:FraN) (b:Addr) (A:BkA) (p:Nat) (B:Bk),vs=[.ref a.ob,.ref b]∧BrkAt cs H a F∧BookAt cs H b A p B∧a.fl∉A.lists∧F.fs≠[]∧B.ns.length < 100000 ∧
 ∀ (A':BkA) (vs':List Addr) (H':Hp),BookAt cs H' b A' p { B with ns:=clNs B.ns F }→Grow H A A' vs'→(∀ x∈vs',x=a.fl)→vs'.length≤1→Kp [A.na] H H'→Q (.int ((clAt B.P B.ns F:Nat):Int)) H'
section
variable {P:Program}{w:World}{K:PySem.W.Frag}{mg:Str→Option Value}{base:Heap}{cs:Cs}
theorem dCC:FnScope ["bracket","book"] ["bracket","book"] (dB vh):=⟨rfl,rfl,rfl,by decide +kernel,rfl,by decide +kernel,by decide +kernel⟩
theorem dAk (T:FunT K mg "closed" vh) (cl:Cls K cs.bra) (na:NoAt K cs.bra ["asked","formulas","boths","parts"]) (clB:Cls K cs.boo)
  (AN:MetOk P w K mg base 3 cs.boo "add_node" ["self","asked","within"] (vg cs)):DefOk P w K mg base 4 "closed" ["bracket","book"] (d9c cs):=by
 obtain ⟨f,fd,F,hm⟩:=T.ex
 refine ⟨f,fd,hm,F.kp,F.binds (fun _ _ _ _ _ _ us hl=>match us,hl with | [_,_],_=>rfl),okN F dCC (fun vs H Q E h=>?_) (fun cdv A outer s H vs Q E hr h=>?_)⟩
 ·obtain ⟨a,F,b,A,p,B,rfl,_⟩:=h
  rfl
 ·obtain ⟨a,Fr,b,Ad,p,B,rfl,br,R,nfl,hne,hsm,kq⟩:=h
  obtain ⟨dx,ob⟩:=br.ob
  obtain ⟨dxB,obB⟩:=R.ob
  refine ⟨_,dA (gv (dQ kL (dM (pv 0) rfl) dS (dW _)) (dE (dZ (je gj (dM (pv 0) rfl) dS (fun _ _=>rfl)))) dq)
   (dE (dZ (di (pv 1) clB AN hr dG (d0 (dM (pv 0) rfl) (d0 (dM (pv 0) rfl) dD))))),?_⟩
  refine ⟨_,rfl,a.ob,cs.bra,dx,_,_,rfl,ob,cl,na _ (by simp),uk _ _ _ _,rfl,_,rfl,ite2 (fun hc=>?_) fun hc=>?_⟩
  ·have h0:Fr.asked=0:=by
    have:=of_decide_eq_true hc
    injection this with this
    omega
   have e1:clNs B.ns Fr=B.ns:=if_pos h0
   have e2:clAt B.P B.ns Fr=Fr.fs.headD 0:=if_pos h0
   obtain ⟨i,r,hi⟩:∃ i r,Fr.fs=i::r:=by
    cases q:Fr.fs with
    | nil=>exact absurd q hne
    | cons i r=>exact ⟨i,r,rfl⟩
   refine ⟨_,rfl,a.ob,cs.bra,dx,_,_,rfl,ob,cl,na _ (by simp),jG _ _ _ _,a.fl,_,_,V.int (i:Int),rfl,rfl,SqL.of br.fs,uP (j:=0) rfl (by rw [hi];rfl),?_⟩
   show Q (V.int (i:Int)) H
   have e3:(i:Int)=((clAt B.P B.ns Fr:Nat):Int):=by rw [e2,hi];rfl
   rw [e3]
   exact kq Ad [] H (by rw [e1];exact R) (Grow.none H Ad) (fun x hx=>by simp at hx) (by simp) Kp.refl
  ·have h0:¬ Fr.asked=0:=fun z=>hc (decide_eq_true (by rw [z];rfl))
   have e1:clNs B.ns Fr=B.ns++[(Fr.asked,Fr.fs)]:=if_neg h0
   have e2:clAt B.P B.ns Fr=B.P+B.ns.length:=if_neg h0
   refine ⟨_,rfl,b,dxB,_,rfl,obB,uc _ _ _ _ _ (by decide +kernel) (by decide +kernel) (by decide +kernel) (by decide +kernel) (by decide +kernel),_,rfl,a.ob,cs.bra,dx,_,_,rfl,ob,cl,na _ (by simp),uk _ _ _ _,
    _,rfl,a.ob,cs.bra,dx,_,_,rfl,ob,cl,na _ (by simp),jG _ _ _ _,b,a.fl,Fr.asked,Ad,p,B,Fr.fs,rfl,R,br.fs,nfl,hsm,fun nx H' R' k' hn=>?_⟩
   rw [←e2]
   exact kq _ [a.fl] H' (by rw [e1];exact R') (Grow.one hn) (fun x hx=>by simpa using hx) (by simp) k'
end
end Pg
end
section
set_option linter.all false
set_option maxRecDepth 100000
set_option maxHeartbeats 4000000
namespace Pg
open PySem PySem.Spec PyProof.Rows L2 Xc Sp
structure CMeth (K:PySem.W.Frag) (C:Addr) (m:Str) (f:Addr):Prop where
 rd:PySem.W.readsIn K C (.type "type")=true
 fc:PySem.W.findCls K (.ref C) (.type "type") m=some (.val (.ref f))
 ga:PySem.W.specialIn K (.ref C) "__getattribute__"=some (some (.builtin "type.__getattribute__"))
 kp:PySem.W.keepIn K (.ref f)=true
theorem u9 {X:Cx}{k:Nat}{C f:Addr}{fd:FuncData}{ps:List Str}{sp:Sp}{E:XK}{x m:Str}{p pos apos:Pos}{e:Expr}{es:List Expr}{t:TA}{pl:Sem Bool} (hg:Gl X x) (hm:X.mg x=some (.ref C)) (c:CMeth X.K C m f)
  (F:FnOk X.prog X.w X.K X.mg X.base (CXX X.prog X.w) k f fd ps sp) (hr:Room k X.A) (hb:Binds X.K fd ps []) (hx:jF (CXX X.prog X.w) X E) (ha:PA X (e::es) t) (hdb:(x==("__debug__":Str))=false:=by decide)
  (hst:starEach (e::es) X.env=(false,eval e X.env)::starEach es X.env:=by rfl) (hpl:(backTo pos (starEach es X.env)).any (·.1)=false:=by rfl)
  (ht:eval (.Call (.Attribute (.Name x p) m apos) (e::es) [] pos) X.env=(do
   let ov ←eval (.Name x p) X.env
   standAt apos.atName
   let (f,first) ←holding [ov] (getMethod ov m pl)
   callWith pos f first (backTo pos (starEach (e::es) X.env)) (backToKw pos (keywordEach [] X.env))):=by rfl) :
  PE X (.Call (.Attribute (.Name x p) m apos) (e::es) [] pos) (dF9 sp [] E t):=by
 intro pins s σ H Q I h
 refine PySem.W.methodCall_KW (pl:=pl) (kM I hg hm ?_ hdb) ht
 refine PySem.W.method_cls I.kIn c.ga (PySem.W.cls_value I.kIn c.rd c.fc rfl ?_)
 have I1:=I.tok (s.toks+1)
 refine PySem.W.callWith_K (first:=[]) (h₀:=X.base) I.ok.mod.kin c.kp (thn (ha pos pins _ σ H _ I1 h) fun us s2 ⟨vs,H2,I2,r,q2⟩=>⟨I2.kIn,?_⟩) hst hpl
 exact d99 (us:=us) (vs:=vs) F hr hb .nil hx I2 r q2
def numF (n:Int):List (Str×V):=[("number",.int n)]
def dB2 (K:PySem.W.Frag):Sp:=fun vs H Q _=>∃ (x C:Addr) (n:Int),vs=[.ref x,.int n]∧H x=some (.ext (yy C x))∧ClsX K C∧PySem.W.findIn K (.ref C) "number"=some none ∧
 ∀ (dx:Addr) (H':Hp),H' x=some (.ext (ve C dx x))→H' dx=some (.xd (numF n))→H dx=none→Kp [x] H H'→Q .non H'
def uH (K:PySem.W.Frag) (C:Addr) (n:Int):Sp:=fun vs H Q _=>∃ (x:Addr),vs=[.ref x]∧H x=some (.ext (yy C x)) ∧
 ∀ (dx:Addr) (H':Hp),H' x=some (.ext (ve C dx x))→H' dx=some (.xd (numF n))→H dx=none→Kp [x] H H'→Q .non H'
def dDk (K:PySem.W.Frag) (C:Addr):Sp:=fun vs H Q _=>∃ (x:Addr) (i:Int),vs=[.ref x,.int i]∧H x=some (.ext (yy C x)) ∧
 ∀ (dx:Addr) (H':Hp),H' x=some (.ext (ve C dx x))→H' dx=some (.xd (numF (-100-i)))→H dx=none→Kp [x] H H'→Q .non H'
section
variable {P:Program}{w:World}{K:PySem.W.Frag}{mg:Str→Option Value}{base:Heap}{cs:Cs}
theorem dA3:FnScope ["self","number"] ["self","number"] (dB g6):=⟨rfl,rfl,rfl,by decide +kernel,rfl,by decide +kernel,by decide +kernel⟩
theorem uD {f:Addr}{fd:FuncData} (F:Fun K "__init__" "Refusal.__init__" g6 f fd):FnOk P w K mg base (CXX P w) 1 f fd ["self","number"] (dB2 K):=by
 refine okN F dA3 (fun vs H Q E h=>?_) (fun cdv A outer s H vs Q E hr h=>?_)
 ·obtain ⟨x,C,n,rfl,_⟩:=h
  rfl
 ·obtain ⟨x,C,n,rfl,hx,c,nn,kq⟩:=h
  refine ⟨_,dE (dEH (pv 0) (pv 1) rfl),?_⟩
  refine ⟨_,rfl,_,rfl,x,C,rfl,hx,c,nn,fun dx hd=>?_⟩
  have hdx:dx≠x:=fun z=>by rw [z,hx] at hd;cases hd
  exact kq dx _ d9 (by rw [d8 hdx,d9];rfl) hd ((Kp.refl.upd (.inr hd)).upd (.inl (by simp)))
theorem jP {f:Addr}{fd:FuncData} (F:Fun K "__init__" "Refusal.__init__" g6 f fd):Binds K fd ["self","number"] []:=F.binds (fun _ _ _ _ _ _ us hl=>match us,hl with | [_,_],_=>rfl)
structure ExcsT (K:PySem.W.Frag) (mg:Str→Option Value) (cs:Cs):Prop where
 ref:∃ f fd,Fun K "__init__" "Refusal.__init__" g6 f fd∧CMeth K cs.ref "__init__" f
 mref:mg "Refusal"=some (.ref cs.ref)
 oor:ExcT K mg "OutOfRange" cs.oor "OutOfRange.__init__" gt
 ovl:ExcT K mg "OverLimit" cs.ovl "OverLimit.__init__" jB
 cst:ExcT K mg "CannotStand" cs.cst "CannotStand.__init__" gh
 noor:PySem.W.findIn K (.ref cs.oor) "number"=some none
 novl:PySem.W.findIn K (.ref cs.ovl) "number"=some none
 ncst:PySem.W.findIn K (.ref cs.cst) "number"=some none
structure ExcOk (P:Program) (w:World) (K:PySem.W.Frag) (mg:Str→Option Value) (base:Heap) (k:Nat) (x:Str) (C:Addr) (ps:List Str) (sp:Sp):Prop where
 ex:∃ f fd,mg x=some (.ref C)∧ExcC K C f∧Binds K fd ps []∧FnOk P w K mg base (CXX P w) k f fd ps sp
theorem ye:FnScope ["self"] ["self"] (dB gt):=⟨rfl,rfl,rfl,by decide +kernel,rfl,by decide +kernel,by decide +kernel⟩
theorem d4e:FnScope ["self"] ["self"] (dB jB):=⟨rfl,rfl,rfl,by decide +kernel,rfl,by decide +kernel,by decide +kernel⟩
theorem wc:FnScope ["self","place"] ["self","place"] (dB gh):=⟨rfl,rfl,rfl,by decide +kernel,rfl,by decide +kernel,by decide +kernel⟩
theorem jQ (T:ExcsT K mg cs):ExcOk P w K mg base 2 "OutOfRange" cs.oor ["self"] (uH K cs.oor (-2)):=by
 obtain ⟨fR,fdR,FR,cm⟩:=T.ref
 obtain ⟨f,fd,F,M,hm⟩:=T.oor.ex
 refine ⟨f,fd,hm,M,F.binds (fun _ _ _ _ _ _ us hl=>match us,hl with | [_],_=>rfl),okN F ye (fun vs H Q E h=>?_) (fun cdv A outer s H vs Q E hr h=>?_)⟩
 ·obtain ⟨x,rfl,_⟩:=h
  rfl
 ·obtain ⟨x,rfl,hx,kq⟩:=h
  refine ⟨_,dE (dN (u9 rfl T.mref cm (uD FR) hr (jP FR) dG (d0 (pv 0) (d0 (d8U vt dS) dD)))),?_⟩
  refine ⟨_,rfl,_,rfl,x,cs.oor,-2,rfl,hx,T.oor.cls,T.noor,fun dx H' h1 h2 h3 h4=>kq dx H' h1 h2 h3 h4⟩
theorem d6X (T:ExcsT K mg cs):ExcOk P w K mg base 2 "OverLimit" cs.ovl ["self"] (uH K cs.ovl (-5)):=by
 obtain ⟨fR,fdR,FR,cm⟩:=T.ref
 obtain ⟨f,fd,F,M,hm⟩:=T.ovl.ex
 refine ⟨f,fd,hm,M,F.binds (fun _ _ _ _ _ _ us hl=>match us,hl with | [_],_=>rfl),okN F d4e (fun vs H Q E h=>?_) (fun cdv A outer s H vs Q E hr h=>?_)⟩
 ·obtain ⟨x,rfl,_⟩:=h
  rfl
 ·obtain ⟨x,rfl,hx,kq⟩:=h
  refine ⟨_,dE (dN (u9 rfl T.mref cm (uD FR) hr (jP FR) dG (d0 (pv 0) (d0 (d8U vt dS) dD)))),?_⟩
  refine ⟨_,rfl,_,rfl,x,cs.ovl,-5,rfl,hx,T.ovl.cls,T.novl,fun dx H' h1 h2 h3 h4=>kq dx H' h1 h2 h3 h4⟩
theorem wg (T:ExcsT K mg cs):ExcOk P w K mg base 2 "CannotStand" cs.cst ["self","place"] (dDk K cs.cst):=by
 obtain ⟨fR,fdR,FR,cm⟩:=T.ref
 obtain ⟨f,fd,F,M,hm⟩:=T.cst.ex
 refine ⟨f,fd,hm,M,F.binds (fun _ _ _ _ _ _ us hl=>match us,hl with | [_,_],_=>rfl),okN F wc (fun vs H Q E h=>?_) (fun cdv A outer s H vs Q E hr h=>?_)⟩
 ·obtain ⟨x,i,rfl,_⟩:=h
  rfl
 ·obtain ⟨x,i,rfl,hx,kq⟩:=h
  refine ⟨_,dE (dN (u9 rfl T.mref cm (uD FR) hr (jP FR) dG (d0 (pv 0) (d0 (jT wq (d8U vt dS) (pv 1)) dD)))),?_⟩
  refine ⟨_,rfl,_,rfl,_,rfl,_,_,rfl,rfl,x,cs.cst,-100-i,rfl,hx,T.cst.cls,T.ncst,fun dx H' h1 h2 h3 h4=>kq dx H' h1 h2 h3 h4⟩
end
end Pg
end
section
set_option linter.all false
set_option maxRecDepth 100000
set_option maxHeartbeats 4000000
namespace Pg
open PySem L2 Xc Sp
def dFy (cs:Cs) (H:Hp) (a:Addr) (t:PT):Prop:=∃ dx,H a=some (.ins cs.tok dx (tokG (dl t.1) (mkS t.1) (t.2:Int)))
structure ToksAt (cs:Cs) (H:Hp) (lt:Addr) (as:List Addr) (T:List PT):Prop where
 lst:H lt=some (.lst (as.map V.ref))
 len:as.length=T.length
 at_:∀ (j:Nat) (a:Addr) (t:PT),as[j]?=some a→T[j]?=some t→dFy cs H a t
structure ReadAt (cs:Cs) (H:Hp) (r lt:Addr) (as:List Addr) (T:List PT) (i:Nat):Prop where
 ob:∃ dx,H r=some (.ins cs.rea dx (rdF lt (i:Int)))
 tk:ToksAt cs H lt as T
def Thr (E:XK) (C:Addr) (n:Int):Prop:=∀ dx H',H' dx=some (.xd (numF n))→E (.ref C) (some dx) H'
def ug (cs:Cs):Sp:=fun vs H Q _=>∃ (r lt:Addr) (as:List Addr) (T:List PT) (i:Nat) (t:PT),vs=[.ref r]∧ReadAt cs H r lt as T i∧T[i]?=some t∧∀ a,dFy cs H a t→Q (.ref a) H
def ui (cs:Cs):Sp:=fun vs H Q E=>∃ (r lt:Addr) (as:List Addr) (T:List PT) (i:Nat) (t:PT) (c:Bool),vs=[.ref r,.bl c]∧ReadAt cs H r lt as T i∧T[i]?=some t ∧
 (c=true→∀ H',ReadAt cs H' r lt as T (i+1)→Kp [r] H H'→Q (.str (mkS t.1)) H')∧(c=false→Thr E cs.cst (-100-(t.2:Int)))
def kA (cs:Cs):Sp:=fun vs H Q E=>∃ (r lt:Addr) (as:List Addr) (T:List PT) (i:Nat) (t:PT) (wd:Str),vs=[.ref r,.str wd]∧ReadAt cs H r lt as T i∧T[i]?=some t ∧
 (mkS t.1=wd→∀ H',ReadAt cs H' r lt as T (i+1)→Kp [r] H H'→Q (.str (mkS t.1)) H')∧(¬ mkS t.1=wd→Thr E cs.cst (-100-(t.2:Int)))
def y3 (cs:Cs) (known:Bool):Sp:=fun vs H Q E=>∃ (r lt:Addr) (as:List Addr) (T:List PT) (i:Nat) (t:PT) (ma:Addr) (kvs:List (Key×V)),vs=[.ref r,.ref ma]∧ReadAt cs H r lt as T i∧T[i]?=some t∧H ma=some (.dK kvs) ∧
 (dl t.1="name"∧(valV kvs (Sum.inr (mkS t.1))).isSome=known→∀ H',ReadAt cs H' r lt as T (i+1)→Kp [r] H H'→Q (.str (mkS t.1)) H') ∧
 (¬ (dl t.1="name"∧(valV kvs (Sum.inr (mkS t.1))).isSome=known)→Thr E cs.cst (-100-(t.2:Int)))
section
variable {P:Program}{w:World}{K:PySem.W.Frag}{mg:Str→Option Value}{base:Heap}{cs:Cs}
theorem dFt:FnScope ["self"] ["self"] (dB kG):=⟨rfl,rfl,rfl,by decide +kernel,rfl,by decide +kernel,by decide +kernel⟩
theorem dFV (T:MetT K cs.rea "now" "Reader.now" kG) (cl:Cls K cs.rea) (na:NoAt K cs.rea ["tokens","at"]):MetOk P w K mg base 1 cs.rea "now" ["self"] (ug cs):=by
 obtain ⟨f,fd,F,M⟩:=T.ex
 refine ⟨f,fd,M,F.binds (fun _ _ _ _ _ _ us hl=>match us,hl with | [_],_=>rfl),okN F dFt (fun vs H Q E h=>?_) (fun cdv A outer s H vs Q E hr h=>?_)⟩
 ·obtain ⟨r,lt,as,T,i,t,rfl,_⟩:=h
  rfl
 ·obtain ⟨r,lt,as,T,i,t,rfl,R,ht,kq⟩:=h
  obtain ⟨dx,ob⟩:=R.ob
  have hi:i < as.length:=by rw [R.tk.len];exact (List.getElem?_eq_some_iff.mp ht).1
  refine ⟨_,dE (dZ (je gj (dM (pv 0) rfl) (dM (pv 0) rfl) (fun _ _=>rfl))),?_⟩
  refine ⟨_,rfl,r,cs.rea,dx,_,_,rfl,ob,cl,na _ (by simp),dAX _ _,_,rfl,r,cs.rea,dx,_,_,rfl,ob,cl,na _ (by simp),dAs _ _,lt,_,_,V.ref as[i],rfl,rfl,SqL.of R.tk.lst,uP (j:=i) rfl (by rw [List.getElem?_map,List.getElem?_eq_getElem hi];rfl),?_⟩
  exact kq as[i] (R.tk.at_ i _ t (List.getElem?_eq_getElem hi) ht)
theorem sc_take:FnScope ["self","stands","token"] ["self","stands"] (dB jv):=⟨rfl,rfl,rfl,by decide +kernel,rfl,by decide +kernel,by decide +kernel⟩
theorem dEU (T:MetT K cs.rea "take" "Reader.take" jv) (cl:Cls K cs.rea) (na:NoAt K cs.rea ["tokens","at"]) (clT:Cls K cs.tok) (naT:NoAt K cs.tok ["kind","word","place"])
  (NW:MetOk P w K mg base 1 cs.rea "now" ["self"] (ug cs)) (CS:ExcOk P w K mg base 2 "CannotStand" cs.cst ["self","place"] (dDk K cs.cst)):MetOk P w K mg base 4 cs.rea "take" ["self","stands"] (ui cs):=by
 obtain ⟨f,fd,F,M⟩:=T.ex
 obtain ⟨fC,fdC,hmC,MC,bC,GC⟩:=CS.ex
 refine ⟨f,fd,M,F.binds (fun _ _ _ _ _ _ us hl=>match us,hl with | [_,_],_=>rfl),okX F sc_take (fun vs H Q E h=>?_) (fun cdv A outer s H vs Q E hr h=>?_)⟩
 ·obtain ⟨r,lt,as,T,i,t,c,rfl,_⟩:=h
  rfl
 ·obtain ⟨r,lt,as,T,i,t,c,rfl,R,ht,kq,kx⟩:=h
  obtain ⟨dx,ob⟩:=R.ob
  refine ⟨_,dA (dX (i:=2) sc_take.nd rfl (Or.inl rfl) (gX (pv 0) cl (NW.mono (by decide:1≤3)) hr dG))
   (dA (gv (dB3 (uF (pv 1))) (dE (dCa MC GC hr bC rfl hmC (d0 (dM (pv 2) rfl) dD))) dq)
   (dA (dAe (pv 0) dS dFd) (dE (dZ (dM (pv 2) rfl))))),?_⟩
  refine ⟨_,rfl,r,dx,_,rfl,ob,jn _ _ (by decide +kernel) (by decide +kernel),r,lt,as,T,i,t,rfl,R,ht,fun a ta=>?_⟩
  obtain ⟨dt,hta⟩:=id ta
  refine ⟨_,rfl,c,rfl,?_⟩
  cases c with
  | false=>
   refine iteT ?_
   refine ⟨_,rfl,a,cs.tok,dt,_,_,rfl,hta,clT,naT _ (by simp),dA4 _ _ _,(by show 1≤sizeLine;decide),fun x hx=>?_⟩
   refine ⟨x,_,rfl,d9,fun dy H' h1 h2 h3 h4=>⟨rfl,x,dy,rfl,h1,?_⟩⟩
   have hdx:dy≠x:=fun z=>by rw [z,d9] at h3;cases h3
   exact kx rfl dy _ (by rw [jI hdx];exact h2)
  | true=>
   refine iteF ?_
   refine ⟨_,rfl,r,cs.rea,dx,_,_,rfl,ob,cl,na _ (by simp),dAs _ _,_,_,rfl,rfl,dx,_,ob,(by show 2 < 1000;decide),?_⟩
   have na':a≠r:=uq hta ob (by
    intro z
    injection z with _ _ z
    exact absurd (congrArg List.length z) (by show ¬ 3=2;decide))
   refine ⟨_,rfl,a,cs.tok,dt,_,_,rfl,by rw [d8 na'];exact hta,clT,naT _ (by simp),jd _ _ _,?_⟩
   have kp:Kp [r] H (upd H r (.ins cs.rea dx (putF "at" (.int ((i:Int)+1)) (rdF lt (i:Int))))):=Kp.refl.upd (.inl (by simp))
   refine kq rfl _ ⟨⟨dx,?_⟩,⟨kp _ _ R.tk.lst (by simpa using (jE ob R.tk.lst).symm),R.tk.len,fun j b u e1 e2=>?_⟩⟩ kp
   ·rw [d9,dEj]
    rfl
   ·obtain ⟨dy,hb⟩:=R.tk.at_ j b u e1 e2
    exact ⟨dy,kp _ _ hb (by
     have:b≠r:=uq hb ob (by
      intro z
      injection z with _ _ z
      exact absurd (congrArg List.length z) (by show ¬ 3=2;decide))
     simpa using this)⟩
theorem d9x:FnScope ["self","word"] ["self","word"] (dB gN):=⟨rfl,rfl,rfl,by decide +kernel,rfl,by decide +kernel,by decide +kernel⟩
theorem dAG (T:MetT K cs.rea "take_written" "Reader.take_written" gN) (cl:Cls K cs.rea) (clT:Cls K cs.tok) (naT:NoAt K cs.tok ["kind","word","place"])
  (NW:MetOk P w K mg base 1 cs.rea "now" ["self"] (ug cs)) (TK:MetOk P w K mg base 4 cs.rea "take" ["self","stands"] (ui cs)):MetOk P w K mg base 5 cs.rea "take_written" ["self","word"] (kA cs):=by
 obtain ⟨f,fd,F,M⟩:=T.ex
 refine ⟨f,fd,M,F.binds (fun _ _ _ _ _ _ us hl=>match us,hl with | [_,_],_=>rfl),okX F d9x (fun vs H Q E h=>?_) (fun cdv A outer s H vs Q E hr h=>?_)⟩
 ·obtain ⟨r,lt,as,T,i,t,wd,rfl,_⟩:=h
  rfl
 ·obtain ⟨r,lt,as,T,i,t,wd,rfl,R,ht,kq,kx⟩:=h
  obtain ⟨dx,ob⟩:=R.ob
  refine ⟨_,dE (dZ (di (pv 0) cl TK hr dY (d0 (gi kL (dM (gX (pv 0) cl (NW.mono (by decide:1≤4)) hr dG) rfl) (pv 1) (dW _)) dD))),?_⟩
  refine ⟨_,rfl,r,dx,_,rfl,ob,jn _ _ (by decide +kernel) (by decide +kernel),?_⟩
  refine ⟨_,rfl,r,dx,_,rfl,ob,jn _ _ (by decide +kernel) (by decide +kernel),r,lt,as,T,i,t,rfl,R,ht,fun a ta=>?_⟩
  obtain ⟨dt,hta⟩:=id ta
  refine ⟨a,cs.tok,dt,_,_,rfl,hta,clT,naT _ (by simp),jd _ _ _,_,rfl,rfl,?_⟩
  refine ⟨r,lt,as,T,i,t,_,rfl,R,ht,fun hc=>kq ?_,fun hc=>kx fun z=>?_⟩
  ·have:=of_decide_eq_true hc
   injection this
  ·rw [z] at hc
   simp at hc
theorem sc_new:FnScope ["self","names","token"] ["self","names"] (dB gK):=⟨rfl,rfl,rfl,by decide +kernel,rfl,by decide +kernel,by decide +kernel⟩
theorem dFT (T:MetT K cs.rea "take_new_name" "Reader.take_new_name" gK) (cl:Cls K cs.rea) (clT:Cls K cs.tok) (naT:NoAt K cs.tok ["kind","word","place"]) (hN:∃ t,mg "NAME"=some (.str "name" t))
  (NW:MetOk P w K mg base 1 cs.rea "now" ["self"] (ug cs)) (TK:MetOk P w K mg base 4 cs.rea "take" ["self","stands"] (ui cs)):MetOk P w K mg base 5 cs.rea "take_new_name" ["self","names"] (y3 cs false):=by
 obtain ⟨f,fd,F,M⟩:=T.ex
 obtain ⟨tn,hN⟩:=hN
 refine ⟨f,fd,M,F.binds (fun _ _ _ _ _ _ us hl=>match us,hl with | [_,_],_=>rfl),okX F sc_new (fun vs H Q E h=>?_) (fun cdv A outer s H vs Q E hr h=>?_)⟩
 ·obtain ⟨r,lt,as,T,i,t,ma,kvs,rfl,_⟩:=h
  rfl
 ·obtain ⟨r,lt,as,T,i,t,ma,kvs,rfl,R,ht,hma,kq,kx⟩:=h
  obtain ⟨dx,ob⟩:=R.ob
  refine ⟨_,dA (dX (i:=2) sc_new.nd rfl (Or.inl rfl) (gX (pv 0) cl (NW.mono (by decide:1≤4)) hr dG))
   (dE (dZ (di (pv 0) cl TK hr dY (d0 (d9H (gi kL (dM (pv 2) rfl) (da (v:=.str "name") rfl hN ⟨tn,rfl⟩) (dW _)) (d9D (dDo (dAl (d8j hr) (dM (pv 2) rfl) (pv 1))))) dD)))),?_⟩
  refine ⟨_,rfl,r,dx,_,rfl,ob,jn _ _ (by decide +kernel) (by decide +kernel),r,lt,as,T,i,t,rfl,R,ht,fun a ta=>?_⟩
  obtain ⟨dt,hta⟩:=id ta
  refine ⟨_,rfl,r,dx,_,rfl,ob,jn _ _ (by decide +kernel) (by decide +kernel),?_⟩
  refine ⟨_,rfl,a,cs.tok,dt,_,_,rfl,hta,clT,naT _ (by simp),ko _ _ _,rfl,_,rfl,ite2 (fun hc=>?_) fun hc=>?_⟩
  ·have hk:dl t.1="name":=by
    have:=of_decide_eq_true hc
    injection this
   refine ⟨_,rfl,a,cs.tok,dt,_,_,rfl,hta,clT,naT _ (by simp),jd _ _ _,_,rfl,ma,_,rfl,DGet.k (k:=Sum.inr (mkS t.1)) hma,?_⟩
   refine ⟨r,lt,as,T,i,t,_,rfl,R,ht,fun h2=>kq ⟨hk,by simpa using h2⟩,fun h2=>kx fun z=>?_⟩
   rw [z.2] at h2
   simp at h2
  ·refine ⟨r,lt,as,T,i,t,_,rfl,R,ht,fun h2=>absurd h2 Bool.false_ne_true,fun h2=>kx fun z=>hc (decide_eq_true (by rw [z.1]))⟩
theorem sc_known:FnScope ["self","names","token"] ["self","names"] (dB gB):=⟨rfl,rfl,rfl,by decide +kernel,rfl,by decide +kernel,by decide +kernel⟩
theorem dCi (T:MetT K cs.rea "take_known_name" "Reader.take_known_name" gB) (cl:Cls K cs.rea) (clT:Cls K cs.tok) (naT:NoAt K cs.tok ["kind","word","place"]) (hN:∃ t,mg "NAME"=some (.str "name" t))
  (NW:MetOk P w K mg base 1 cs.rea "now" ["self"] (ug cs)) (TK:MetOk P w K mg base 4 cs.rea "take" ["self","stands"] (ui cs)):MetOk P w K mg base 5 cs.rea "take_known_name" ["self","names"] (y3 cs true):=by
 obtain ⟨f,fd,F,M⟩:=T.ex
 obtain ⟨tn,hN⟩:=hN
 refine ⟨f,fd,M,F.binds (fun _ _ _ _ _ _ us hl=>match us,hl with | [_,_],_=>rfl),okX F sc_known (fun vs H Q E h=>?_) (fun cdv A outer s H vs Q E hr h=>?_)⟩
 ·obtain ⟨r,lt,as,T,i,t,ma,kvs,rfl,_⟩:=h
  rfl
 ·obtain ⟨r,lt,as,T,i,t,ma,kvs,rfl,R,ht,hma,kq,kx⟩:=h
  obtain ⟨dx,ob⟩:=R.ob
  refine ⟨_,dA (dX (i:=2) sc_known.nd rfl (Or.inl rfl) (gX (pv 0) cl (NW.mono (by decide:1≤4)) hr dG))
   (dE (dZ (di (pv 0) cl TK hr dY (d0 (d9H (gi kL (dM (pv 2) rfl) (da (v:=.str "name") rfl hN ⟨tn,rfl⟩) (dW _)) (d9D (dDo (dGO (d8j hr) (dM (pv 2) rfl) (pv 1))))) dD)))),?_⟩
  refine ⟨_,rfl,r,dx,_,rfl,ob,jn _ _ (by decide +kernel) (by decide +kernel),r,lt,as,T,i,t,rfl,R,ht,fun a ta=>?_⟩
  obtain ⟨dt,hta⟩:=id ta
  refine ⟨_,rfl,r,dx,_,rfl,ob,jn _ _ (by decide +kernel) (by decide +kernel),?_⟩
  refine ⟨_,rfl,a,cs.tok,dt,_,_,rfl,hta,clT,naT _ (by simp),ko _ _ _,rfl,_,rfl,ite2 (fun hc=>?_) fun hc=>?_⟩
  ·have hk:dl t.1="name":=by
    have:=of_decide_eq_true hc
    injection this
   refine ⟨_,rfl,a,cs.tok,dt,_,_,rfl,hta,clT,naT _ (by simp),jd _ _ _,_,rfl,ma,_,rfl,DGet.k (k:=Sum.inr (mkS t.1)) hma,?_⟩
   refine ⟨r,lt,as,T,i,t,_,rfl,R,ht,fun h2=>kq ⟨hk,h2⟩,fun h2=>kx fun z=>?_⟩
   rw [z.2] at h2
   cases h2
  ·refine ⟨r,lt,as,T,i,t,_,rfl,R,ht,fun h2=>absurd h2 Bool.false_ne_true,fun h2=>kx fun z=>hc (decide_eq_true (by rw [z.1]))⟩
end
end Pg
end
section
set_option linter.all false
set_option maxRecDepth 100000
set_option maxHeartbeats 4000000
namespace Pg
open PySem L2 Xc Sp Rb35
def tk (T:List PT) (i:Nat):Toks:=absT (T.drop i)
structure TOk (T:List PT):Prop where
 next:∀ i t,T[i]?=some t→t.1≠[]→∃ u,T[i+1]?=some u
 dig:∀ t∈T,dl t.1="number"→∀ c∈t.1,isDigit c=true
 few:T.length≤10000
section
variable {T:List PT}{i:Nat}{t:PT}
theorem dFE (h:T[i]?=some t):T.drop i=t::T.drop (i+1):=by
 obtain ⟨hi,e⟩:=List.getElem?_eq_some_iff.mp h
 rw [List.drop_eq_getElem_cons hi,e]
theorem jz (h:T[i]?=some t):tk T i=match dm t.1 with
  | .bad=>[(.bad,t.2)]
  | .ended=>[(.ended,t.2)]
  | x=>(x,t.2)::tk T (i+1):=by
 unfold tk
 rw [dFE h]
 rfl
theorem jr (h:T[i]?=some t):placeOf (tk T i)=t.2:=by
 rw [jz h]
 cases dm t.1 <;> rfl
def sgn:List Nat:=[40,41,44,59,61,38,124]
theorem dDf {c:Nat} (h:c∈sgn):dm [c]=.sign c:=by
 simp only [sgn,List.mem_cons,List.not_mem_nil,or_false] at h
 rcases h with rfl | rfl | rfl | rfl | rfl | rfl | rfl <;> rfl
theorem d4z {w:List Nat}{c:Nat} (h:dm w=.sign c):w=[c]:=by
 cases w with
 | nil=>cases h
 | cons a r=>
  unfold dm at h
  dsimp only at h
  split at h
  ·split at h <;> cases h
  ·split at h
   ·split at h <;> cases h
   ·split at h
    ·rename_i q
     cases h
     rw [q.1]
    ·cases h
theorem jo {w b:List Nat} (h:dm w=.name b):w=b:=by
 cases w with
 | nil=>cases h
 | cons a r=>
  unfold dm at h
  dsimp only at h
  split at h
  ·split at h
   ·cases h
   ·cases h;rfl
  ·split at h
   ·split at h <;> cases h
   ·split at h <;> cases h
theorem d8s {w:List Nat} (h:dm w=.ended):w=[]:=by
 cases w with
 | nil=>rfl
 | cons a r=>
  unfold dm at h
  dsimp only at h
  split at h
  ·split at h <;> cases h
  ·split at h
   ·split at h <;> cases h
   ·split at h <;> cases h
theorem jX {c:Nat} (hc:c∈sgn) (h:T[i]?=some t) (e:t.1=[c]):tk T i=(.sign c,t.2)::tk T (i+1):=by
 rw [jz h,e,dDf hc]
theorem wa {c:Nat} (hc:c∈sgn) (h:T[i]?=some t):is_ c (tk T i)=decide (t.1=[c]):=by
 by_cases e:t.1=[c]
 ·rw [jX hc h e,decide_eq_true e]
  simp [is_]
 ·rw [decide_eq_false e,jz h]
  cases q:dm t.1 with
  | sign d=>
   show (c==d)=false
   have:=d4z q
   simpa using fun z:c=d=>e (by rw [this,z])
  | name b=>rfl
  | num b=>rfl
  | bad=>rfl
  | ended=>rfl
theorem uZ {s:String} (hs:dm (ascii s)=.name (ascii s)) (h:T[i]?=some t):isKey s (tk T i)=decide (t.1=ascii s):=by
 by_cases e:t.1=ascii s
 ·rw [decide_eq_true e,jz h,e,hs]
  simp [isKey]
 ·rw [decide_eq_false e,jz h]
  cases q:dm t.1 with
  | name b=>
   show decide (b=ascii s)=false
   rw [←jo q]
   exact decide_eq_false e
  | sign b=>rfl
  | num b=>rfl
  | bad=>rfl
  | ended=>rfl
theorem vM {s:String} (hs:dm (ascii s)=.name (ascii s)) (h:T[i]?=some t) (e:t.1=ascii s):tk T i=(.name (ascii s),t.2)::tk T (i+1):=by
 rw [jz h,e,hs]
theorem d5J {w:List Nat} (h:dl w="name"):dm w=.name w∧keys.contains w=false:=by
 cases w with
 | nil=>exact absurd h (by decide +kernel)
 | cons c r=>
  unfold dl at h
  dsimp only at h
  by_cases q:isSmall c=true∧(c::r).length≤15∧¬ keys.contains (c::r)=true
  ·refine ⟨?_,by simpa using q.2.2⟩
   unfold dm
   dsimp only
   rw [if_pos q.1,if_neg (by omega)]
  ·rw [if_neg q] at h
   split at h <;> exact absurd h (by decide +kernel)
theorem uv {w b:List Nat} (h:¬ dl w="name") (a:dm w=.name b):keys.contains b=true:=by
 have e:=jo a
 subst e
 cases w with
 | nil=>cases a
 | cons c r=>
  unfold dm at a
  dsimp only at a
  by_cases hs:isSmall c=true
  ·rw [if_pos hs] at a
   by_cases hl:15 < (c::r).length
   ·rw [if_pos hl] at a;cases a
   ·cases k:keys.contains (c::r) with
    | true=>rfl
    | false=>
     refine absurd ?_ h
     unfold dl
     dsimp only
     rw [if_pos ⟨hs,by omega,by rw [k];decide⟩]
  ·rw [if_neg hs] at a
   split at a
   ·split at a <;> cases a
   ·split at a <;> cases a
theorem vz {c:Nat} (h:isDigit c=true):isSmall c=false:=by
 cases q:isSmall c with
 | false=>rfl
 | true=>simp [isSmall,isDigit] at h q;omega
theorem jq {w:List Nat} (h:dl w="number"):dm w=.num (valueOf w)∧w.length≤5:=by
 cases w with
 | nil=>exact absurd h (by decide +kernel)
 | cons c r=>
  unfold dl at h
  dsimp only at h
  by_cases q:isSmall c=true∧(c::r).length≤15∧¬ keys.contains (c::r)=true
  ·rw [if_pos q] at h
   exact absurd h (by decide +kernel)
  ·rw [if_neg q] at h
   by_cases d:isDigit c=true∧(c::r).length≤5
   ·refine ⟨?_,d.2⟩
    unfold dm
    dsimp only
    rw [if_neg (by rw [vz d.1];decide),if_pos d.1,if_neg (by omega)]
   ·rw [if_neg d] at h
    exact absurd h (by decide +kernel)
theorem vO {w:List Nat}{n:Nat} (h:¬ dl w="number"):dm w≠.num n:=fun a=>by
 cases w with
 | nil=>cases a
 | cons c r=>
  unfold dm at a
  dsimp only at a
  by_cases hs:isSmall c=true
  ·rw [if_pos hs] at a
   split at a <;> cases a
  ·rw [if_neg hs] at a
   by_cases hd:isDigit c=true
   ·rw [if_pos hd] at a
    by_cases hl:5 < (c::r).length
    ·rw [if_pos hl] at a;cases a
    ·refine h ?_
     unfold dl
     dsimp only
     rw [if_neg fun z=>hs z.1,if_pos ⟨hd,by omega⟩]
   ·rw [if_neg hd] at a
    split at a <;> cases a
theorem kind_end {w:List Nat}:dl w="end"↔w=[]:=by
 constructor
 ·intro h
  cases w with
  | nil=>rfl
  | cons c r=>
   unfold dl at h
   dsimp only at h
   split at h
   ·exact absurd h (by decide +kernel)
   ·split at h <;> exact absurd h (by decide +kernel)
 ·rintro rfl;rfl
theorem yf (h:T[i]?=some t):atEnd (tk T i)=decide (t.1=[]):=by
 by_cases e:t.1=[]
 ·rw [decide_eq_true e,jz h,e]
  rfl
 ·rw [decide_eq_false e,jz h]
  cases q:dm t.1 with
  | ended=>exact absurd (d8s q) e
  | name b=>rfl
  | sign b=>rfl
  | num b=>rfl
  | bad=>rfl
theorem vW {c:Nat} (hc:c∈sgn) (h:T[i]?=some t) (e:t.1=[c]):take_ c (tk T i)=.ok (tk T (i+1)):=by
 unfold take_
 rw [wa hc h,decide_eq_true e,if_pos rfl,jX hc h e]
 rfl
theorem v8 {c:Nat} (hc:c∈sgn) (h:T[i]?=some t) (e:¬ t.1=[c]):take_ c (tk T i)=.error t.2:=by
 unfold take_
 rw [wa hc h,decide_eq_false e,if_neg (by decide),jr h]
theorem dBe {e:Known} (h:T[i]?=some t) (h1:dl t.1="name") (h2:knows e t.1=false):newName e (tk T i)=.ok (t.1,tk T (i+1)):=by
 obtain ⟨a,b⟩:=d5J h1
 rw [jz h,a]
 show (if keys.contains t.1=true∨knows e t.1=true then _ else _)=_
 rw [if_neg (by rw [b,h2];decide)]
theorem dDv {e:Known} (h:T[i]?=some t) (h1:¬ (dl t.1="name"∧knows e t.1=false)):newName e (tk T i)=.error t.2:=by
 rw [jz h]
 cases q:dm t.1 with
 | name b=>
  show (if keys.contains b=true∨knows e b=true then _ else _)=_
  rw [if_pos]
  by_cases hk:dl t.1="name"
  ·right
   rw [←jo q]
   cases z:knows e t.1 with
   | true=>rfl
   | false=>exact absurd ⟨hk,z⟩ h1
  ·exact .inl (uv hk q)
 | sign b=>rfl
 | num b=>rfl
 | bad=>rfl
 | ended=>rfl
variable {e:Known}{F:Fra}{r:List Fra}
theorem dEv (h:T[i]?=some t) (h1:t.1=[40]):bAll e F r (tk T i)=bAll e (Fra.empty 0) (F::r) (tk T (i+1)):=by
 rw [jX (by decide) h h1,dFk]
theorem d9G:dm (ascii "of")=.name (ascii "of"):=rfl
theorem dCT {u v:PT} (h:T[i]?=some t) (hu:T[i+1]?=some u) (hv:T[i+2]?=some v) (h1:dl t.1="number") (h2:valueOf t.1≠0) (h3:u.1=ascii "of") (h4:v.1=[40]) :
  bAll e F r (tk T i)=bAll e (Fra.empty (valueOf t.1)) (F::r) (tk T (i+3)):=by
 have e1:tk T i=(.num (valueOf t.1),t.2)::tk T (i+1):=by rw [jz h,(jq h1).1]
 rw [e1,vM d9G hu h3,jX (by decide) hv h4,dEz _ _ _ _ h2 rfl]
theorem dEb (h:T[i]?=some t) (h1:dl t.1="number") (h2:valueOf t.1=0):bAll e F r (tk T i)=.error t.2:=by
 have e1:tk T i=(.num (valueOf t.1),t.2)::tk T (i+1):=by rw [jz h,(jq h1).1]
 unfold bAll
 rw [e1,d91,if_pos h2]
 rfl
theorem dEe {u:PT} (h:T[i]?=some t) (hu:T[i+1]?=some u) (h1:dl t.1="number") (h2:valueOf t.1≠0) (h3:¬ u.1=ascii "of"):bAll e F r (tk T i)=.error u.2:=by
 have e1:tk T i=(.num (valueOf t.1),t.2)::tk T (i+1):=by rw [jz h,(jq h1).1]
 unfold bAll
 rw [e1,d91,if_neg h2,if_pos (by rw [uZ d9G hu];exact decide_eq_false h3),jr hu]
 rfl
theorem dDM {u v:PT} (h:T[i]?=some t) (hu:T[i+1]?=some u) (hv:T[i+2]?=some v) (h1:dl t.1="number") (h2:valueOf t.1≠0) (h3:u.1=ascii "of") (h4:¬ v.1=[40]):bAll e F r (tk T i)=.error v.2:=by
 have e1:tk T i=(.num (valueOf t.1),t.2)::tk T (i+1):=by rw [jz h,(jq h1).1]
 unfold bAll
 rw [e1,d91,if_neg h2,if_neg (by rw [uZ d9G hu,decide_eq_true h3];decide),vM d9G hu h3]
 show ((take_ 40 (tk T (i+1+1))).bind _).bind _=_
 rw [v8 (by decide) hv h4]
 rfl
theorem dEx {x:Form} (h:T[i]?=some t) (h1:dl t.1="name") (h2:meaning e t.1=some x):bAll e F r (tk T i)=cAll e { F with ps:=F.ps++[x] } r (tk T (i+1)):=by
 obtain ⟨a,b⟩:=d5J h1
 rw [jz h,a]
 exact dFP _ b h2
theorem dGK (h:T[i]?=some t) (h1:¬ t.1=[40]) (h2:¬ dl t.1="number") (h3:¬ (dl t.1="name"∧(meaning e t.1).isSome=true)):bAll e F r (tk T i)=.error t.2:=by
 have key:RL e 0 (tk T i)=.error (placeOf (tk T i)):=by
  have els:d9K (tk T i)=true→RL e 0 (tk T i)=.error (placeOf (tk T i)):=fun hp=>by
   rw [dCO e _ hp]
   unfold d4Q
   rw [v8 (by decide) h h1,jr h]
   rfl
  cases q:dm t.1 with
  | name b=>
   have hb:=jo q
   have e1:tk T i=(.name b,t.2)::tk T (i+1):=by rw [jz h,q]
   rw [e1,dBN]
   have z:(if keys.contains b=true then none else meaning e b)=none:=by
    by_cases hk:dl t.1="name"
    ·cases m:meaning e b with
     | none=>simp
     | some y=>exact absurd ⟨hk,by rw [hb,m];rfl⟩ h3
    ·rw [if_pos (uv hk q)]
   rw [z]
   rfl
  | num n=>exact absurd q (vO h2)
  | sign c=>exact els (by rw [jz h,q];rfl)
  | bad=>exact els (by rw [jz h,q];rfl)
  | ended=>exact els (by rw [jz h,q];rfl)
 rw [dGf key,jr h]
end
end Pg
end
section
set_option linter.all false
set_option maxRecDepth 100000
set_option maxHeartbeats 4000000
namespace Pg
open PySem L2 Xc Sp Rb35
def nmK (l:List (Bytes×Nat)):List (Key×V):=l.map fun x=>(Sum.inr (mkS x.1),V.int (x.2:Int))
theorem wY (l:List (Bytes×Nat)) (b:Bytes):valV (nmK l) (Sum.inr (mkS b))=(look l b).map fun (i:Nat)=>V.int (i:Int):=by
 induction l with
 | nil=>rfl
 | cons a r ih=>
  unfold valV look nmK at ih ⊢
  rw [List.map_cons,List.find?_cons,List.find?_cons]
  by_cases h:a.1=b
  ·rw [decide_eq_true (by show (Sum.inr (mkS a.1):Key)=Sum.inr (mkS b);rw [h])]
   simp [h]
  ·rw [decide_eq_false (by intro z;exact h (d8d (Sum.inr.inj z)))]
   have:(a.1==b)=false:=by simpa using h
   rw [this]
   exact ih
theorem dCH {l:List (Bytes×Nat)}{b:Bytes} (h:look l b=none) (i:Nat):putK (nmK l) (Sum.inr (mkS b)) (V.int (i:Int))=nmK (l++[(b,i)]):=by
 have hv:valV (nmK l) (Sum.inr (mkS b))=none:=by rw [wY,h];rfl
 rw [dDT _ hv]
 unfold nmK
 rw [List.map_append]
 rfl
def uV (cs:Cs):Sp:=fun vs H Q _=>∃ (b:Addr) (x:Bytes) (A:BkA) (p:Nat) (B:Bk),vs=[.ref b,.str (mkS x)]∧BookAt cs H b A p B∧look B.names x=none∧B.ls=[]∧B.people.length < 50000 ∧
 ∀ H',BookAt cs H' b A p { B with people:=B.people++[x] }→Kp [A.pa,A.ma] H H'→Q .non H'
def d92 (cs:Cs):Sp:=fun vs H Q _=>∃ (b:Addr) (x:Bytes) (i:Nat) (A:BkA) (p:Nat) (B:Bk),vs=[.ref b,.str (mkS x),.int i]∧BookAt cs H b A p B∧look B.names x=none∧B.names.length < 50000 ∧
 ∀ H',BookAt cs H' b A p { B with ls:=B.ls++[(x,i)] }→Kp [A.la,A.ma] H H'→Q .non H'
section
variable {P:Program}{w:World}{K:PySem.W.Frag}{mg:Str→Option Value}{base:Heap}{cs:Cs}
theorem yX:FnScope ["self","name"] ["self","name"] (dB gw):=⟨rfl,rfl,rfl,by decide +kernel,rfl,by decide +kernel,by decide +kernel⟩
theorem yw (T:MetT K cs.boo "add_person" "Book.add_person" gw) (clB:Cls K cs.boo) (naB:NoAt K cs.boo ["prime","people","nodes","lets","names"]) (hlen:mg "len"=none) :
  MetOk P w K mg base 1 cs.boo "add_person" ["self","name"] (uV cs):=by
 obtain ⟨f,fd,F,M⟩:=T.ex
 refine ⟨f,fd,M,F.binds (fun _ _ _ _ _ _ us hl=>match us,hl with | [_,_],_=>rfl),okN F yX (fun vs H Q E h=>?_) (fun cdv A outer s H vs Q E hr h=>?_)⟩
 ·obtain ⟨b,x,A,p,B,rfl,_⟩:=h
  rfl
 ·obtain ⟨b,x,Ad,p,B,rfl,R,hx,hls,hsm,kq⟩:=h
  obtain ⟨dx,ob⟩:=R.ob
  refine ⟨_,dA (d8v (d8j hr) (dM (pv 0) rfl) (pv 1) (dP dJ (by rfl) hlen PySem.boot_len (d0 (dM (pv 0) rfl) dD)) rfl)
   (dE (dN (kZ PySem.F.plainAttrs_list PySem.F.slot_list_append PySem.F.type_list_append g7 (dM (pv 0) rfl) (d0 (pv 1) dD)))),?_⟩
  have hlen':(nmK B.names).length < sizeLine:=by
   show (List.map _ _).length < _
   rw [List.length_map]
   unfold Bk.names
   rw [hls,List.append_nil,List.length_zipIdx]
   exact Nat.lt_trans (by omega) dc
  refine ⟨_,rfl,b,cs.boo,dx,_,_,rfl,ob,clB,naB _ (by simp),gm _ _ _ _ _,_,_,rfl,.inl (SqL.of R.people),?_⟩
  refine ⟨_,rfl,b,cs.boo,dx,_,_,rfl,ob,clB,naB _ (by simp),kD _ _ _ _ _,_,rfl,Ad.ma,_,rfl,DPut.k (k:=Sum.inr (mkS x)) R.names hlen',?_⟩
  have obm:b≠Ad.ma:=uq ob R.names (by intro z;cases z)
  have pam:Ad.pa≠Ad.ma:=fun z=>dCP R.names R.people z.symm
  refine ⟨_,rfl,b,cs.boo,dx,_,_,rfl,by rw [d8 obm];exact ob,clB,naB _ (by simp),gm _ _ _ _ _,.inl ⟨rfl,_,SqL.of (by rw [d8 pam];exact R.people)⟩,_,rfl,Ad.pa,_,_,rfl,rfl,by rw [d8 pam];exact R.people,?_,?_⟩
  ·rw [List.length_map]
   exact Nat.lt_trans (by omega) dc
  have kk:Kp [Ad.pa,Ad.ma] H (upd (upd H Ad.ma (.dK (putK (nmK B.names) (Sum.inr (mkS x)) (V.int ((B.people.map fun x=>V.str (mkS x)).length:Int))))) Ad.pa (.lst ((B.people.map fun x=>V.str (mkS x))++[V.str (mkS x)]))):=
   (Kp.refl.upd (.inl (by simp))).upd (.inl (by simp))
  have nd:=R.nd
  have nin:∀ y∈Ad.na::Ad.la::Ad.nds.map (·.2),y∉[Ad.pa,Ad.ma]:=fun y hy z=>by
   simp only [List.mem_cons,List.not_mem_nil,or_false] at z
   rcases z with rfl | rfl
   ·unfold BkA.lists at nd
    exact (List.nodup_cons.mp nd).1 hy
   ·obtain ⟨xs,e⟩:=R.isLst (x:=Ad.ma) (by unfold BkA.lists;exact List.mem_cons_of_mem _ hy)
    rw [R.names] at e;cases e
  refine kq _ ⟨⟨dx,kk _ _ ob ?_⟩,?_,kk _ _ R.nodes (nin _ (by simp)),kk _ _ R.lets (nin _ (by simp)),?_,R.len,fun j y n e1 e2=>?_,R.nd⟩ kk
  ·simp only [List.mem_cons,List.not_mem_nil,or_false,not_or]
   exact ⟨jE ob R.people,obm⟩
  ·show upd _ _ _ Ad.pa=_
   rw [d9,List.map_append]
   rfl
  ·show upd _ _ _ Ad.ma=_
   rw [d8 pam.symm,d9,List.length_map]
   show some (HO.dK (putK (nmK B.names) (Sum.inr (mkS x)) (V.int (B.people.length:Int))))=some (HO.dK (nmK (Bk.names _)))
   rw [dCH hx]
   show some (HO.dK (nmK (B.people.zipIdx++B.ls++[(x,B.people.length)])))=some (HO.dK (nmK ((B.people++[x]).zipIdx++B.ls)))
   rw [hls,List.zipIdx_append,List.append_nil,List.append_nil]
   simp
  ·obtain ⟨⟨dy,n1⟩,n2⟩:=R.at_ j y n e1 e2
   refine ⟨⟨dy,kk _ _ n1 ?_⟩,kk _ _ n2 (nin _ ?_)⟩
   ·simp only [List.mem_cons,List.not_mem_nil,or_false,not_or]
    exact ⟨jE n1 R.people,uq n1 R.names (by intro z;cases z)⟩
   ·have:y.2∈Ad.nds.map (·.2):=List.mem_map.mpr ⟨y,List.mem_of_getElem? e1,rfl⟩
    simp [this]
theorem dAL:FnScope ["self","name","formula"] ["self","name","formula"] (dB jZ):=⟨rfl,rfl,rfl,by decide +kernel,rfl,by decide +kernel,by decide +kernel⟩
theorem dAJ (T:MetT K cs.boo "add_let" "Book.add_let" jZ) (clB:Cls K cs.boo) (naB:NoAt K cs.boo ["prime","people","nodes","lets","names"]) :
  MetOk P w K mg base 1 cs.boo "add_let" ["self","name","formula"] (d92 cs):=by
 obtain ⟨f,fd,F,M⟩:=T.ex
 refine ⟨f,fd,M,F.binds (fun _ _ _ _ _ _ us hl=>match us,hl with | [_,_,_],_=>rfl),okN F dAL (fun vs H Q E h=>?_) (fun cdv A outer s H vs Q E hr h=>?_)⟩
 ·obtain ⟨b,x,i,A,p,B,rfl,_⟩:=h
  rfl
 ·obtain ⟨b,x,i,Ad,p,B,rfl,R,hx,hsm,kq⟩:=h
  obtain ⟨dx,ob⟩:=R.ob
  refine ⟨_,dA (d8v (d8j hr) (dM (pv 0) rfl) (pv 1) (pv 2) rfl)
   (dE (dN (kZ PySem.F.plainAttrs_list PySem.F.slot_list_append PySem.F.type_list_append g7 (dM (pv 0) rfl) (d0 (pv 2) dD)))),?_⟩
  have hll:B.ls.length≤B.names.length:=by unfold Bk.names;rw [List.length_append];omega
  have hlen':(nmK B.names).length < sizeLine:=by
   show (List.map _ _).length < _
   rw [List.length_map]
   exact Nat.lt_trans (by omega) dc
  refine ⟨_,rfl,_,rfl,b,cs.boo,dx,_,_,rfl,ob,clB,naB _ (by simp),kD _ _ _ _ _,_,rfl,Ad.ma,_,rfl,DPut.k (k:=Sum.inr (mkS x)) R.names hlen',?_⟩
  have obm:b≠Ad.ma:=uq ob R.names (by intro z;cases z)
  have lam:Ad.la≠Ad.ma:=fun z=>dCP R.names R.lets z.symm
  refine ⟨_,rfl,b,cs.boo,dx,_,_,rfl,by rw [d8 obm];exact ob,clB,naB _ (by simp),ul _ _ _ _ _,.inl ⟨rfl,_,SqL.of (by rw [d8 lam];exact R.lets)⟩,_,rfl,Ad.la,_,_,rfl,rfl,by rw [d8 lam];exact R.lets,?_,?_⟩
  ·rw [dH,List.length_map]
   exact Nat.lt_trans (by omega) dc
  have kk:Kp [Ad.la,Ad.ma] H (upd (upd H Ad.ma (.dK (putK (nmK B.names) (Sum.inr (mkS x)) (V.int (i:Int))))) Ad.la (.lst (nV (B.ls.map (·.2))++[V.int (i:Int)]))):=
   (Kp.refl.upd (.inl (by simp))).upd (.inl (by simp))
  have nd:=R.nd
  have nin:∀ y∈Ad.pa::Ad.na::Ad.nds.map (·.2),y∉[Ad.la,Ad.ma]:=fun y hy z=>by
   simp only [List.mem_cons,List.not_mem_nil,or_false] at z
   rcases z with rfl | rfl
   ·unfold BkA.lists at nd
    simp only [List.nodup_cons,List.mem_cons,not_or] at nd hy
    rcases hy with e | e | e
    ·exact nd.1.2.1 e.symm
    ·exact nd.2.1.1 e.symm
    ·exact nd.2.2.1 e
   ·obtain ⟨xs,e⟩:=R.isLst (x:=Ad.ma) (by
     unfold BkA.lists
     simp only [List.mem_cons] at hy ⊢
     rcases hy with e | e | e
     ·exact .inl e
     ·exact .inr (.inl e)
     ·exact .inr (.inr (.inr e)))
    rw [R.names] at e;cases e
  refine kq _ ⟨⟨dx,kk _ _ ob ?_⟩,kk _ _ R.people (nin _ (by simp)),kk _ _ R.nodes (nin _ (by simp)),?_,?_,R.len,fun j y n e1 e2=>?_,R.nd⟩ kk
  ·simp only [List.mem_cons,List.not_mem_nil,or_false,not_or]
   exact ⟨jE ob R.lets,obm⟩
  ·show upd _ _ _ Ad.la=_
   rw [d9,List.map_append]
   show some (HO.lst (nV (B.ls.map (·.2))++[V.int (i:Int)]))=some (HO.lst (nV (B.ls.map (·.2)++[i])))
   rw [jV]
  ·show upd _ _ _ Ad.ma=_
   rw [d8 lam.symm,d9]
   show some (HO.dK (putK (nmK B.names) (Sum.inr (mkS x)) (V.int (i:Int))))=some (HO.dK (nmK (B.people.zipIdx++(B.ls++[(x,i)]))))
   rw [dCH hx]
   unfold Bk.names
   rw [List.append_assoc]
  ·obtain ⟨⟨dy,n1⟩,n2⟩:=R.at_ j y n e1 e2
   refine ⟨⟨dy,kk _ _ n1 ?_⟩,kk _ _ n2 (nin _ ?_)⟩
   ·simp only [List.mem_cons,List.not_mem_nil,or_false,not_or]
    exact ⟨jE n1 R.lets,uq n1 R.names (by intro z;cases z)⟩
   ·have:y.2∈Ad.nds.map (·.2):=List.mem_map.mpr ⟨y,List.mem_of_getElem? e1,rfl⟩
    simp [this]
end
end Pg
end
section
set_option linter.all false
set_option maxRecDepth 100000
set_option maxHeartbeats 4000000
namespace Pg
open PySem L2 Xc Sp Rb35
theorem Kp.into {G F:List Addr}{H0 H H':Hp} (k0:Kp G H0 H) (k:Kp F H H') (h:∀ x∈F,x∈G∨H0 x=none):Kp G H0 H':=fun c o q n=>
 k c o (k0 c o q n) fun z=>(h c z).elim n fun e=>by rw [q] at e;cases e
theorem BrkAt.keep {cs:Cs}{H H':Hp}{a:BrA}{F:FraN}{Fs:List Addr} (R:BrkAt cs H a F) (k:Kp Fs H H') (h1:a.ob∉Fs) (h2:∀ x∈a.lists,x∉Fs):BrkAt cs H' a F:=by
 obtain ⟨dx,ob⟩:=R.ob
 exact ⟨⟨dx,k _ _ ob h1⟩,k _ _ R.fs (h2 _ (by simp [BrA.lists])),k _ _ R.bs (h2 _ (by simp [BrA.lists])),k _ _ R.ps (h2 _ (by simp [BrA.lists]))⟩
def obs (bas:List BrA):List Addr:=bas.map BrA.ob
def lsts (bas:List BrA):List Addr:=bas.flatMap BrA.lists
theorem dU (a:BrA) (r:List BrA):lsts (a::r)=a.lists++lsts r:=List.flatMap_cons
theorem kT {cs:Cs}{H H':Hp}{Fs:List Addr} (k:Kp Fs H H'):∀ {bas:List BrA}{st:List FraN},Paired (BrkAt cs H) bas st→(∀ x∈Fs,x∉obs bas∧x∉lsts bas)→Paired (BrkAt cs H') bas st
 | _,_,.nil,_=>.nil
 | a::bas,F::st,.cons r t,h=>.cons (r.keep k (fun z=>(h _ z).1 (by simp [obs])) fun x hx z=>(h _ z).2 (by rw [dU];exact List.mem_append_left _ hx))
   (kT k t fun x hx=>⟨fun z=>(h x hx).1 (by simp only [obs,List.map_cons,List.mem_cons];exact .inr z),fun z=>(h x hx).2 (by rw [dU];exact List.mem_append_right _ z)⟩)
theorem d3o {cs:Cs}{H:Hp}:∀ {bas:List BrA}{st:List FraN},Paired (BrkAt cs H) bas st→∀ x∈obs bas,∃ dx fs,H x=some (.ins cs.bra dx fs)
 | _,_,.nil,x,hx=>by simp [obs] at hx
 | a::bas,F::st,.cons r t,x,hx=>by
  simp only [obs,List.map_cons,List.mem_cons] at hx
  rcases hx with rfl | hx
  ·obtain ⟨dx,ob⟩:=r.ob
   exact ⟨dx,_,ob⟩
  ·exact d3o t x hx
theorem wG {cs:Cs}{H:Hp}:∀ {bas:List BrA}{st:List FraN},Paired (BrkAt cs H) bas st→∀ x∈lsts bas,∃ xs,H x=some (.lst xs)
 | _,_,.nil,x,hx=>by simp [lsts] at hx
 | a::bas,F::st,.cons r t,x,hx=>by
  rw [dU] at hx
  rcases List.mem_append.mp hx with hx | hx
  ·simp only [BrA.lists,List.mem_cons,List.not_mem_nil,or_false] at hx
   rcases hx with rfl | rfl | rfl
   ·exact ⟨_,r.fs⟩
   ·exact ⟨_,r.bs⟩
   ·exact ⟨_,r.ps⟩
  ·exact wG t x hx
structure Brs (cs:Cs) (H:Hp) (bl:Addr) (lo:List Addr) (bas:List BrA) (st:List FraN) (A:BkA):Prop where
 lst:H bl=some (.lst (lo.map V.ref))
 at_:Paired (BrkAt cs H) bas st
 nd:(bl::lsts bas).Nodup
 ap:∀ x∈bl::lsts bas,x∉A.lists
 ob:(obs bas).Nodup
structure FSt (cs:Cs) (H0 H:Hp) (r lt:Addr) (as:List Addr) (T:List PT) (i:Nat) (b:Addr) (A:BkA) (p:Nat) (B:Bk) (ns:List dI) (bl:Addr) (lo:List Addr) (bas:List BrA) (st:List FraN):Prop where
 tk0:ToksAt cs H0 lt as T
 r0:∃ dx j,H0 r=some (.ins cs.rea dx (rdF lt j))
 na0:∃ xs,H0 A.na=some (.lst xs)
 ltna:lt≠A.na
 ob:∃ dx,H r=some (.ins cs.rea dx (rdF lt (i:Int)))
 bk:BookAt cs H b A p { B with ns:=ns }
 br:Brs cs H bl lo bas st A
 kp:Kp [r,A.na] H0 H
 fr:∀ x,x=bl∨x∈obs bas∨x∈lsts bas→H0 x=none
section
variable {cs:Cs}{H0 H H' H1:Hp}{r lt b bl x:Addr}{as lo lo':List Addr}{T:List PT}{i:Nat}{A A':BkA}{p:Nat}{B:Bk}{ns ns':List dI}{bas:List BrA}{st:List FraN}{a a':BrA}{F F':FraN}
theorem FSt.rd (S:FSt cs H0 H r lt as T i b A p B ns bl lo bas st):ReadAt cs H r lt as T i:=by
 obtain ⟨dx,j,hr⟩:=S.r0
 obtain ⟨xs,hn⟩:=S.na0
 refine ⟨S.ob,S.kp _ _ S.tk0.lst ?_,S.tk0.len,fun k c t h1 h2=>?_⟩
 ·simp only [List.mem_cons,List.not_mem_nil,or_false,not_or]
  exact ⟨(jE hr S.tk0.lst).symm,S.ltna⟩
 ·obtain ⟨dy,hc⟩:=S.tk0.at_ k c t h1 h2
  refine ⟨dy,S.kp _ _ hc ?_⟩
  simp only [List.mem_cons,List.not_mem_nil,or_false,not_or]
  refine ⟨uq hc hr ?_,jE hc hn⟩
  intro z
  injection z with _ _ z
  exact absurd (congrArg List.length z) (by show ¬ 3=2;decide)
theorem FSt.free0 (S:FSt cs H0 H r lt as T i b A p B ns bl lo bas st) (h:H x=none):H0 x=none:=by
 obtain ⟨dx,ob⟩:=S.ob
 refine S.kp.free (fun y hy=>?_) h
 simp only [List.mem_cons,List.not_mem_nil,or_false] at hy
 rcases hy with rfl | rfl
 ·rw [ob];simp
 ·rw [S.bk.nodes];simp
theorem FSt.rne (S:FSt cs H0 H r lt as T i b A p B ns bl lo bas st) (h:H0 x=none):x≠r:=fun z=>by
 obtain ⟨dx,j,hr⟩:=S.r0
 rw [z,hr] at h;cases h
theorem FSt.moved (co:CsOk cs) (S:FSt cs H0 H r lt as T i b A p B ns bl lo bas st) (R:ReadAt cs H' r lt as T (i+1)) (k:Kp [r] H H'):FSt cs H0 H' r lt as T (i+1) b A p B ns bl lo bas st:=by
 obtain ⟨dx,ob⟩:=S.ob
 have nr:∀ x,x=bl∨x∈obs bas∨x∈lsts bas→x≠r:=fun x hx=>S.rne (S.fr x hx)
 refine ⟨S.tk0,S.r0,S.na0,S.ltna,R.ob,S.bk.keep k fun x hx=>?_,⟨k _ _ S.br.lst (by simpa using nr bl (.inl rfl)),kT k S.br.at_ fun x hx=>?_,S.br.nd,S.br.ap,S.br.ob⟩,S.kp.into k fun x hx=>?_,S.fr⟩
 ·simp only [List.mem_cons,List.not_mem_nil,or_false] at hx
  subst hx
  exact .inr ⟨_,_,_,ob,co.rb,co.rn⟩
 ·simp only [List.mem_cons,List.not_mem_nil,or_false] at hx
  subst hx
  exact ⟨fun z=>nr _ (.inr (.inl z)) rfl,fun z=>nr _ (.inr (.inr z)) rfl⟩
 ·simp only [List.mem_cons,List.not_mem_nil,or_false] at hx
  exact .inl (by simp [hx])
theorem FSt.relist (S:FSt cs H0 H r lt as T i b A p B ns bl lo bas st) (lo':List Addr):FSt cs H0 (upd H bl (.lst (lo'.map V.ref))) r lt as T i b A p B ns bl lo' bas st:=by
 obtain ⟨dx,ob⟩:=S.ob
 have k:Kp [bl] H (upd H bl (.lst (lo'.map V.ref))):=Kp.refl.upd (.inl (by simp))
 have nd:=S.br.nd
 refine ⟨S.tk0,S.r0,S.na0,S.ltna,⟨dx,k _ _ ob (by simpa using jE ob S.br.lst)⟩,S.bk.keep k fun x hx=>?_,⟨d9,kT k S.br.at_ fun x hx=>?_,S.br.nd,S.br.ap,S.br.ob⟩,S.kp.into k fun x hx=>?_,S.fr⟩
 ·simp only [List.mem_cons,List.not_mem_nil,or_false] at hx
  subst hx
  exact .inl ⟨_,S.br.lst,S.br.ap _ (by simp)⟩
 ·simp only [List.mem_cons,List.not_mem_nil,or_false] at hx
  subst hx
  refine ⟨fun z=>?_,(List.nodup_cons.mp nd).1⟩
  obtain ⟨dy,fs,e⟩:=d3o S.br.at_ _ z
  rw [S.br.lst] at e;cases e
 ·simp only [List.mem_cons,List.not_mem_nil,or_false] at hx
  subst hx
  exact .inr (S.fr _ (.inl rfl))
theorem FSt.same (S:FSt cs H0 H r lt as T i b A p B ns bl lo bas st) (s:Same H H1):FSt cs H0 H1 r lt as T i b A p B ns bl lo bas st:=by
 obtain ⟨dx,ob⟩:=S.ob
 exact ⟨S.tk0,S.r0,S.na0,S.ltna,⟨dx,s _ _ ob⟩,S.bk.keep (Kp.same s []) (fun x hx=>by simp at hx),⟨s _ _ S.br.lst,kT (Kp.same s []) S.br.at_ (fun x hx=>by simp at hx),S.br.nd,S.br.ap,S.br.ob⟩,
  S.kp.trans (Kp.same s _),S.fr⟩
theorem FSt.add (S:FSt cs H0 H r lt as T i b A p B ns bl lo bas st) (s:Same H H1) (br:BrkAt cs H1 a F) (h1:H a.ob=none) (h2:∀ x∈a.lists,H x=none) (nd:a.lists.Nodup):FSt cs H0 H1 r lt as T i b A p B ns bl lo (a::bas) (F::st):=by
 have S1:=S.same s
 have out:∀ x∈a.lists,x∉bl::lsts bas:=fun x hx z=>by
  rcases List.mem_cons.mp z with rfl | z
  ·have:=h2 _ hx
   rw [S.br.lst] at this;cases this
  ·obtain ⟨xs,e⟩:=wG S.br.at_ _ z
   have:=h2 _ hx
   rw [e] at this;cases this
 refine ⟨S1.tk0,S1.r0,S1.na0,S1.ltna,S1.ob,S1.bk,⟨S1.br.lst,.cons br S1.br.at_,?_,fun x hx=>?_,?_⟩,S1.kp,fun x hx=>?_⟩
 ·rw [dU]
  have h:=S.br.nd
  rw [List.nodup_cons] at h ⊢
  refine ⟨fun z=>?_,?_⟩
  ·rcases List.mem_append.mp z with z | z
   ·exact out _ z List.mem_cons_self
   ·exact h.1 z
  ·rw [List.nodup_append]
   exact ⟨nd,h.2,fun x hx y hy e=>out x hx (by rw [e];exact List.mem_cons_of_mem _ hy)⟩
 ·rw [dU] at hx
  rcases List.mem_cons.mp hx with rfl | hx
  ·exact S.br.ap _ List.mem_cons_self
  ·rcases List.mem_append.mp hx with hx | hx
   ·intro z
    obtain ⟨xs,e⟩:=S.bk.isLst z
    rw [h2 _ hx] at e;cases e
   ·exact S.br.ap _ (List.mem_cons_of_mem _ hx)
 ·show (a.ob::obs bas).Nodup
  rw [List.nodup_cons]
  refine ⟨fun z=>?_,S.br.ob⟩
  obtain ⟨dy,fs,e⟩:=d3o S.br.at_ _ z
  rw [h1] at e;cases e
 ·rcases hx with rfl | hx | hx
  ·exact S.fr _ (.inl rfl)
  ·simp only [obs,List.map_cons,List.mem_cons] at hx
   rcases hx with rfl | hx
   ·exact S.free0 h1
   ·exact S.fr _ (.inr (.inl hx))
  ·rw [dU] at hx
   rcases List.mem_append.mp hx with hx | hx
   ·exact S.free0 (h2 _ hx)
   ·exact S.fr _ (.inr (.inr hx))
theorem FSt.head (S:FSt cs H0 H r lt as T i b A p B ns bl lo (a::bas) (F::st)):BrkAt cs H a F∧Paired (BrkAt cs H) bas st:=by
 cases S.br.at_ with
 | cons x y=>exact ⟨x,y⟩
theorem FSt.facts (S:FSt cs H0 H r lt as T i b A p B ns bl lo (a::bas) (F::st)):a.lists.Nodup∧(∀ x∈a.lists,x∉A.lists∧x≠bl∧x∉lsts bas∧x∉obs bas∧x≠a.ob)∧bl∉lsts bas∧a.ob∉obs bas∧a.ob∉lsts bas∧a.ob≠bl:=by
 have nd:=S.br.nd
 rw [dU,List.nodup_cons,List.nodup_append] at nd
 obtain ⟨n1,n2,n3,n4⟩:=nd
 have nob:=S.br.ob
 rw [show obs (a::bas)=a.ob::obs bas from rfl,List.nodup_cons] at nob
 obtain ⟨hd,tl⟩:=S.head
 obtain ⟨dx,ob⟩:=hd.ob
 have lsx:∀ x∈a.lists,∃ xs,H x=some (.lst xs):=fun x hx=>wG S.br.at_ x (by rw [dU];exact List.mem_append_left _ hx)
 refine ⟨n2,fun x hx=>⟨S.br.ap x (List.mem_cons_of_mem _ (by rw [dU];exact List.mem_append_left _ hx)),fun z=>n1 (by rw [←z];exact List.mem_append_left _ hx),fun z=>n4 x hx x z rfl,fun z=>?_,fun z=>?_⟩,fun z=>n1 (List.mem_append_right _ z),nob.1,fun z=>?_,jE ob S.br.lst⟩
 ·obtain ⟨xs,e⟩:=lsx x hx
  obtain ⟨dy,fs,e2⟩:=d3o tl _ z
  rw [e] at e2;cases e2
 ·obtain ⟨xs,e⟩:=lsx x hx
  rw [z,ob] at e;cases e
 ·obtain ⟨xs,e⟩:=wG tl _ z
  rw [ob] at e;cases e
theorem FSt.naOut (S:FSt cs H0 H r lt as T i b A p B ns bl lo bas st):A.na≠bl∧A.na∉obs bas∧A.na∉lsts bas:=by
 have hin:A.na∈A.lists:=by simp [BkA.lists]
 refine ⟨fun z=>S.br.ap bl List.mem_cons_self (by rw [←z];exact hin),fun z=>?_,fun z=>S.br.ap _ (List.mem_cons_of_mem _ z) hin⟩
 obtain ⟨dy,fs,e⟩:=d3o S.br.at_ _ z
 rw [S.bk.nodes] at e;cases e
theorem FSt.swap {ws:List Addr} (S:FSt cs H0 H r lt as T i b A p B ns bl lo (a::bas) (F::st)) (ha:a'.ob=a.ob) (k:Kp [A.na,a.bl,a.fl,a.ob] H H') (br:BrkAt cs H' a' F') (bk:BookAt cs H' b A' p { B with ns:=ns' }) (g:Grow H A A' ws)
  (hw:∀ x∈ws,x∈a.lists) (hl:∀ x∈a'.lists,(x∈a.lists∧x∉ws)∨H x=none) (nd:a'.lists.Nodup):FSt cs H0 H' r lt as T i b A' p B ns' bl lo (a'::bas) (F'::st):=by
 obtain ⟨dx,ob⟩:=S.ob
 obtain ⟨hd,tl⟩:=S.head
 obtain ⟨f1,f2,f3,f4,f5,f6⟩:=S.facts
 obtain ⟨m1,m2,m3⟩:=S.naOut
 have na':=g.na.1
 have mfl:a.fl∈a.lists:=by simp [BrA.lists]
 have mbl:a.bl∈a.lists:=by simp [BrA.lists]
 have frz:∀ x∈[A.na,a.bl,a.fl,a.ob],x∈[r,A.na]∨H0 x=none:=fun x hx=>by
  simp only [List.mem_cons,List.not_mem_nil,or_false] at hx
  rcases hx with rfl | rfl | rfl | rfl
  ·exact .inl (by simp)
  ·exact .inr (S.fr _ (.inr (.inr (by rw [dU];exact List.mem_append_left _ mbl))))
  ·exact .inr (S.fr _ (.inr (.inr (by rw [dU];exact List.mem_append_left _ mfl))))
  ·exact .inr (S.fr _ (.inr (.inl (by simp [obs]))))
 have rout:r∉[A.na,a.bl,a.fl,a.ob]:=fun hx=>by
  have h:=frz r hx
  obtain ⟨dz,j,hr⟩:=S.r0
  simp only [List.mem_cons,List.not_mem_nil,or_false] at hx
  rcases hx with e | e | e | e
  ·exact jE ob S.bk.nodes e
  ·exact jE ob hd.bs e
  ·exact jE ob hd.fs e
  ·exact S.rne (S.fr a.ob (.inr (.inl (by simp [obs])))) e.symm
 have blout:bl∉[A.na,a.bl,a.fl,a.ob]:=by
  simp only [List.mem_cons,List.not_mem_nil,or_false,not_or]
  exact ⟨m1.symm,(f2 _ mbl).2.1.symm,(f2 _ mfl).2.1.symm,f6.symm⟩
 have xsome:∀ x,x∈bl::lsts (a::bas)→H x≠none:=fun x hx=>by
  rcases List.mem_cons.mp hx with rfl | hx
  ·rw [S.br.lst];simp
  ·obtain ⟨xs,e⟩:=wG S.br.at_ _ hx
   rw [e];simp
 have tlk:Paired (BrkAt cs H') bas st:=kT k tl fun x hx=>by
  simp only [List.mem_cons,List.not_mem_nil,or_false] at hx
  rcases hx with rfl | rfl | rfl | rfl
  ·exact ⟨fun z=>m2 (by simp only [obs,List.map_cons,List.mem_cons];exact .inr z),fun z=>m3 (by rw [dU];exact List.mem_append_right _ z)⟩
  ·exact ⟨(f2 _ mbl).2.2.2.1,(f2 _ mbl).2.2.1⟩
  ·exact ⟨(f2 _ mfl).2.2.2.1,(f2 _ mfl).2.2.1⟩
  ·exact ⟨f4,f5⟩
 have oldLst:∀ x∈A.lists,H x≠none:=fun x hx=>by obtain ⟨xs,e⟩:=S.bk.isLst hx;rw [e];simp
 refine ⟨S.tk0,S.r0,by rw [na'];exact S.na0,by rw [na'];exact S.ltna,⟨dx,k _ _ ob rout⟩,bk,⟨k _ _ S.br.lst blout,.cons br tlk,?_,fun x hx=>?_,?_⟩,by rw [na'];exact S.kp.into k frz,fun x hx=>?_⟩
 ·rw [dU,List.nodup_cons,List.nodup_append]
  have nd0:=S.br.nd
  rw [dU,List.nodup_cons,List.nodup_append] at nd0
  refine ⟨fun z=>?_,nd,nd0.2.2.1,fun x hx y hy e=>?_⟩
  ·rcases List.mem_append.mp z with z | z
   ·rcases hl _ z with ⟨q,_⟩ | q
    ·exact nd0.1 (List.mem_append_left _ q)
    ·exact xsome bl List.mem_cons_self q
   ·exact nd0.1 (List.mem_append_right _ z)
  ·subst e
   rcases hl _ hx with ⟨q,_⟩ | q
   ·exact nd0.2.2.2 x q x hy rfl
   ·exact xsome x (by rw [dU];exact List.mem_cons_of_mem _ (List.mem_append_right _ hy)) q
 ·rw [g.lists]
  intro z
  rw [dU] at hx
  have cases3:x=bl∨x∈a'.lists∨x∈lsts bas:=by
   rcases List.mem_cons.mp hx with e | hx
   ·exact .inl e
   ·rcases List.mem_append.mp hx with q | q
    ·exact .inr (.inl q)
    ·exact .inr (.inr q)
  rcases List.mem_append.mp z with z | z
  ·rcases cases3 with rfl | q | q
   ·exact S.br.ap _ List.mem_cons_self z
   ·rcases hl _ q with ⟨q,_⟩ | q
    ·exact (f2 _ q).1 z
    ·exact oldLst _ z q
   ·exact S.br.ap _ (by rw [dU];exact List.mem_cons_of_mem _ (List.mem_append_right _ q)) z
  ·have za:=hw _ z
   rcases cases3 with rfl | q | q
   ·exact (f2 _ za).2.1 rfl
   ·rcases hl _ q with ⟨_,q⟩ | q
    ·exact q z
    ·exact xsome _ (by rw [dU];exact List.mem_cons_of_mem _ (List.mem_append_left _ za)) q
   ·exact (f2 _ za).2.2.1 q
 ·show (a'.ob::obs bas).Nodup
  rw [ha]
  exact S.br.ob
 ·rcases hx with rfl | hx | hx
  ·exact S.fr _ (.inl rfl)
  ·have:obs (a'::bas)=obs (a::bas):=by simp only [obs,List.map_cons,ha]
   rw [this] at hx
   exact S.fr _ (.inr (.inl hx))
  ·rw [dU] at hx
   rcases List.mem_append.mp hx with hx | hx
   ·rcases hl _ hx with ⟨q,_⟩ | q
    ·exact S.fr _ (.inr (.inr (by rw [dU];exact List.mem_append_left _ q)))
    ·exact S.free0 q
   ·exact S.fr _ (.inr (.inr (by rw [dU];exact List.mem_append_right _ hx)))
theorem FSt.gone {ws:List Addr} (S:FSt cs H0 H r lt as T i b A p B ns bl lo (a::bas) (F::st)) (k:Kp [A.na] H H') (bk:BookAt cs H' b A' p { B with ns:=ns' }) (g:Grow H A A' ws) (hw:∀ x∈ws,x=a.fl):FSt cs H0 H' r lt as T i b A' p B ns' bl lo bas st:=by
 obtain ⟨dx,ob⟩:=S.ob
 obtain ⟨hd,tl⟩:=S.head
 obtain ⟨f1,f2,f3,f4,f5,f6⟩:=S.facts
 obtain ⟨m1,m2,m3⟩:=S.naOut
 have na':=g.na.1
 have mfl:a.fl∈a.lists:=by simp [BrA.lists]
 have nd0:=S.br.nd
 rw [dU,List.nodup_cons,List.nodup_append] at nd0
 refine ⟨S.tk0,S.r0,by rw [na'];exact S.na0,by rw [na'];exact S.ltna,⟨dx,k _ _ ob (by simpa using jE ob S.bk.nodes)⟩,bk,⟨k _ _ S.br.lst (by simpa using m1.symm),kT k tl fun x hx=>?_,?_,fun x hx=>?_,?_⟩,by rw [na'];exact S.kp.into k fun x hx=>.inl (by simp at hx;simp [hx]),fun x hx=>S.fr x ?_⟩
 ·simp only [List.mem_cons,List.not_mem_nil,or_false] at hx
  subst hx
  exact ⟨fun z=>m2 (by simp only [obs,List.map_cons,List.mem_cons];exact .inr z),fun z=>m3 (by rw [dU];exact List.mem_append_right _ z)⟩
 ·exact List.nodup_cons.mpr ⟨fun z=>nd0.1 (List.mem_append_right _ z),nd0.2.2.1⟩
 ·rw [g.lists]
  intro z
  have hx':x∈bl::lsts (a::bas):=by
   rw [dU]
   rcases List.mem_cons.mp hx with rfl | hx
   ·exact List.mem_cons_self
   ·exact List.mem_cons_of_mem _ (List.mem_append_right _ hx)
  rcases List.mem_append.mp z with z | z
  ·exact S.br.ap _ hx' z
  ·have e:=hw _ z
   subst e
   rcases List.mem_cons.mp hx with e | hx
   ·exact (f2 _ mfl).2.1 e
   ·exact (f2 _ mfl).2.2.1 hx
 ·have:=S.br.ob
  rw [show obs (a::bas)=a.ob::obs bas from rfl] at this
  exact (List.nodup_cons.mp this).2
 ·rcases hx with hx | hx | hx
  ·exact .inl hx
  ·exact .inr (.inl (by simp only [obs,List.map_cons,List.mem_cons];exact .inr hx))
  ·exact .inr (.inr (by rw [dU];exact List.mem_append_right _ hx))
theorem FSt.part (S:FSt cs H0 H r lt as T i b A p B ns bl lo (a::bas) (F::st)) (x:Nat):FSt cs H0 (upd H a.pl (.lst (nV F.ps++[V.int (x:Int)]))) r lt as T i b A p B ns bl lo (a::bas) ({ F with ps:=F.ps++[x] }::st):=by
 obtain ⟨dx,ob⟩:=S.ob
 obtain ⟨hd,tl⟩:=S.head
 obtain ⟨f1,f2,f3,f4,f5,f6⟩:=S.facts
 obtain ⟨dh,hob⟩:=hd.ob
 have mpl:a.pl∈a.lists:=by simp [BrA.lists]
 have k:Kp [a.pl] H (upd H a.pl (.lst (nV F.ps++[V.int (x:Int)]))):=Kp.refl.upd (.inl (by simp))
 unfold BrA.lists at f1
 simp only [List.nodup_cons,List.mem_cons,List.not_mem_nil,or_false,not_or] at f1
 refine ⟨S.tk0,S.r0,S.na0,S.ltna,⟨dx,k _ _ ob (by simpa using jE ob hd.ps)⟩,S.bk.keep k fun y hy=>?_,⟨k _ _ S.br.lst (by simpa using (f2 _ mpl).2.1.symm),.cons ⟨⟨dh,k _ _ hob (by simpa using jE hob hd.ps)⟩,k _ _ hd.fs (by simpa using f1.1.2),k _ _ hd.bs (by simpa using f1.2.1),?_⟩ (kT k tl fun y hy=>?_),S.br.nd,S.br.ap,S.br.ob⟩,S.kp.into k fun y hy=>?_,S.fr⟩
 ·simp only [List.mem_cons,List.not_mem_nil,or_false] at hy
  subst hy
  exact .inl ⟨_,hd.ps,(f2 _ mpl).1⟩
 ·rw [d9,jV]
 ·simp only [List.mem_cons,List.not_mem_nil,or_false] at hy
  subst hy
  exact ⟨(f2 _ mpl).2.2.2.1,(f2 _ mpl).2.2.1⟩
 ·simp only [List.mem_cons,List.not_mem_nil,or_false] at hy
  subst hy
  exact .inr (S.fr _ (.inr (.inr (by rw [dU];exact List.mem_append_left _ mpl))))
structure Fw (ns:List dI) (st:List FraN) (n:Nat):Prop where
 le:ns.length+(st.flatMap FraN.all).length≤n
 wi:∀ x∈ns,x.2.length≤50000
 dp:st.length≤n+1
theorem Fw.mono {n m:Nat} (f:Fw ns st n) (h:n≤m):Fw ns st m:=⟨Nat.le_trans f.le h,f.wi,Nat.le_trans f.dp (Nat.add_le_add_right h 1)⟩
theorem FSt.pair {n:Nat} (S:FSt cs H0 H r lt as T i b A p B ns bl lo (a::bas) (F::st)) (f:Fw ns (F::st) n) (hn:n < 50000):Pair cs H a F b A p { B with ns:=ns }:=by
 have h:=f.le
 rw [List.flatMap_cons,List.length_append] at h
 exact ⟨S.head.1,S.bk,S.facts.1,fun x hx=>(S.facts.2.1 x hx).1,by omega,by show ns.length < 50000;omega⟩
theorem jw (F:FraN):F.all.length=F.fs.length+(F.bs.length+F.ps.length):=by unfold FraN.all;rw [List.length_append,List.length_append]
theorem d3b {k:Nat}{w:List Nat} (h:∀ x∈ns,x.2.length≤50000) (hw:w.length≤50000):∀ x∈gb ns k w,x.2.length≤50000:=by
 unfold gb
 split
 ·exact h
 ·intro x hx
  rcases List.mem_append.mp hx with q | q
  ·exact h x q
  ·simp at q;subst q;exact hw
theorem Fw.part {n:Nat} (f:Fw ns (F::st) n) (x:Nat):Fw ns ({ F with ps:=F.ps++[x] }::st) (n+1):=by
 refine ⟨?_,f.wi,Nat.le_succ_of_le f.dp⟩
 have h:=f.le
 rw [List.flatMap_cons,List.length_append,jw] at h ⊢
 show ns.length+(F.fs.length+(F.bs.length+(F.ps++[x]).length)+_)≤_
 rw [List.length_append,List.length_singleton]
 omega
theorem Fw.eb {n P:Nat} (f:Fw ns (F::st) n) (hp:F.ps≠[]) (hn:n < 50000):Fw (ebNs ns F) (j8 P ns F::st) (n+1):=by
 have h:=f.le
 have hl:=yY ns F
 have hps:1≤F.ps.length:=by cases q:F.ps with
  | nil=>exact absurd q hp
  | cons a r=>simp
 rw [List.flatMap_cons,List.length_append,jw] at h
 refine ⟨?_,d3b f.wi (by omega),Nat.le_succ_of_le f.dp⟩
 rw [List.flatMap_cons,List.length_append,jw]
 show (ebNs ns F).length+(F.fs.length+((F.bs++[jH P ns F.ps]).length+0)+_)≤_
 rw [List.length_append,List.length_singleton]
 omega
theorem Fw.ef {n P:Nat} (f:Fw ns (F::st) n) (hp:F.ps≠[]) (hn:n < 49999):Fw (efNs P ns F) (gG P ns F::st) (n+2):=by
 have f1:=f.eb (P:=P) hp (by omega)
 have h:=f.le
 have hl:=dDc P ns F
 have hps:1≤F.ps.length:=by cases q:F.ps with
  | nil=>exact absurd q hp
  | cons a r=>simp
 rw [List.flatMap_cons,List.length_append,jw] at h
 refine ⟨?_,d3b f1.wi ?_,Nat.le_trans f.dp (by omega)⟩
 ·rw [List.flatMap_cons,List.length_append,jw]
  show (efNs P ns F).length+((F.fs++[efAt P ns F]).length+(0+0)+_)≤_
  rw [List.length_append,List.length_singleton]
  omega
 ·show (F.bs++[jH P ns F.ps]).length≤_
  rw [List.length_append,List.length_singleton]
  omega
theorem Fw.cl {n P:Nat}{G:FraN} (f:Fw ns (F::G::st) n) (h1:1≤F.fs.length) (hn:n < 50000):Fw (clNs ns F) ({ G with ps:=G.ps++[x] }::st) (n+1):=by
 have h:=f.le
 rw [List.flatMap_cons,List.flatMap_cons,List.length_append,List.length_append,jw,jw] at h
 have hc:(clNs ns F).length≤ns.length+1:=by
  unfold clNs
  split
  ·omega
  ·simp
 have hdp:(G::st).length+1≤n+1:=f.dp
 refine ⟨?_,?_,by show (G::st).length≤_;omega⟩
 ·rw [List.flatMap_cons,List.length_append,jw]
  show (clNs ns F).length+(G.fs.length+(G.bs.length+(G.ps++[x]).length)+_)≤_
  rw [List.length_append,List.length_singleton]
  omega
 ·unfold clNs
  split
  ·exact f.wi
  ·intro y hy
   rcases List.mem_append.mp hy with q | q
   ·exact f.wi y q
   ·simp at q;subst q;show F.fs.length≤50000;omega
end
end Pg
end
section
set_option linter.all false
set_option maxRecDepth 100000
set_option maxHeartbeats 4000000
namespace Pg
open PySem L2 Xc Sp
def dAq:Sp:=fun vs H Q _=>∃ n:Nat,vs=[.int n]∧n≤99999∧∀ H',Same H H'→Q (.bl (decide (n≤251)&&Rb35.prime n)) H'
def divs (n i:Nat):List Bool:=(List.range i).map fun (d:Nat)=>!decide (V.int ((n:Int)%(2+(d:Int)))=V.int 0)
theorem dAj (n i:Nat):divs n (i+1)=divs n i++[!decide (V.int ((n:Int)%(2+(i:Int)))=V.int 0)]:=by
 unfold divs
 rw [List.range_succ,List.map_append]
 rfl
theorem jj (a b:Int):decide (V.int a=V.int b)=decide (a=b):=by
 by_cases h:a=b
 ·subst h;simp
 ·rw [decide_eq_false h,decide_eq_false fun z=>h (by injection z)]
theorem d9u (n:Nat) (h:2≤n):(divs n (n-2)).all id=Rb35.prime n:=by
 unfold divs Rb35.prime
 rw [decide_eq_true h,Bool.true_and,Bool.eq_iff_iff,List.all_eq_true,List.all_eq_true]
 constructor
 ·intro hh d hd
  rw [List.mem_range] at hd
  by_cases h2:d < 2
  ·simp [h2]
  ·have:=hh _ (List.mem_map.mpr ⟨d-2,List.mem_range.mpr (by omega),rfl⟩)
   rw [jj] at this
   have e:(2+((d-2:Nat):Int))=(d:Int):=by omega
   rw [e] at this
   simp only [id,Bool.not_eq_true',decide_eq_false_iff_not] at this
   have h3:¬ n%d=0:=fun z=>this (by omega)
   simp [h3]
 ·intro hh x hx
  obtain ⟨d,hd,rfl⟩:=List.mem_map.mp hx
  rw [List.mem_range] at hd
  have:=hh (d+2) (List.mem_range.mpr (by omega))
  rw [jj]
  have h2:¬ d+2 < 2:=by omega
  simp only [h2,decide_false,Bool.false_or,bne_iff_ne,ne_eq] at this
  have e:(2+(d:Int))=((d+2:Nat):Int):=by omega
  rw [e]
  simp only [id,Bool.not_eq_true',decide_eq_false_iff_not]
  exact fun z=>this (by omega)
section
variable {P:Program}{w:World}{K:PySem.W.Frag}{mg:Str→Option Value}{base:Heap}{cs:Cs}
theorem sc_field:FnScope ["number","factor"] ["number"] (dB kP):=⟨rfl,rfl,rfl,by decide +kernel,rfl,by decide +kernel,by decide +kernel⟩
theorem dCX (T:FunT K mg "is_field" kP) (hG:∃ t,mg "GREATEST_PRIME"=some (.int 251 t)) (hall:mg "all"=none) (hrange:mg "range"=none):DefOk P w K mg base 2 "is_field" ["number"] dAq:=by
 obtain ⟨f,fd,F,hm⟩:=T.ex
 obtain ⟨tg,hG⟩:=hG
 refine ⟨f,fd,hm,F.kp,F.binds (fun _ _ _ _ _ _ us hl=>match us,hl with | [_],_=>rfl),okN (k:=1) F sc_field (fun vs H Q E h=>?_) (fun cdv A outer s H vs Q E hr h=>?_)⟩
 ·obtain ⟨n,rfl,_⟩:=h
  rfl
 ·obtain ⟨n,rfl,hn,kq⟩:=h
  refine ⟨_,dA (gv (dA0 (dQ d8C (pv 0) dS (dW _)) (yD (dQ yq (pv 0) (da (v:=.int 251) (by rfl) hG ⟨tg,rfl⟩) (dW _)))).pt (dE (dZ dBc)) dq)
   (dE (dZ (dP (dGR rfl) (by rfl) hall PyProof.Rows.boot_all (d0 (vU rfl sc_field.nd (dCR rfl hrange (d0 dS (d0 (pv 0) dD))) (gJ (own:=[("factor",1)]) (by show blkC ["number","factor"] (dB kP) _ [("factor",1)]=true;decide +kernel))
    (fun _ _ _ _ _=>du (i:=1) sc_field.nd rfl (Or.inl rfl)) (fun _ _ _ _ _=>jh) (fun _ _ _ _ _=>gi d5B (jT d94 (pv 0) (pv 1)) dS (dW _))) dD)))),?_⟩
  have rest:2≤n→n≤251→∀ (D:Addr),H D=none→Q (.bl ((divs n (n-2)).all id)) (upd H D (.lst ((divs n (n-2)).map V.bl))):=fun h1 h2 D hD=>by
   rw [d9u n h1]
   have:=kq (upd H D (.lst ((divs n (n-2)).map V.bl))) fun c o q=>by rw [d8 (dC q hD)];exact q
   rwa [decide_eq_true h2,Bool.true_and] at this
  have no:¬ (2≤n∧n≤251)→Q (.bl false) H:=fun hh=>by
   have:=kq H (Same.refl H)
   have e:(decide (n≤251)&&Rb35.prime n)=false:=by
    by_cases h1:n≤251
    ·have h2:¬ 2≤n:=fun z=>hh ⟨z,h1⟩
     unfold Rb35.prime
     rw [decide_eq_false h2]
     simp
    ·rw [decide_eq_false h1];rfl
   rwa [e] at this
  refine ⟨_,rfl,_,_,rfl,rfl,_,rfl,ite2 (fun hc=>?_) fun hc=>?_⟩
  ·refine iteT ?_
   have h1:=of_decide_eq_true hc
   exact no fun z=>by omega
  ·have h1:¬ (n:Int) < 2:=fun z=>hc (decide_eq_true z)
   refine ⟨_,rfl,_,_,rfl,rfl,_,rfl,ite2 (fun hc2=>?_) fun hc2=>?_⟩
   ·have h2:=of_decide_eq_true hc2
    exact no fun z=>by omega
   ·have h2:¬ (251:Int) < (n:Int):=fun z=>hc2 (decide_eq_true z)
    refine ⟨_,rfl,2,(n:Int),rfl,⟨by decide,by decide,by omega,by omega⟩,fun D hD=>?_⟩
    have en:((n:Int)-2).toNat=n-2:=by omega
    refine dDF (fun i H'=>H'=upd H D (.lst ((divs n i).map V.bl))) rfl ?_ ?_
    ·rintro i H' hi rfl
     refine ⟨rfl,?_⟩
     refine ⟨_,rfl,_,rfl,_,_,rfl,rfl,(by show (0:Int) < 2+(i:Int);omega),rfl,?_⟩
     refine ⟨_,d9,?_,?_⟩
     ·rw [List.length_map]
      unfold divs
      rw [List.length_map,List.length_range]
      exact Nat.lt_trans (show i < 100000 by omega) dc
     ·rw [jL,dAj,List.map_append]
      rfl
    ·rintro H' rfl
     rw [en]
     exact ⟨D,_,rfl,SqL.of d9,rest (by omega) (by omega) D hD⟩
end
end Pg
end
section
set_option linter.all false
set_option maxRecDepth 100000
set_option maxHeartbeats 4000000
namespace Pg
open PySem L2 Xc Sp Rb35
theorem dDu:∀ (l:List Nat) (a:Nat),l.foldl (fun acc c=>acc*10+(c-48)) a=l.foldl (fun (n c:Nat)=>10*n+(c-48)) a
 | [],_=>rfl
 | c::r,a=>by
  rw [List.foldl_cons,List.foldl_cons,dDu r,Nat.mul_comm]
theorem dDt:∀ (l:List Nat) (a:Nat),(∀ c∈l,isDigit c=true)→l.foldl (fun (n c:Nat)=>10*n+(c-48)) a < (a+1)*10 ^ l.length
 | [],a,_=>by simp
 | c::r,a,h=>by
  rw [List.foldl_cons]
  have h1:=dDt r (10*a+(c-48)) fun x hx=>h x (List.mem_cons_of_mem _ hx)
  have h2:=h c List.mem_cons_self
  simp [isDigit] at h2
  refine Nat.lt_of_lt_of_le h1 ?_
  rw [List.length_cons,Nat.pow_succ,Nat.mul_comm (10 ^ r.length) 10,←Nat.mul_assoc]
  exact Nat.mul_le_mul_right _ (by omega)
theorem dDP {l:List Nat} (h:∀ c∈l,isDigit c=true) (hl:l.length≤5):valueOf l≤99999:=by
 have:=dDt l 0 h
 have h2:10 ^ l.length≤10 ^ 5:=Nat.pow_le_pow_right (by decide) hl
 unfold valueOf
 omega
theorem d9S {l:List Nat} (h:∀ c∈l,isDigit c=true) (hl:l.length≤5) (hn:l≠[]):intText? (mkS l)=some ((valueOf l:Nat):Int):=by
 have e:=PySem.intText_digits (x:=mkS l) (fun c hc=>by
  have:=h c hc
  simp [isDigit] at this
  exact this) hn (by show l.toArray.size≤4300;rw [List.size_toArray];omega)
 rw [e]
 show some (((l.foldl (fun acc c=>acc*10+(c-48)) 0:Nat)):Int)=_
 rw [dDu]
 rfl
theorem ReadAt.same {cs:Cs}{H H':Hp}{r lt:Addr}{as:List Addr}{T:List PT}{i:Nat} (R:ReadAt cs H r lt as T i) (s:Same H H'):ReadAt cs H' r lt as T i:=by
 obtain ⟨dx,ob⟩:=R.ob
 refine ⟨⟨dx,s _ _ ob⟩,s _ _ R.tk.lst,R.tk.len,fun j a t h1 h2=>?_⟩
 obtain ⟨dy,h⟩:=R.tk.at_ j a t h1 h2
 exact ⟨dy,s _ _ h⟩
theorem Kp.ofSame {F:List Addr}{H H1 H2:Hp} (s:Same H H1) (k:Kp F H1 H2):Kp F H H2:=fun b o h n=>k b o (s b o h) n
def dC2 (cs:Cs):Sp:=fun vs H Q E=>∃ (r lt:Addr) (as:List Addr) (T:List PT) (i:Nat) (t:PT),vs=[.ref r]∧ReadAt cs H r lt as T i∧TOk T∧T[i]?=some t ∧
 (dl t.1="number"∧(decide (valueOf t.1≤251)&&prime (valueOf t.1))=true→∀ H',ReadAt cs H' r lt as T (i+1)→Kp [r] H H'→Q (.int ((valueOf t.1:Nat):Int)) H') ∧
 (¬ (dl t.1="number"∧(decide (valueOf t.1≤251)&&prime (valueOf t.1))=true)→Thr E cs.cst (-100-(t.2:Int)))
def dBJ (cs:Cs):Sp:=fun vs H Q E=>∃ (r lt:Addr) (as:List Addr) (T:List PT) (i:Nat) (t:PT),vs=[.ref r]∧ReadAt cs H r lt as T i∧TOk T∧T[i]?=some t ∧
 (dl t.1="number"∧valueOf t.1≠0→∀ H',ReadAt cs H' r lt as T (i+1)→Kp [r] H H'→Q (.int ((valueOf t.1:Nat):Int)) H') ∧
 (¬ (dl t.1="number"∧valueOf t.1≠0)→Thr E cs.cst (-100-(t.2:Int)))
section
variable {P:Program}{w:World}{K:PySem.W.Frag}{mg:Str→Option Value}{base:Heap}{cs:Cs}
theorem sc_prime:FnScope ["self","token"] ["self"] (dB gY):=⟨rfl,rfl,rfl,by decide +kernel,rfl,by decide +kernel,by decide +kernel⟩
theorem dDS (T:MetT K cs.rea "take_prime" "Reader.take_prime" gY) (cl:Cls K cs.rea) (clT:Cls K cs.tok) (naT:NoAt K cs.tok ["kind","word","place"]) (hN:∃ t,mg "NUMBER"=some (.str "number" t)) (hint:mg "int"=none)
  (NW:MetOk P w K mg base 1 cs.rea "now" ["self"] (ug cs)) (TK:MetOk P w K mg base 4 cs.rea "take" ["self","stands"] (ui cs)) (FI:DefOk P w K mg base 2 "is_field" ["number"] dAq):MetOk P w K mg base 5 cs.rea "take_prime" ["self"] (dC2 cs):=by
 obtain ⟨f,fd,F,M⟩:=T.ex
 obtain ⟨tn,hN⟩:=hN
 refine ⟨f,fd,M,F.binds (fun _ _ _ _ _ _ us hl=>match us,hl with | [_],_=>rfl),okX F sc_prime (fun vs H Q E h=>?_) (fun cdv A outer s H vs Q E hr h=>?_)⟩
 ·obtain ⟨r,lt,as,T,i,t,rfl,_⟩:=h
  rfl
 ·obtain ⟨r,lt,as,T,i,t,rfl,R,ok,ht,kq,kx⟩:=h
  obtain ⟨dx,ob⟩:=R.ob
  refine ⟨_,dA (dX (i:=1) sc_prime.nd rfl (Or.inl rfl) (gX (pv 0) cl (NW.mono (by decide:1≤4)) hr dG))
   (dE (dZ (kX jl (by rfl) hint PyProof.Rows.boot_int (d0 (di (pv 0) cl TK hr dY (d0 (d9H (gi kL (dM (pv 1) rfl) (da (v:=.str "number") rfl hN ⟨tn,rfl⟩) (dW _))
    (d9D (dj (FI.mono (by decide:2≤4)) hr rfl dG (d0 (kX jl (by rfl) hint PyProof.Rows.boot_int (d0 (dM (pv 1) rfl) dD)) dD)))) dD)) dD)))),?_⟩
  refine ⟨_,rfl,r,dx,_,rfl,ob,jn _ _ (by decide +kernel) (by decide +kernel),r,lt,as,T,i,t,rfl,R,ht,fun a ta=>?_⟩
  obtain ⟨dt,hta⟩:=id ta
  refine ⟨_,rfl,r,dx,_,rfl,ob,jn _ _ (by decide +kernel) (by decide +kernel),?_⟩
  refine ⟨_,rfl,a,cs.tok,dt,_,_,rfl,hta,clT,naT _ (by simp),ko _ _ _,rfl,_,rfl,ite2 (fun hc=>?_) fun hc=>?_⟩
  ·have hk:dl t.1="number":=by
    have:=of_decide_eq_true hc
    injection this
   have hd:=ok.dig t (List.mem_of_getElem? ht) hk
   have hl:=(jq hk).2
   have hne:t.1≠[]:=fun z=>by rw [z] at hk;exact absurd hk (by decide +kernel)
   have hiw:=d9S hd hl hne
   have hsz:(mkS t.1).length≤640:=by show t.1.toArray.size≤640;rw [List.size_toArray];omega
   refine ⟨_,rfl,a,cs.tok,dt,_,_,rfl,hta,clT,naT _ (by simp),jd _ _ _,_,_,rfl,hiw,hsz,?_⟩
   refine ⟨valueOf t.1,rfl,dDP hd hl,fun H1 s1=>?_⟩
   refine ⟨r,lt,as,T,i,t,_,rfl,R.same s1,ht,fun h2 H2 R2 k2=>?_,fun h2=>kx fun z=>?_⟩
   ·exact ⟨_,_,rfl,hiw,hsz,kq ⟨hk,h2⟩ H2 R2 (Kp.ofSame s1 k2)⟩
   ·rw [z.2] at h2
    cases h2
  ·refine ⟨r,lt,as,T,i,t,_,rfl,R,ht,fun h2=>absurd h2 Bool.false_ne_true,fun h2=>kx fun z=>hc (decide_eq_true (by rw [z.1]))⟩
theorem sc_asked:FnScope ["self","token"] ["self"] (dB gZ):=⟨rfl,rfl,rfl,by decide +kernel,rfl,by decide +kernel,by decide +kernel⟩
theorem dCs (T:MetT K cs.rea "take_asked" "Reader.take_asked" gZ) (cl:Cls K cs.rea) (clT:Cls K cs.tok) (naT:NoAt K cs.tok ["kind","word","place"]) (hN:∃ t,mg "NUMBER"=some (.str "number" t)) (hint:mg "int"=none)
  (NW:MetOk P w K mg base 1 cs.rea "now" ["self"] (ug cs)) (TK:MetOk P w K mg base 4 cs.rea "take" ["self","stands"] (ui cs)):MetOk P w K mg base 5 cs.rea "take_asked" ["self"] (dBJ cs):=by
 obtain ⟨f,fd,F,M⟩:=T.ex
 obtain ⟨tn,hN⟩:=hN
 refine ⟨f,fd,M,F.binds (fun _ _ _ _ _ _ us hl=>match us,hl with | [_],_=>rfl),okX F sc_asked (fun vs H Q E h=>?_) (fun cdv A outer s H vs Q E hr h=>?_)⟩
 ·obtain ⟨r,lt,as,T,i,t,rfl,_⟩:=h
  rfl
 ·obtain ⟨r,lt,as,T,i,t,rfl,R,ok,ht,kq,kx⟩:=h
  obtain ⟨dx,ob⟩:=R.ob
  refine ⟨_,dA (dX (i:=1) sc_asked.nd rfl (Or.inl rfl) (gX (pv 0) cl (NW.mono (by decide:1≤4)) hr dG))
   (dE (dZ (kX jl (by rfl) hint PyProof.Rows.boot_int (d0 (di (pv 0) cl TK hr dY (d0 (d9H (gi kL (dM (pv 1) rfl) (da (v:=.str "number") rfl hN ⟨tn,rfl⟩) (dW _))
    (d9D (gi dCA (kX jl (by rfl) hint PyProof.Rows.boot_int (d0 (dM (pv 1) rfl) dD)) dS (dW _)))) dD)) dD)))),?_⟩
  refine ⟨_,rfl,r,dx,_,rfl,ob,jn _ _ (by decide +kernel) (by decide +kernel),r,lt,as,T,i,t,rfl,R,ht,fun a ta=>?_⟩
  obtain ⟨dt,hta⟩:=id ta
  refine ⟨_,rfl,r,dx,_,rfl,ob,jn _ _ (by decide +kernel) (by decide +kernel),?_⟩
  refine ⟨_,rfl,a,cs.tok,dt,_,_,rfl,hta,clT,naT _ (by simp),ko _ _ _,rfl,_,rfl,ite2 (fun hc=>?_) fun hc=>?_⟩
  ·have hk:dl t.1="number":=by
    have:=of_decide_eq_true hc
    injection this
   have hd:=ok.dig t (List.mem_of_getElem? ht) hk
   have hl:=(jq hk).2
   have hne:t.1≠[]:=fun z=>by rw [z] at hk;exact absurd hk (by decide +kernel)
   have hiw:=d9S hd hl hne
   have hsz:(mkS t.1).length≤640:=by show t.1.toArray.size≤640;rw [List.size_toArray];omega
   refine ⟨_,rfl,a,cs.tok,dt,_,_,rfl,hta,clT,naT _ (by simp),jd _ _ _,_,_,rfl,hiw,hsz,_,_,rfl,rfl,?_⟩
   refine ⟨r,lt,as,T,i,t,_,rfl,R,ht,fun h2 H2 R2 k2=>?_,fun h2=>kx fun z=>?_⟩
   ·have h3:(1:Int)≤((valueOf t.1:Nat):Int):=of_decide_eq_true h2
    exact ⟨_,_,rfl,hiw,hsz,kq ⟨hk,by omega⟩ H2 R2 k2⟩
   ·have h3:¬ (1:Int)≤((valueOf t.1:Nat):Int):=of_decide_eq_false h2
    omega
  ·refine ⟨r,lt,as,T,i,t,_,rfl,R,ht,fun h2=>absurd h2 Bool.false_ne_true,fun h2=>kx fun z=>hc (decide_eq_true (by rw [z.1]))⟩
end
end Pg
end
section
set_option linter.all false
set_option maxRecDepth 100000
set_option maxHeartbeats 4000000
namespace Pg
open PySem L2 Xc Sp Rb35
def GoOn (Pv:L2.St→Hp→Prop) (μ:L2.St→Hp→Nat) (m:Nat) (tb:TS) (D:Ends) (σ:L2.St) (H1:Hp):Prop:=
 ∃ N:L2.St→Hp→Prop,(∀ σ' H',N σ' H'→∃ m',m' < m∧m'=μ σ' H'∧Pv σ' H')∧tb { D with nx:=N,ct:=N,bk:=D.nx } σ H1
theorem kH {c:TT}{tb:TS}{D:Ends}{σ:L2.St}{H:Hp} (Pv:L2.St→Hp→Prop) (μ:L2.St→Hp→Nat) (h0:Pv σ H)
  (hs:∀ σ H,Pv σ H→c σ H fun b H1=>if b=true then GoOn Pv μ (μ σ H) tb D σ H1 else D.nx σ H1):dDx c tb D σ H:=by
 refine ⟨fun m σ H=>m=μ σ H∧Pv σ H,⟨_,rfl,h0⟩,?_⟩
 rintro m σ H ⟨rfl,p⟩
 exact hs σ H p
theorem wgo {Pv:L2.St→Hp→Prop}{μ:L2.St→Hp→Nat}{m:Nat}{tb:TS}{D:Ends}{σ:L2.St}{H1:Hp} (h:tb { D with nx:=fun σ' H'=>Pv σ' H'∧μ σ' H' < m,ct:=fun σ' H'=>Pv σ' H'∧μ σ' H' < m,bk:=D.nx } σ H1):GoOn Pv μ m tb D σ H1:=
 ⟨_,fun σ' H' q=>⟨_,q.2,rfl,q.1⟩,h⟩
theorem d8r:("abcdefghijklmnopqrstuvwxyz":Str).cps.toList=List.range' 97 26:=by decide +kernel
theorem dA8:("0123456789":Str).cps.toList=List.range' 48 10:=by decide +kernel
theorem dAC:("abcdefghijklmnopqrstuvwxyz0123456789_":Str).cps.toList=List.range' 97 26++(List.range' 48 10++[95]):=by decide +kernel
theorem u8 (c:Nat):decide (c∈("abcdefghijklmnopqrstuvwxyz":Str).cps.toList)=isSmall c:=by
 rw [d8r,Bool.eq_iff_iff,decide_eq_true_iff,List.mem_range'_1]
 simp [isSmall];omega
theorem gy (c:Nat):decide (c∈("0123456789":Str).cps.toList)=isDigit c:=by
 rw [dA8,Bool.eq_iff_iff,decide_eq_true_iff,List.mem_range'_1]
 simp [isDigit];omega
theorem dAd (c:Nat):decide (c∈("abcdefghijklmnopqrstuvwxyz0123456789_":Str).cps.toList)=isWord c:=by
 rw [dAC,Bool.eq_iff_iff,decide_eq_true_iff,List.mem_append,List.mem_append,List.mem_range'_1,List.mem_range'_1]
 simp [isWord,isSmall,isDigit];omega
theorem gA (l:List Nat):(mkS l).length=l.length:=by
 show l.toArray.size=_
 rw [List.size_toArray]
def dBT:Sp:=fun vs H Q _=>∃ (l:List Nat) (pl:Nat) (z:Str),vs=[.str (mkS l),.int pl,.str z]∧pl≤l.length∧l.length≤10000 ∧
 Q (.int ((pl+((l.drop pl).takeWhile fun c=>decide (c∈z.cps.toList)).length:Nat):Int)) H
def d9a:Sp:=fun vs H Q _=>∃ (l:List Nat) (pl:Nat),vs=[.str (mkS l),.int pl]∧pl < l.length∧l.length≤10000∧Q (.int ((pl+dR (l.drop pl):Nat):Int)) H
def dEB:Sp:=fun vs H Q _=>∃ (wd:List Nat),vs=[.str (mkS wd)]∧wd≠[]∧wd.length≤10000∧Q (.str (dl wd)) H
theorem dDN {X:Cx}:MtR X "str.find" (fun x xs H Q=>∃ a b i,x=.str a∧xs=[.str b,.int i]∧Q (.int (Txt.find3 a b i)) H):=by
 intro pins s σ H x xs v us Q I rx rs h
 obtain ⟨a,b,i,rfl,rfl,h⟩:=h
 obtain ⟨t,rfl⟩:=rx
 cases rs with
 | cons r1 rs=>
  cases rs with
  | cons r2 rs=>
   cases rs
   obtain ⟨u,rfl⟩:=r1
   obtain ⟨u2,rfl⟩:=r2
   exact PySem.SC.find3 ⟨.int (Txt.find3 a b i),H,I.tok _,⟨_,rfl⟩,h⟩
theorem dFX (c d:Nat):decide (V.str ⟨#[c]⟩=V.str ⟨#[d]⟩)=decide (c=d):=by
 by_cases h:c=d
 ·subst h;simp
 ·rw [decide_eq_false h,decide_eq_false]
  intro z
  injection z with z
  injection z with z
  exact h (by simpa using z)
theorem dCJ (l:List Nat) (pl:Nat) (hp:pl≤l.length):(if (0:Int)≤Txt.find3 (mkS l) ⟨#[10]⟩ (pl:Int) then Txt.find3 (mkS l) ⟨#[10]⟩ (pl:Int) else (l.length:Int))=((pl+((l.drop pl).takeWhile fun x=>x != 10).length:Nat):Int):=by
 have hfi:PySem.fromIndex (mkS l).length (pl:Int)=pl:=by
  unfold PySem.fromIndex
  rw [if_neg (by omega)]
  omega
 have gd:∀ v,(mkS l).cps.getD v 0=l.getD v 0:=fun v=>by
  show l.toArray.getD v 0=_
  simp [List.getD_eq_getElem?_getD]
 have key:∀ (m:List Nat) (k:Nat),(∀ v,v < k→m.getD v 0≠10)→k≤m.length→(k=m.length∨m.getD k 0=10∧k < m.length)→(m.takeWhile fun x=>x != 10).length=k:=by
  intro m
  induction m with
  | nil=>intro k _ h _;simp at h;simp [h]
  | cons a r ih=>
   intro k h1 h2 h3
   cases k with
   | zero=>
    rcases h3 with h3 | ⟨h3,_⟩
    ·simp at h3
    ·have:a=10:=by simpa using h3
     subst this
     rw [List.takeWhile_cons]
     simp
   | succ k=>
    have ha:a≠10:=by simpa using h1 0 (by omega)
    have hb:(a != 10)=true:=by simpa using ha
    rw [List.takeWhile_cons,hb]
    simp only [if_true,List.length_cons]
    rw [ih k (fun v hv=>by simpa using h1 (v+1) (by omega)) (by simpa using h2) (by
     rcases h3 with h3 | ⟨h3,h4⟩
     ·exact .inl (by simpa using h3)
     ·exact .inr ⟨by simpa using h3,by simpa using h4⟩)]
 have dg:∀ v,(l.drop pl).getD v 0=l.getD (pl+v) 0:=fun v=>by
  rw [List.getD_eq_getElem?_getD,List.getD_eq_getElem?_getD,List.getElem?_drop]
 rcases PySem.StrLaws.find3_spec (mkS l) 10 (pl:Int) with ⟨h,hn⟩ | ⟨k,h,h1,h2,h3,h4⟩
 ·rw [hfi] at hn
  rw [h,if_neg (by decide)]
  have e:=key (l.drop pl) (l.length-pl) (fun v hv=>by
   rw [dg,←gd]
   exact hn (pl+v) (by omega) (by rw [gA];omega)) (by rw [List.length_drop];exact Nat.le_refl _) (.inl (by rw [List.length_drop]))
  rw [e]
  omega
 ·rw [hfi] at h1 h4
  rw [gA] at h2
  rw [h,if_pos (by omega)]
  have e:=key (l.drop pl) (k-pl) (fun v hv=>by
   rw [dg,←gd]
   exact h4 (pl+v) (by omega) (by omega)) (by rw [List.length_drop];omega) (.inr ⟨by rw [dg,←gd,Nat.add_sub_cancel' h1];exact h3,by rw [List.length_drop];omega⟩)
  rw [e]
  omega
section
variable {P:Program}{w:World}{K:PySem.W.Frag}{mg:Str→Option Value}{base:Heap}{cs:Cs}
theorem sc_endof:FnScope ["row","place","signs","end"] ["row","place","signs"] (dB jk):=⟨rfl,rfl,rfl,by decide +kernel,rfl,by decide +kernel,by decide +kernel⟩
theorem dCh (T:FunT K mg "end_of_signs" jk) (hlen:mg "len"=none):DefOk P w K mg base 1 "end_of_signs" ["row","place","signs"] dBT:=by
 obtain ⟨f,fd,F,hm⟩:=T.ex
 refine ⟨f,fd,hm,F.kp,F.binds (fun _ _ _ _ _ _ us hl=>match us,hl with | [_,_,_],_=>rfl),okN F sc_endof (fun vs H Q E h=>?_) (fun cdv A outer s H vs Q E hr h=>?_)⟩
 ·obtain ⟨l,pl,z,rfl,_⟩:=h
  rfl
 ·obtain ⟨l,pl,z,rfl,hp,hl,kq⟩:=h
  refine ⟨_,dA (dX (i:=3) sc_endof.nd rfl (Or.inl rfl) (pv 1)) (dA (jS PassesOwn.never (wx (dQ d8C (pv 3) (dP gn (by rfl) hlen PySem.boot_len (d0 (pv 0) dD)) (dW _))
   (wO (dQ kC (je d2v (pv 0) (pv 3) (fun _ _=>rfl)) (pv 2) (by rfl)))).pt (dE (d9B (i:=3) sc_endof.nd rfl (Or.inl rfl) dS d9d))) (dE (dZ (pv 3)))),?_⟩
  have hsz:(mkS l).length≤sizeLine:=by rw [gA];exact Nat.le_trans hl (by decide)
  refine ⟨_,rfl,?_⟩
  refine kH (fun σ H'=>H'=H∧∃ j:Nat,pl+j≤l.length∧σ=[some (.str (mkS l)),some (.int pl),some (.str z),some (.int ((pl+j:Nat):Int))] ∧
   ((l.drop pl).takeWhile fun c=>decide (c∈z.cps.toList)).length=j+((l.drop (pl+j)).takeWhile fun c=>decide (c∈z.cps.toList)).length)
   (fun σ _=>match σ with | [_,_,_,some (.int e)]=>l.length-e.toNat | _=>0) ⟨rfl,0,hp,rfl,by simp⟩ ?_
  rintro σ H' ⟨rfl,j,hj,rfl,e⟩
  have done:((l.drop (pl+j)).takeWhile fun c=>decide (c∈z.cps.toList)).length=0→tSeq (fun D σ H=>tRet (tVar 3) D σ H) (fun D σ H=>D.nx σ H) { nx:=fun _ H'=>Q .non H',rt:=Q } [some (.str (mkS l)),some (.int pl),some (.str z),some (.int ((pl+j:Nat):Int))] H':=fun h0=>by
   refine ⟨_,rfl,?_⟩
   rw [h0,Nat.add_zero] at e
   rw [←e]
   exact kq
  refine ⟨_,rfl,_,rfl,_,rfl,hsz,_,_,rfl,rfl,_,rfl,ite2 (fun hc=>?_) fun hc=>?_⟩
  ·have h1:((pl+j:Nat):Int) < ((mkS l).length:Int):=of_decide_eq_true hc
   rw [gA] at h1
   have h2:pl+j < l.length:=by omega
   have hd:l.drop (pl+j)=l[pl+j]::l.drop (pl+j+1):=List.drop_eq_getElem_cons h2
   rw [hd,List.takeWhile_cons] at e
   refine ⟨_,rfl,_,rfl,mkS l,_,l[pl+j],rfl,rfl,hsz,ku (List.getElem?_eq_getElem h2),_,rfl,l[pl+j],z,rfl,rfl,_,rfl,ite2 (fun hc2=>?_) fun hc2=>?_⟩
   ·refine wgo ?_
    refine ⟨_,rfl,_,_,rfl,rfl,⟨rfl,j+1,by omega,rfl,?_⟩,?_⟩
    ·rw [hc2] at e
     simp only [if_true,List.length_cons] at e
     rw [e,Nat.add_assoc]
     omega
    ·show l.length-(((pl+j:Nat):Int)+1).toNat < l.length-((pl+j:Nat):Int).toNat
     omega
   ·refine done ?_
    rw [hd,List.takeWhile_cons]
    have:decide (l[pl+j]∈z.cps.toList)=false:=by simpa using hc2
    rw [this]
    rfl
  ·have h1:¬ ((pl+j:Nat):Int) < ((mkS l).length:Int):=fun q=>hc (decide_eq_true q)
   rw [gA] at h1
   refine iteF (done ?_)
   rw [List.drop_eq_nil_of_le (by omega)]
   rfl
theorem sc_runend:FnScope ["row","place","first","end"] ["row","place"] (dB vA):=⟨rfl,rfl,rfl,by decide +kernel,rfl,by decide +kernel,by decide +kernel⟩
theorem dCG (T:FunT K mg "run_end" vA) (hlen:mg "len"=none) (hL:∃ t,mg "LETTERS"=some (.str "abcdefghijklmnopqrstuvwxyz" t)) (hD:∃ t,mg "DIGITS"=some (.str "0123456789" t)) (hW:∃ t,mg "WORD_SIGNS"=some (.str "abcdefghijklmnopqrstuvwxyz0123456789_" t))
  (EO:DefOk P w K mg base 1 "end_of_signs" ["row","place","signs"] dBT):DefOk P w K mg base 2 "run_end" ["row","place"] d9a:=by
 obtain ⟨f,fd,F,hm⟩:=T.ex
 obtain ⟨t1,hL⟩:=hL
 obtain ⟨t2,hD⟩:=hD
 obtain ⟨t3,hW⟩:=hW
 refine ⟨f,fd,hm,F.kp,F.binds (fun _ _ _ _ _ _ us hl=>match us,hl with | [_,_],_=>rfl),okN F sc_runend (fun vs H Q E h=>?_) (fun cdv A outer s H vs Q E hr h=>?_)⟩
 ·obtain ⟨l,pl,rfl,_⟩:=h
  rfl
 ·obtain ⟨l,pl,rfl,hp,hl,kq⟩:=h
  refine ⟨_,dA (dX (i:=2) sc_runend.nd rfl (Or.inl rfl) (je d2v (pv 0) (pv 1) (fun _ _=>rfl)))
   (dA (gv (dQ kL (pv 2) gQ (dW _)) (dA (dX (i:=3) sc_runend.nd rfl (Or.inl rfl) (kZ PySem.F.plainAttrs_str PySem.F.slot_str_find PySem.F.type_str_find dDN (pv 0) (d0 gQ (d0 (pv 1) dD))))
     (dE (dZ (dD7 (dQ dCA (pv 3) dS (dW _)) (pv 3) (dP gn (by rfl) hlen PySem.boot_len (d0 (pv 0) dD)))))) dq)
   (dA (gv (dQ kC (pv 2) (da (v:=.str "abcdefghijklmnopqrstuvwxyz") (by rfl) hL ⟨t1,rfl⟩) (by rfl)) (dE (dZ (dj EO hr rfl dG (d0 (pv 0) (d0 (pv 1) (d0 (da (v:=.str "abcdefghijklmnopqrstuvwxyz0123456789_") (by rfl) hW ⟨t3,rfl⟩) dD)))))) dq)
   (dA (gv (dQ kC (pv 2) (da (v:=.str "0123456789") (by rfl) hD ⟨t2,rfl⟩) (by rfl)) (dE (dZ (dj EO hr rfl dG (d0 (pv 0) (d0 (pv 1) (d0 (da (v:=.str "0123456789") (by rfl) hD ⟨t2,rfl⟩) dD)))))) dq)
   (dE (dZ (jT dBw (pv 1) dS)))))),?_⟩
  have hsz:(mkS l).length≤sizeLine:=by rw [gA];exact Nat.le_trans hl (by decide)
  have hd:l.drop pl=l[pl]::l.drop (pl+1):=List.drop_eq_getElem_cons hp
  refine ⟨_,rfl,_,rfl,mkS l,_,l[pl],rfl,rfl,hsz,ku (List.getElem?_eq_getElem hp),?_⟩
  refine ⟨_,rfl,rfl,_,rfl,ite2 (fun hc=>?_) fun hc=>?_⟩
  ·have h35:l[pl]=35:=by
    have h1:decide (V.str ⟨#[l[pl]]⟩=V.str ⟨#[35]⟩)=true:=hc
    rw [dFX] at h1
    exact of_decide_eq_true h1
   have er:dR (l.drop pl)=((l.drop pl).takeWhile fun x=>x != 10).length:=by
    rw [hd]
    unfold dR
    dsimp only
    rw [if_pos h35]
   rw [er] at kq
   have fl:=dCJ l pl (Nat.le_of_lt hp)
   refine ⟨_,rfl,rfl,_,rfl,_,_,_,rfl,rfl,?_⟩
   refine ⟨_,rfl,_,_,rfl,rfl,_,rfl,ite2 (fun hc2=>?_) fun hc2=>?_⟩
   ·have h2:(0:Int)≤Txt.find3 (mkS l) ⟨#[10]⟩ (pl:Int):=of_decide_eq_true hc2
    rw [if_pos h2] at fl
    refine ⟨_,rfl,?_⟩
    show Q (V.int (Txt.find3 (mkS l) ⟨#[10]⟩ (pl:Int))) H
    rw [fl]
    exact kq
   ·have h2:¬ (0:Int)≤Txt.find3 (mkS l) ⟨#[10]⟩ (pl:Int):=fun z=>hc2 (decide_eq_true z)
    rw [if_neg h2] at fl
    refine ⟨_,rfl,_,rfl,hsz,?_⟩
    show Q (V.int ((mkS l).length:Int)) H
    rw [gA,fl]
    exact kq
  ·have h35:¬ l[pl]=35:=fun z=>hc (by
    show decide (V.str ⟨#[l[pl]]⟩=V.str ⟨#[35]⟩)=true
    rw [dFX]
    exact decide_eq_true z)
   have sp1:∀ (p q:Nat→Bool),(∀ c,p c=q c)→((l.drop pl).takeWhile p).length=((l.drop pl).takeWhile q).length:=fun p q hpq=>by
    rw [show p=q from funext hpq]
   refine ⟨_,rfl,l[pl],_,rfl,rfl,_,rfl,ite2 (fun hc2=>?_) fun hc2=>?_⟩
   ·rw [u8] at hc2
    have er:dR (l.drop pl)=((l.drop pl).takeWhile isWord).length:=by
     rw [hd]
     unfold dR
     dsimp only
     rw [if_neg h35,if_pos hc2]
    rw [er,←sp1 _ _ dAd] at kq
    exact ⟨_,rfl,_,rfl,l,pl,_,rfl,Nat.le_of_lt hp,hl,kq⟩
   ·rw [u8] at hc2
    refine ⟨_,rfl,l[pl],_,rfl,rfl,_,rfl,ite2 (fun hc3=>?_) fun hc3=>?_⟩
    ·rw [gy] at hc3
     have er:dR (l.drop pl)=((l.drop pl).takeWhile isDigit).length:=by
      rw [hd]
      unfold dR
      dsimp only
      rw [if_neg h35,if_neg hc2,if_pos hc3]
     rw [er,←sp1 _ _ gy] at kq
     exact ⟨_,rfl,_,rfl,l,pl,_,rfl,Nat.le_of_lt hp,hl,kq⟩
    ·rw [gy] at hc3
     have er:dR (l.drop pl)=1:=by
      rw [hd]
      unfold dR
      dsimp only
      rw [if_neg h35,if_neg hc2,if_neg hc3]
     rw [er] at kq
     exact ⟨_,rfl,_,_,rfl,rfl,kq⟩
theorem dFF:FnScope ["word"] ["word"] (dB vH):=⟨rfl,rfl,rfl,by decide +kernel,rfl,by decide +kernel,by decide +kernel⟩
theorem d90:∀ wd:List Nat,inV (V.str (mkS wd)) [V.str "field",V.str "who",V.str "let",V.str "of"]=keys.contains wd:=fun wd=>by
 have e:∀ (s:List Nat),((mkS s==mkS wd):Bool)=(wd==s):=fun s=>by
  by_cases h:s=wd
  ·subst h;simp
  ·have h1:(mkS s==mkS wd)=false:=by simpa using fun z:mkS s=mkS wd=>h (d8d z)
   have h2:(wd==s)=false:=by simpa using fun z:wd=s=>h z.symm
   rw [h1,h2]
 show ((mkS [102,105,101,108,100]==mkS wd)||((mkS [119,104,111]==mkS wd)||((mkS [108,101,116]==mkS wd)||((mkS [111,102]==mkS wd)||false))))=_
 rw [e,e,e,e]
 have hk:keys=[[102,105,101,108,100],[119,104,111],[108,101,116],[111,102]]:=by decide +kernel
 rw [hk,Bool.eq_iff_iff]
 simp [List.contains_iff_mem]
theorem dEy (T:FunT K mg "kind_of" vH) (hlen:mg "len"=none) (hL:∃ t,mg "LETTERS"=some (.str "abcdefghijklmnopqrstuvwxyz" t)) (hD:∃ t,mg "DIGITS"=some (.str "0123456789" t)) (hKW:∃ a,mg "KEPT_WORDS"=some (.ref a)∧∀ H,SqT K H a [V.str "field",V.str "who",V.str "let",V.str "of"])
  (hLW:∃ t,mg "LONGEST_WORD"=some (.int 15 t)) (hLN:∃ t,mg "LONGEST_NUMBER"=some (.int 5 t)) (hN:∃ t,mg "NAME"=some (.str "name" t)) (hU:∃ t,mg "NUMBER"=some (.str "number" t)) (hO:∃ t,mg "OTHER"=some (.str "other" t)) :
  DefOk P w K mg base 1 "kind_of" ["word"] dEB:=by
 obtain ⟨f,fd,F,hm⟩:=T.ex
 obtain ⟨t1,hL⟩:=hL
 obtain ⟨t2,hD⟩:=hD
 obtain ⟨ka,hKW,hsq⟩:=hKW
 obtain ⟨t3,hLW⟩:=hLW
 obtain ⟨t4,hLN⟩:=hLN
 obtain ⟨t5,hN⟩:=hN
 obtain ⟨t6,hU⟩:=hU
 obtain ⟨t7,hO⟩:=hO
 refine ⟨f,fd,hm,F.kp,F.binds (fun _ _ _ _ _ _ us hl=>match us,hl with | [_],_=>rfl),okN (k:=0) F dFF (fun vs H Q E h=>?_) (fun cdv A outer s H vs Q E hr h=>?_)⟩
 ·obtain ⟨wd,rfl,_⟩:=h
  rfl
 ·obtain ⟨wd,rfl,hne,hl,kq⟩:=h
  refine ⟨_,dA (gv (wx (dQ kC (je d2v (pv 0) dS (fun _ _=>rfl)) (da (v:=.str "abcdefghijklmnopqrstuvwxyz") (by rfl) hL ⟨t1,rfl⟩) (by rfl))
    (wx (dQ dDI (dP gn (by rfl) hlen PySem.boot_len (d0 (pv 0) dD)) (da (v:=.int 15) (by rfl) hLW ⟨t3,rfl⟩) (dW _))
     (wO (dQ d2o (pv 0) (da (v:=.ref ka) (by rfl) hKW rfl) (by rfl))))).pt (dE (dZ (da (v:=.str "name") (by rfl) hN ⟨t5,rfl⟩))) dq)
   (dA (gv (wx (dQ kC (je d2v (pv 0) dS (fun _ _=>rfl)) (da (v:=.str "0123456789") (by rfl) hD ⟨t2,rfl⟩) (by rfl))
    (wO (dQ dDI (dP gn (by rfl) hlen PySem.boot_len (d0 (pv 0) dD)) (da (v:=.int 5) (by rfl) hLN ⟨t4,rfl⟩) (dW _)))).pt (dE (dZ (da (v:=.str "number") (by rfl) hU ⟨t6,rfl⟩))) dq)
   (dE (dZ (da (v:=.str "other") (by rfl) hO ⟨t7,rfl⟩)))),?_⟩
  match wd,hne,hl,kq with
  | c::r,_,hl,kq=>
  have hsz:(mkS (c::r)).length≤sizeLine:=by rw [gA];exact Nat.le_trans hl (by decide)
  unfold dl at kq
  dsimp only at kq
  refine ⟨_,rfl,mkS (c::r),0,c,rfl,rfl,hsz,ku (j:=0) rfl,c,_,rfl,rfl,_,rfl,ite2 (fun h1=>?_) fun h1=>?_⟩
  ·rw [u8] at h1
   refine ⟨_,rfl,_,rfl,hsz,_,_,rfl,rfl,_,rfl,ite2 (fun h2=>?_) fun h2=>?_⟩
   ·have h2':(c::r).length≤15:=by
     have h3:((mkS (c::r)).length:Int)≤15:=of_decide_eq_true h2
     rw [gA] at h3
     omega
    refine ⟨_,rfl,ka,_,rfl,.inr (hsq H),rfl,rfl,_,rfl,ite2 (fun h3=>?_) fun h3=>?_⟩
    ·have h3':¬ keys.contains (c::r)=true:=by
      have:(!inV (V.str (mkS (c::r))) [V.str "field",V.str "who",V.str "let",V.str "of"])=true:=h3
      rw [d90] at this
      simpa using this
     rw [if_pos ⟨h1,h2',h3'⟩] at kq
     exact kq
    ·have hn:¬ (isSmall c=true∧(c::r).length≤15∧¬ keys.contains (c::r)=true):=fun z=>h3 (by
      show (!inV (V.str (mkS (c::r))) [V.str "field",V.str "who",V.str "let",V.str "of"])=true
      rw [d90]
      simpa using z.2.2)
     rw [if_neg hn] at kq
     refine ⟨_,rfl,mkS (c::r),0,c,rfl,rfl,hsz,ku (j:=0) rfl,c,_,rfl,rfl,_,rfl,ite2 (fun g1=>?_) fun g1=>?_⟩
     ·rw [gy] at g1
      refine ⟨_,rfl,_,rfl,hsz,_,_,rfl,rfl,_,rfl,ite2 (fun g2=>?_) fun g2=>?_⟩
      ·have g2':(c::r).length≤5:=by
        have g3:((mkS (c::r)).length:Int)≤5:=of_decide_eq_true g2
        rw [gA] at g3
        omega
       rw [if_pos ⟨g1,g2'⟩] at kq
       exact kq
      ·rw [if_neg fun z=>g2 (decide_eq_true (by rw [gA];have:=z.2;omega))] at kq
       exact kq
     ·rw [gy] at g1
      rw [if_neg fun z=>g1 z.1] at kq
      exact kq
   ·have hn:¬ (isSmall c=true∧(c::r).length≤15∧¬ keys.contains (c::r)=true):=fun z=>h2 (decide_eq_true (by rw [gA];have:=z.2.1;omega))
    refine iteF ?_
    rw [if_neg hn] at kq
    refine ⟨_,rfl,mkS (c::r),0,c,rfl,rfl,hsz,ku (j:=0) rfl,c,_,rfl,rfl,_,rfl,ite2 (fun g1=>?_) fun g1=>?_⟩
    ·rw [gy] at g1
     refine ⟨_,rfl,_,rfl,hsz,_,_,rfl,rfl,_,rfl,ite2 (fun g2=>?_) fun g2=>?_⟩
     ·have g2':(c::r).length≤5:=by
       have g3:((mkS (c::r)).length:Int)≤5:=of_decide_eq_true g2
       rw [gA] at g3
       omega
      rw [if_pos ⟨g1,g2'⟩] at kq
      exact kq
     ·rw [if_neg fun z=>g2 (decide_eq_true (by rw [gA];have:=z.2;omega))] at kq
      exact kq
    ·rw [gy] at g1
     rw [if_neg fun z=>g1 z.1] at kq
     exact kq
  ·rw [u8] at h1
   have hn:¬ (isSmall c=true∧(c::r).length≤15∧¬ keys.contains (c::r)=true):=fun z=>h1 z.1
   refine iteF ?_
   rw [if_neg hn] at kq
   refine ⟨_,rfl,mkS (c::r),0,c,rfl,rfl,hsz,ku (j:=0) rfl,c,_,rfl,rfl,_,rfl,ite2 (fun g1=>?_) fun g1=>?_⟩
   ·rw [gy] at g1
    refine ⟨_,rfl,_,rfl,hsz,_,_,rfl,rfl,_,rfl,ite2 (fun g2=>?_) fun g2=>?_⟩
    ·have g2':(c::r).length≤5:=by
      have g3:((mkS (c::r)).length:Int)≤5:=of_decide_eq_true g2
      rw [gA] at g3
      omega
     rw [if_pos ⟨g1,g2'⟩] at kq
     exact kq
    ·rw [if_neg fun z=>g2 (decide_eq_true (by rw [gA];have:=z.2;omega))] at kq
     exact kq
   ·rw [gy] at g1
    rw [if_neg fun z=>g1 z.1] at kq
    exact kq
end
end Pg
end
section
set_option linter.all false
set_option maxRecDepth 100000
set_option maxHeartbeats 4000000
namespace Pg
open PySem L2 Xc Sp Rb35
theorem dAy:("(":Str)=mkS [40]:=by decide +kernel
theorem dFc:(")":Str)=mkS [41]:=by decide +kernel
theorem dBv:(",":Str)=mkS [44]:=by decide +kernel
theorem dAZ:(";":Str)=mkS [59]:=by decide +kernel
theorem dFa:("=":Str)=mkS [61]:=by decide +kernel
theorem dEp:("&":Str)=mkS [38]:=by decide +kernel
theorem dE9:("|":Str)=mkS [124]:=by decide +kernel
theorem dFw:("of":Str)=mkS (ascii "of"):=by decide +kernel
theorem dAu:("let":Str)=mkS (ascii "let"):=by decide +kernel
theorem dEE:("who":Str)=mkS (ascii "who"):=by decide +kernel
theorem d98:("field":Str)=mkS (ascii "field"):=by decide +kernel
theorem wlit {w v:List Nat}{s:Str} (h:s=mkS v):mkS w=s↔w=v:=by
 rw [h]
 exact ⟨fun z=>d8d z,fun z=>by rw [z]⟩
theorem vlit {w v:List Nat}{s:Str} (h:s=mkS v):decide (V.str (mkS w)=V.str s)=decide (w=v):=by
 by_cases q:w=v
 ·rw [decide_eq_true q,decide_eq_true (by rw [h,q])]
 ·rw [decide_eq_false q,decide_eq_false fun z=>q ((wlit h).mp (by injection z))]
theorem dAb {w:List Nat}{s:Str}:decide (V.str (dl w)=V.str s)=decide (dl w=s):=by
 by_cases q:dl w=s
 ·rw [decide_eq_true q,decide_eq_true (by rw [q])]
 ·rw [decide_eq_false q,decide_eq_false fun z=>q (by injection z)]
section
variable {K:PySem.W.Frag}{cs:Cs}{E:XK}{σ:L2.St}{H:Hp}{Q:VK}{j:Nat}{r lt:Addr}{as:List Addr}{T:List PT}{i:Nat}{t:PT}
theorem v3 (clT:Cls K cs.tok) (naT:NoAt K cs.tok ["kind","word","place"]) (hσ:σ[j]?=some (some (.ref r))) (R:ReadAt cs H r lt as T i) (ht:T[i]?=some t) (k:Q (.str (mkS t.1)) H) :
  tFld K (yu cs.rea "now" (ug cs) [] E (tVar j) tNil) "word" σ H Q:=by
 obtain ⟨dx,ob⟩:=R.ob
 refine ⟨_,hσ,r,dx,_,rfl,ob,jn _ _ (by decide +kernel) (by decide +kernel),r,lt,as,T,i,t,rfl,R,ht,fun a ta=>?_⟩
 obtain ⟨dt,hta⟩:=ta
 exact ⟨a,cs.tok,dt,_,_,rfl,hta,clT,naT _ (by simp),jd _ _ _,k⟩
theorem vZ (clT:Cls K cs.tok) (naT:NoAt K cs.tok ["kind","word","place"]) (hσ:σ[j]?=some (some (.ref r))) (R:ReadAt cs H r lt as T i) (ht:T[i]?=some t) (k:Q (.str (dl t.1)) H) :
  tFld K (yu cs.rea "now" (ug cs) [] E (tVar j) tNil) "kind" σ H Q:=by
 obtain ⟨dx,ob⟩:=R.ob
 refine ⟨_,hσ,r,dx,_,rfl,ob,jn _ _ (by decide +kernel) (by decide +kernel),r,lt,as,T,i,t,rfl,R,ht,fun a ta=>?_⟩
 obtain ⟨dt,hta⟩:=ta
 exact ⟨a,cs.tok,dt,_,_,rfl,hta,clT,naT _ (by simp),ko _ _ _,k⟩
theorem g8 {m:Str}{sp:Sp}{tt:TA} (hσ:σ[j]?=some (some (.ref r))) (R:ReadAt cs H r lt as T i) (h1:¬ m="tokens") (h2:¬ m="at") (k:tt σ H fun vs H2=>sp (.ref r::(vs++[])) H2 Q E):yu cs.rea m sp [] E (tVar j) tt σ H Q:=by
 obtain ⟨dx,ob⟩:=R.ob
 exact ⟨_,hσ,r,dx,_,rfl,ob,jn _ _ h1 h2,k⟩
end
def rdm (T:List PT) (r:Addr) (H:Hp):Nat:=match H r with
 | some (.ins _ _ fs)=>match fs.lookup ("at":Str) with
  | some (.int j)=>T.length-j.toNat
  | _=>0
 | _=>0
theorem kU {T:List PT}{r C dx lt:Addr}{H:Hp}{i:Nat} (h:H r=some (.ins C dx (rdF lt (i:Int)))):rdm T r H=T.length-i:=by
 unfold rdm
 rw [h]
 show (match (rdF lt (i:Int)).lookup ("at":Str) with | some (.int j)=>T.length-j.toNat | _=>0)=_
 rw [dAs]
 rfl
theorem gH {H:Hp}{d x y:Addr}{o u:HO} (h:upd (upd H d o) x u y=none):H y=none:=by
 by_cases e:y=x
 ·rw [e,d9] at h;cases h
 ·rw [d8 e] at h
  by_cases e2:y=d
  ·rw [e2,d9] at h;cases h
  ·rw [d8 e2] at h;exact h
def Bot:List FraN→Prop
 | []=>False
 | [F]=>F.asked=0
 | _::G::r=>Bot (G::r)
theorem Bot.head {F F':FraN} (e:F'.asked=F.asked):∀ {r:List FraN},Bot (F::r)→Bot (F'::r)
 | [],h=>e.trans h
 | _::_,h=>h
structure Inn (st:List FraN):Prop where
 bot:Bot st
 pl:∀ F∈st,F.asked=0→F.fs=[]
theorem Inn.push {F:FraN}{r:List FraN} (h:Inn (F::r)) (k:Nat):Inn (FraN.empty k::F::r):=⟨h.bot,fun G hG _=>by
 rcases List.mem_cons.mp hG with rfl | hG
 ·rfl
 ·exact h.pl G hG (by assumption)⟩
theorem Inn.head {F F':FraN}{r:List FraN} (h:Inn (F::r)) (e:F'.asked=F.asked) (e2:F'.asked=0→F'.fs=[]):Inn (F'::r):=⟨h.bot.head e,fun G hG z=>by
 rcases List.mem_cons.mp hG with rfl | hG
 ·exact e2 z
 ·exact h.pl G (List.mem_cons_of_mem _ hG) z⟩
theorem Inn.tail {F G:FraN}{r:List FraN} (h:Inn (F::G::r)):Inn (G::r):=⟨h.bot,fun G hG z=>h.pl G (List.mem_cons_of_mem _ hG) z⟩
def bA (B:Bk) (ns:List dI) (st:List FraN) (t:Toks):Except Nat (Form×Toks):=match st with
 | []=>.error 0
 | F::r=>bAll B.known (F.den B.P ns) (r.map (FraN.den B.P ns)) t
def cA (B:Bk) (ns:List dI) (st:List FraN) (t:Toks):Except Nat (Form×Toks):=match st with
 | []=>.error 0
 | F::r=>cAll B.known (F.den B.P ns) (r.map (FraN.den B.P ns)) t
def dCE (cs:Cs):Sp:=fun vs H Q E=>∃ (H0:Hp) (r lt:Addr) (as:List Addr) (T:List PT) (i:Nat) (b:Addr) (A:BkA) (p:Nat) (B:Bk) (ns:List dI) (bl:Addr) (bas:List BrA) (st:List FraN) (t:PT),vs=[.ref r,.ref bl] ∧
 FSt cs H0 H r lt as T i b A p B ns bl (obs bas).reverse bas st∧PSt B ns st∧Inn st∧Fw ns st (4*i)∧TOk T∧T[i]?=some t ∧
 (∀ (H':Hp) (i':Nat) (bas':List BrA) (st':List FraN) (t':PT),FSt cs H0 H' r lt as T i' b A p B ns bl (obs bas').reverse bas' st'→PSt B ns st'→Inn st'→Fw ns st' (4*i')→i≤i'→T[i']?=some t'→¬ t'.1=[40]→¬ dl t'.1="number" →
  bA B ns st (tk T i)=bA B ns st' (tk T i')→Q .non H') ∧
 (∀ k,bA B ns st (tk T i)=.error k→Thr E cs.cst (-100-(k:Int)))
def BgI (cs:Cs) (H0:Hp) (r lt:Addr) (as:List Addr) (T:List PT) (i:Nat) (b:Addr) (A:BkA) (p:Nat) (B:Bk) (ns:List dI) (bl:Addr) (st:List FraN):L2.St→Hp→Prop:=fun σ H'=>
 ∃ (i':Nat) (bas':List BrA) (st':List FraN) (t':PT) (x:Option V),σ=[some (.ref r),some (.ref bl),x]∧FSt cs H0 H' r lt as T i' b A p B ns bl (obs bas').reverse bas' st'∧PSt B ns st'∧Inn st'∧Fw ns st' (4*i')∧i≤i'∧T[i']?=some t' ∧
  bA B ns st (tk T i)=bA B ns st' (tk T i')
section
variable {P:Program}{w:World}{K:PySem.W.Frag}{mg:Str→Option Value}{base:Heap}{cs:Cs}
theorem dB5 {H0 H1 H2:Hp}{r lt b bl:Addr}{as:List Addr}{T:List PT}{i i1 j k p:Nat}{A:BkA}{B:Bk}{ns:List dI}{st:List FraN}{bas1:List BrA}{F1:FraN}{r1:List FraN}{u:PT}{D:Ends}{E':XK} (ob1:∃ dx,H1 r=some (.ins cs.rea dx (rdF lt (i1:Int))))
  (hD:∀ σ' H',BgI cs H0 r lt as T i b A p B ns bl st σ' H'∧rdm T r H' < rdm T r H1→D.nx σ' H') (S2:FSt cs H0 H2 r lt as T j b A p B ns bl (obs bas1).reverse bas1 (F1::r1)) (ps1:PSt B ns (F1::r1)) (inn1:Inn (F1::r1)) (fw1:Fw ns (F1::r1) (4*i1)) (hi1:i≤i1) (hl:T.length≤10000)
  (hij:i1 < j) (hu:T[j]?=some u) (e1:bA B ns st (tk T i)=bA B ns (F1::r1) (tk T i1)) (e2:bA B ns (F1::r1) (tk T i1)=bA B ns (FraN.empty k::F1::r1) (tk T j)) :
  dEL (tBM K "list" dAp (tVar 1) (dB9 (dEP cs.bra (uo cs) [] E' (dB9 (tVar 2) tNil)) tNil)) D [some (.ref r),some (.ref bl),some (.int (k:Int))] H2:=by
 have hjl:=(List.getElem?_eq_some_iff.mp hu).1
 refine ⟨_,rfl,.inl ⟨rfl,_,SqL.of S2.br.lst⟩,_,rfl,fun x dxn nx ndx nex=>?_⟩
 refine ⟨x,dxn,(k:Int),rfl,d9,fun fl bl' pl H3 h3 hfl hbl hpl nfl nbl npl nd k3=>⟨rfl,?_⟩⟩
 have s3:Same H2 H3:=Same.made nx ndx fun c o e hc=>k3 c o e (by simpa using hc)
 have few:((obs bas1).reverse.map V.ref).length < sizeLine:=by
  have l1:=Paired.length S2.br.at_
  have l2:(obs bas1).length=bas1.length:=List.length_map _
  rw [List.length_map,List.length_reverse,l2,l1]
  have:=fw1.dp
  exact Nat.lt_trans (show _ < 100000 by omega) dc
 refine ⟨bl,_,_,rfl,rfl,s3 _ _ S2.br.lst,few,?_⟩
 have S3:FSt cs H0 (upd H3 bl (.lst (((obs bas1).reverse++[x]).map V.ref))) r lt as T j b A p B ns bl ((obs bas1).reverse++[x]) (⟨x,fl,bl',pl⟩::bas1) (FraN.empty k::F1::r1):=
  (S2.add (a:=⟨x,fl,bl',pl⟩) (F:=FraN.empty k) s3 ⟨⟨dxn,h3⟩,hfl,hbl,hpl⟩ nx (fun y hy=>by
   simp only [BrA.lists,List.mem_cons,List.not_mem_nil,or_false] at hy
   rcases hy with rfl | rfl | rfl
   ·exact gH nfl
   ·exact gH nbl
   ·exact gH npl) nd).relist _
 have eo:(obs (⟨x,fl,bl',pl⟩::bas1)).reverse=(obs bas1).reverse++[x]:=by simp [obs]
 have ev:((obs bas1).reverse.map V.ref++[V.ref x])=((obs bas1).reverse++[x]).map V.ref:=by rw [List.map_append];rfl
 rw [ev]
 obtain ⟨dr,ob1⟩:=ob1
 obtain ⟨dr3,ob3⟩:=S3.ob
 refine hD _ _ ⟨⟨j,⟨x,fl,bl',pl⟩::bas1,FraN.empty k::F1::r1,u,_,rfl,by rw [eo];exact S3,ps1.push k,inn1.push k,⟨?_,fw1.wi,?_⟩,by omega,hu,e1.trans e2⟩,?_⟩
 ·have:=fw1.le
  rw [List.flatMap_cons]
  show ns.length+([]++(F1::r1).flatMap FraN.all).length≤_
  rw [List.nil_append]
  omega
 ·have:=fw1.dp
  show (F1::r1).length+1≤_
  omega
 ·rw [kU ob1,kU ob3]
  omega
theorem sc_begin:FnScope ["reader","brackets","asked"] ["reader","brackets"] (dB jD):=⟨rfl,rfl,rfl,by decide +kernel,rfl,by decide +kernel,by decide +kernel⟩
theorem dCq (co:CsOk cs) (T:FunT K mg "begin_brackets" jD) (cl:Cls K cs.rea) (clT:Cls K cs.tok) (naT:NoAt K cs.tok ["kind","word","place"]) (hN:∃ t,mg "NUMBER"=some (.str "number" t))
  (NW:MetOk P w K mg base 1 cs.rea "now" ["self"] (ug cs)) (TA:MetOk P w K mg base 5 cs.rea "take_asked" ["self"] (dBJ cs)) (TW:MetOk P w K mg base 5 cs.rea "take_written" ["self","word"] (kA cs))
  (BR:ClaOk P w K mg base 1 "Bracket" cs.bra ["self","asked"] (uo cs)):DefOk P w K mg base 6 "begin_brackets" ["reader","brackets"] (dCE cs):=by
 obtain ⟨f,fd,F,hm⟩:=T.ex
 obtain ⟨tn,hN⟩:=hN
 refine ⟨f,fd,hm,F.kp,F.binds (fun _ _ _ _ _ _ us hl=>match us,hl with | [_,_],_=>rfl),okX F sc_begin (fun vs H Q E h=>?_) (fun cdv A outer s H vs Q E hr h=>?_)⟩
 ·obtain ⟨H0,r,lt,as,T,i,b,A,p,B,ns,bl,bas,st,t,rfl,_⟩:=h
  rfl
 ·obtain ⟨H0,r,lt,as,T,i,b,Ad,p,B,ns,bl,bas,st,t,rfl,S,ps,inn,fw,tok,ht,kq,kx⟩:=h
  refine ⟨_,dE (jS PassesOwn.leaving (dA0 (dQ kL (dM (gX (pv 0) cl (NW.mono (by decide:1≤5)) hr dG) rfl) gQ (dW _)) (yD (dQ kL (dM (gX (pv 0) cl (NW.mono (by decide:1≤5)) hr dG) rfl) (da (v:=.str "number") (by rfl) hN ⟨tn,rfl⟩) (dW _)))).pt
   (dA (dX (i:=2) sc_begin.nd rfl (Or.inl rfl) dS)
   (dA (gv (dQ kL (dM (gX (pv 0) cl (NW.mono (by decide:1≤5)) hr dG) rfl) (da (v:=.str "number") (by rfl) hN ⟨tn,rfl⟩) (dW _))
    (dA (dX (i:=2) sc_begin.nd rfl (Or.inl rfl) (gX (pv 0) cl TA hr dY)) (dE (dN (di (pv 0) cl TW hr dY (d0 gQ dD))))) dq)
   (dA (dN (di (pv 0) cl TW hr dY (d0 gQ dD)))
   (dE (dN (kZ PySem.F.plainAttrs_list PySem.F.slot_list_append PySem.F.type_list_append g7 (pv 1) (d0 (wI (BR.mono (by decide:1≤4)) hr rfl dG (d0 (pv 2) dD)) dD)))))))),?_⟩
  refine kH (BgI cs H0 r lt as T i b Ad p B ns bl st) (fun _ H'=>rdm T r H') ⟨i,bas,st,t,none,rfl,S,ps,inn,fw,Nat.le_refl _,ht,rfl⟩ ?_
  rintro σ H1 ⟨i1,bas1,st1,t1,x1,rfl,S1,ps1,inn1,fw1,hi1,ht1,e1⟩
  match st1,inn1,ps1,S1,fw1,e1 with
  | [],inn1,_,_,_,_=>exact absurd inn1.bot (by simp [Bot])
  | F1::r1,inn1,ps1,S1,fw1,e1=>
  have kx':∀ k,bA B ns (F1::r1) (tk T i1)=.error k→Thr E cs.cst (-100-(k:Int)):=fun k hk=>kx k (e1.trans hk)
  have nxt:t1.1≠[]→∃ u,T[i1+1]?=some u:=tok.next i1 t1 ht1
  refine v3 clT naT rfl S1.rd ht1 ⟨rfl,_,rfl,ite2 (fun hc=>?_) fun hc=>?_⟩
  ·rw [vlit dAy] at hc
   have h40:=of_decide_eq_true hc
   obtain ⟨u,hu⟩:=nxt (by rw [h40];simp)
   refine iteT (wgo ?_)
   refine vZ clT naT rfl S1.rd ht1 ⟨rfl,_,rfl,ite2 (fun hk=>?_) fun hk=>?_⟩
   ·exfalso
    rw [dAb,h40] at hk
    exact absurd hk (by decide +kernel)
   refine g8 rfl S1.rd (by decide +kernel) (by decide +kernel) ?_
   refine ⟨r,lt,as,T,i1,t1,_,rfl,S1.rd,ht1,fun hq H2 R2 k2=>?_,fun hq=>absurd ((wlit dAy).mpr h40) hq⟩
   exact dB5 (k:=0) S1.ob (fun σ' H' q=>q) (S1.moved co R2 k2) ps1 inn1 fw1 hi1 tok.few (Nat.lt_succ_self _) hu e1 (dEv ht1 h40)
  ·rw [vlit dAy] at hc
   have h40:¬ t1.1=[40]:=fun z=>hc (decide_eq_true z)
   refine vZ clT naT rfl S1.rd ht1 ⟨rfl,_,rfl,ite2 (fun hk=>?_) fun hk=>?_⟩
   ·rw [dAb] at hk
    have hk':=of_decide_eq_true hk
    obtain ⟨u,hu⟩:=nxt (fun z=>by rw [z] at hk';exact absurd hk' (by decide +kernel))
    refine wgo ?_
    refine vZ clT naT rfl S1.rd ht1 ⟨rfl,_,rfl,ite2 (fun _=>?_) fun hn=>?_⟩
    ·refine g8 rfl S1.rd (by decide +kernel) (by decide +kernel) ?_
     refine ⟨r,lt,as,T,i1,t1,rfl,S1.rd,tok,ht1,fun hq H2 R2 k2=>?_,fun hq=>?_⟩
     ·have S2:=S1.moved co R2 k2
      refine g8 rfl S2.rd (by decide +kernel) (by decide +kernel) ?_
      refine ⟨r,lt,as,T,i1+1,u,_,rfl,S2.rd,hu,fun hq2 H3 R3 k3=>?_,fun hq2=>?_⟩
      ·have hof:=(wlit dFw).mp hq2
       obtain ⟨v,hv⟩:=tok.next (i1+1) u hu (by rw [hof];decide)
       have S3:=S2.moved co R3 k3
       refine g8 rfl S3.rd (by decide +kernel) (by decide +kernel) ?_
       refine ⟨r,lt,as,T,i1+2,v,_,rfl,S3.rd,hv,fun hq3 H4 R4 k4=>?_,fun hq3=>?_⟩
       ·have hp:=(wlit dAy).mp hq3
        obtain ⟨y,hy⟩:=tok.next (i1+2) v hv (by rw [hp];simp)
        exact dB5 (k:=valueOf t1.1) S1.ob (fun σ' H' q=>q) (S3.moved co R4 k4) ps1 inn1 fw1 hi1 tok.few (by omega) hy e1 (dCT ht1 hu hv hk' hq.2 hof hp)
       ·exact kx' _ (dDM ht1 hu hv hk' hq.2 hof fun z=>hq3 ((wlit dAy).mpr z))
      ·exact kx' _ (dEe ht1 hu hk' hq.2 fun z=>hq2 ((wlit dFw).mpr z))
     ·exact kx' _ (dEb ht1 hk' (Decidable.byContradiction fun z=>hq ⟨hk',z⟩))
    ·exact absurd (by rw [dAb];exact decide_eq_true hk') hn
   ·rw [dAb] at hk
    have hk':¬ dl t1.1="number":=fun z=>hk (decide_eq_true z)
    exact kq H1 i1 bas1 (F1::r1) t1 S1 ps1 inn1 fw1 hi1 ht1 h40 hk' e1
end
end Pg
end
section
set_option linter.all false
set_option maxRecDepth 100000
set_option maxHeartbeats 4000000
namespace Pg
open PySem L2 Xc Sp Rb35
theorem wK (P:Nat) (ns:List dI) (G:FraN) (x:Nat):FraN.den P ns { G with ps:=G.ps++[x] }={ FraN.den P ns G with ps:=(FraN.den P ns G).ps++[den P ns x] }:=by
 unfold FraN.den
 rw [List.map_append]
 rfl
section
variable {B:Bk}{ns:List dI}{F G:FraN}{r:List FraN}{T:List PT}{i:Nat}{t:PT}
theorem dCm (S:PSt B ns (F::G::r)) (hp:F.ps≠[]) (h0:F.asked=0) (hf:F.fs=[]) (ht:T[i]?=some t) (h41:t.1=[41]) :
  cA B ns (F::G::r) (tk T i)=cA B (clNs (efNs B.P ns F) (gG B.P ns F)) ({ G with ps:=G.ps++[clAt B.P (efNs B.P ns F) (gG B.P ns F)] }::r) (tk T (i+1))∧PSt B (clNs (efNs B.P ns F) (gG B.P ns F)) ({ G with ps:=G.ps++[clAt B.P (efNs B.P ns F) (gG B.P ns F)] }::r):=by
 obtain ⟨d1,d2,d3⟩:=S.ef_den hp
 have e1:clNs (efNs B.P ns F) (gG B.P ns F)=efNs B.P ns F:=if_pos h0
 have e2:clAt B.P (efNs B.P ns F) (gG B.P ns F)=efAt B.P ns F:=by
  rw [clAt,if_pos (show (gG B.P ns F).asked=0 from h0)]
  show (F.fs++[efAt B.P ns F]).headD 0=_
  rw [hf]
  rfl
 rw [e1,e2]
 refine ⟨?_,(S.ef hp).close ⟨rfl,rfl⟩ (by show F.fs++_=_;rw [hf];rfl)⟩
 show cAll B.known (F.den B.P ns) (G.den B.P ns::r.map (FraN.den B.P ns)) (tk T i)=cAll B.known (FraN.den B.P (efNs B.P ns F) { G with ps:=G.ps++[efAt B.P ns F] }) (r.map (FraN.den B.P (efNs B.P ns F))) (tk T (i+1))
 rw [jX (by decide) ht h41,dF4 _ h0,wK,d1]
 rw [List.map_cons,List.map_cons] at d3
 injection d3 with d3 d4
 rw [d3,d4]
 rfl
theorem dC6 (S:PSt B ns (F::G::r)) (hp:F.ps≠[]) (h0:F.asked≠0) (hk:F.asked≤F.fs.length+1) (ht:T[i]?=some t) (h41:t.1=[41]) :
  cA B ns (F::G::r) (tk T i)=cA B (clNs (efNs B.P ns F) (gG B.P ns F)) ({ G with ps:=G.ps++[clAt B.P (efNs B.P ns F) (gG B.P ns F)] }::r) (tk T (i+1))∧PSt B (clNs (efNs B.P ns F) (gG B.P ns F)) ({ G with ps:=G.ps++[clAt B.P (efNs B.P ns F) (gG B.P ns F)] }::r):=by
 obtain ⟨d1,d2,d3⟩:=S.ef_den hp
 have S1:=S.ef hp
 have e1:clNs (efNs B.P ns F) (gG B.P ns F)=efNs B.P ns F++[(F.asked,F.fs++[efAt B.P ns F])]:=if_neg h0
 have e2:clAt B.P (efNs B.P ns F) (gG B.P ns F)=B.P+(efNs B.P ns F).length:=if_neg h0
 rw [e1,e2]
 have hl:F.asked≤(F.fs++[efAt B.P ns F]).length:=by rw [List.length_append];simpa using hk
 refine ⟨?_,S1.closeK ⟨rfl,rfl⟩ (by show 1≤F.asked;omega) hl⟩
 have dfs:(F.fs++[efAt B.P ns F]).map (den B.P (efNs B.P ns F))=F.fs.map (den B.P ns)++[grp 2 (F.bs.map (den B.P ns)++[grp 1 (F.ps.map (den B.P ns))])]:=congrArg Fra.fs d2
 have dn:den B.P (efNs B.P ns F++[(F.asked,F.fs++[efAt B.P ns F])]) (B.P+(efNs B.P ns F).length)=.some_ F.asked (ofL (F.fs.map (den B.P ns)++[grp 2 (F.bs.map (den B.P ns)++[grp 1 (F.ps.map (den B.P ns))])])):=by
  rw [uN,dfs]
 have ext:=d8t (ns:=efNs B.P ns F) (P:=B.P) (l:=G::r) (more:=[(F.asked,F.fs++[efAt B.P ns F])]) fun i hi=>S1.lt i (uA hi)
 rw [d3,List.map_cons,List.map_cons] at ext
 injection ext with x1 x2
 show cAll B.known (F.den B.P ns) (G.den B.P ns::r.map (FraN.den B.P ns)) (tk T i)=cAll B.known (FraN.den B.P (efNs B.P ns F++[(F.asked,F.fs++[efAt B.P ns F])]) { G with ps:=G.ps++[B.P+(efNs B.P ns F).length] }) (r.map (FraN.den B.P (efNs B.P ns F++[(F.asked,F.fs++[efAt B.P ns F])]))) (tk T (i+1))
 rw [jX (by decide) ht h41,dD0 _ (by exact h0) (by
  show F.asked≤(F.fs.map (den B.P ns)++[_]).length
  rw [List.length_append,List.length_map]
  simpa using hk),wK,dn,x1,x2]
 rfl
theorem dG4 (h0:F.asked≠0) (hk:F.fs.length+1 < F.asked) (ht:T[i]?=some t) (h41:t.1=[41]):cA B ns (F::G::r) (tk T i)=.error t.2:=by
 show cAll B.known (F.den B.P ns) (G.den B.P ns::r.map (FraN.den B.P ns)) (tk T i)=_
 rw [jX (by decide) ht h41]
 refine dGb _ (by exact h0) ?_
 show (F.fs.map (den B.P ns)++[_]).length < F.asked
 rw [List.length_append,List.length_map]
 simpa using hk
end
def dDm (cs:Cs):Sp:=fun vs H Q E=>∃ (H0:Hp) (r lt:Addr) (as:List Addr) (T:List PT) (i:Nat) (b:Addr) (A:BkA) (p:Nat) (B:Bk) (ns:List dI) (bl:Addr) (bas:List BrA) (F:FraN) (st:List FraN) (t:PT),vs=[.ref r,.ref bl,.ref b] ∧
 FSt cs H0 H r lt as T i b A p B ns bl (obs bas).reverse bas (F::st)∧PSt B ns (F::st)∧F.ps≠[]∧Inn (F::st)∧Fw ns (F::st) (4*i)∧TOk T∧T[i]?=some t ∧
 (∀ (H':Hp) (i':Nat) (A':BkA) (ns':List dI) (bas':List BrA) (F':FraN) (st':List FraN) (t':PT),FSt cs H0 H' r lt as T i' b A' p B ns' bl (obs bas').reverse bas' (F'::st')→PSt B ns' (F'::st')→F'.ps≠[]→Inn (F'::st')→Fw ns' (F'::st') (4*i')→i≤i'→T[i']?=some t' →
  (¬ t'.1=[41]∨st'=[])→cA B ns (F::st) (tk T i)=cA B ns' (F'::st') (tk T i')→Q .non H') ∧
 (∀ k,cA B ns (F::st) (tk T i)=.error k→Thr E cs.cst (-100-(k:Int)))
def ShI (cs:Cs) (H0:Hp) (r lt:Addr) (as:List Addr) (T:List PT) (i:Nat) (b:Addr) (p:Nat) (B:Bk) (ns:List dI) (bl:Addr) (st:List FraN):L2.St→Hp→Prop:=fun σ H'=>
 ∃ (i':Nat) (A':BkA) (ns':List dI) (bas':List BrA) (F':FraN) (st':List FraN) (t':PT) (x:Option V),σ=[some (.ref r),some (.ref bl),some (.ref b),x]∧FSt cs H0 H' r lt as T i' b A' p B ns' bl (obs bas').reverse bas' (F'::st')∧PSt B ns' (F'::st')∧F'.ps≠[]∧Inn (F'::st') ∧
  Fw ns' (F'::st') (4*i')∧i≤i'∧T[i']?=some t'∧cA B ns st (tk T i)=cA B ns' (F'::st') (tk T i')
section
variable {P:Program}{w:World}{K:PySem.W.Frag}{mg:Str→Option Value}{base:Heap}{cs:Cs}
theorem sc_shut:FnScope ["reader","brackets","book","bracket"] ["reader","brackets","book"] (dB jC):=⟨rfl,rfl,rfl,by decide +kernel,rfl,by decide +kernel,by decide +kernel⟩
theorem dEI (co:CsOk cs) (T:FunT K mg "close_brackets" jC) (cl:Cls K cs.rea) (clT:Cls K cs.tok) (naT:NoAt K cs.tok ["kind","word","place"]) (clBr:Cls K cs.bra) (naBr:NoAt K cs.bra ["asked","formulas","boths","parts"]) (hlen:mg "len"=none)
  (NW:MetOk P w K mg base 1 cs.rea "now" ["self"] (ug cs)) (TK:MetOk P w K mg base 4 cs.rea "take" ["self","stands"] (ui cs)) (EF:MetOk P w K mg base 6 cs.bra "end_formula" ["self","book"] (jp cs))
  (CL:DefOk P w K mg base 4 "closed" ["bracket","book"] (d9c cs)):DefOk P w K mg base 7 "close_brackets" ["reader","brackets","book"] (dDm cs):=by
 obtain ⟨f,fd,F,hm⟩:=T.ex
 refine ⟨f,fd,hm,F.kp,F.binds (fun _ _ _ _ _ _ us hl=>match us,hl with | [_,_,_],_=>rfl),okX F sc_shut (fun vs H Q E h=>?_) (fun cdv A outer s H vs Q E hr h=>?_)⟩
 ·obtain ⟨H0,r,lt,as,T,i,b,A,p,B,ns,bl,bas,F,st,t,rfl,_⟩:=h
  rfl
 ·obtain ⟨H0,r,lt,as,T,i,b,Ad,p,B,ns,bl,bas,F0,st0,t,rfl,S,ps,hps,inn,fw,tok,ht,kq,kx⟩:=h
  refine ⟨_,dE (jS PassesOwn.leaving (wx (dQ kL (dM (gX (pv 0) cl (NW.mono (by decide:1≤6)) hr dG) rfl) gQ (dW _)) (wO (dQ yq (dP dJ (by rfl) hlen PySem.boot_len (d0 (pv 1) dD)) dS (dW _)))).pt
   (dA (dX (i:=3) sc_shut.nd rfl (Or.inl rfl) (dBH PySem.F.plainAttrs_list PySem.F.slot_list_pop PySem.F.type_list_pop dE5 (pv 1)))
   (dA (dN (di (pv 3) clBr EF hr dG (d0 (pv 2) dD)))
   (dA (dN (di (pv 0) cl (TK.mono (by decide:4≤6)) hr dY (d0 (gi dDI (dM (pv 3) rfl) (dP dJ (by rfl) hlen PySem.boot_len (d0 (dM (pv 3) rfl) dD)) (dW _)) dD)))
   (dE (dN (kZ PySem.F.plainAttrs_list PySem.F.slot_list_append PySem.F.type_list_append g7 (dM (je gj (pv 1) (d8U vt dS) (fun _ _=>rfl)) rfl)
    (d0 (dj (CL.mono (by decide:4≤6)) hr rfl dG (d0 (pv 3) (d0 (pv 2) dD))) dD)))))))),?_⟩
  refine kH (ShI cs H0 r lt as T i b p B ns bl (F0::st0)) (fun _ H'=>rdm T r H') ⟨i,Ad,ns,bas,F0,st0,t,none,rfl,S,ps,hps,inn,fw,Nat.le_refl _,ht,rfl⟩ ?_
  rintro σ H1 ⟨i1,A1,ns1,bas1,F1,st1,t1,x1,rfl,S1,ps1,hps1,inn1,fw1,hi1,ht1,e1⟩
  have hil:=(List.getElem?_eq_some_iff.mp ht1).1
  have hTl:=tok.few
  refine v3 clT naT rfl S1.rd ht1 ⟨rfl,_,rfl,ite2 (fun hc=>?_) fun hc=>?_⟩
  ·rw [vlit dFc] at hc
   have h41:=of_decide_eq_true hc
   obtain ⟨u,hu⟩:=tok.next i1 t1 ht1 (by rw [h41];simp)
   refine ⟨_,rfl,_,_,rfl,.inl (SqL.of S1.br.lst),_,_,rfl,rfl,_,rfl,ite2 (fun hc2=>?_) fun hc2=>?_⟩
   ·have hl1:(1:Int) < (((obs bas1).reverse.map V.ref).length:Int):=of_decide_eq_true hc2
    have lb:((obs bas1).reverse.map V.ref).length=bas1.length:=by rw [List.length_map,List.length_reverse];exact List.length_map _
    have ls:=Paired.length S1.br.at_
    rw [lb,ls] at hl1
    match bas1,st1,ps1,inn1,fw1,S1,e1,hl1,ls,lb with
    | [],st1,_,_,_,S1,_,_,ls,_=>exact absurd ls (by simp)
    | [a],st1,_,_,_,S1,_,hl1,ls,_=>exact absurd ls (by simp only [List.length_cons,List.length_nil] at hl1 ⊢;omega)
    | a::g::bas1,[],_,_,_,S1,_,_,ls,_=>exact absurd ls (by simp)
    | a::g::bas1,G::st1,ps1,inn1,fw1,S1,e1,hl1,ls,lb=>
    obtain ⟨dr1,obr1⟩:=S1.ob
    refine wgo ?_
    have er:(obs (a::g::bas1)).reverse=(obs (g::bas1)).reverse++[a.ob]:=by simp [obs]
    have lst1:H1 bl=some (.lst ((obs (g::bas1)).reverse.map V.ref++[V.ref a.ob])):=by rw [S1.br.lst,er,List.map_append];rfl
    refine ⟨_,rfl,.inl ⟨rfl,_,SqL.of lst1⟩,bl,_,V.ref a.ob,rfl,rfl,lst1,?_,?_⟩
    ·rw [List.length_append,List.length_singleton,Nat.add_sub_cancel,List.getElem?_append_right (Nat.le_refl _),Nat.sub_self]
     rfl
    rw [List.dropLast_concat]
    have S2:=S1.relist (obs (g::bas1)).reverse
    obtain ⟨dh,hob⟩:=S2.head.1.ob
    refine ⟨_,rfl,a.ob,dh,_,rfl,hob,d7G _ _ _ _ (by decide +kernel) (by decide +kernel) (by decide +kernel) (by decide +kernel),_,rfl,?_⟩
    refine ⟨a,F1,b,A1,p,{ B with ns:=ns1 },rfl,S2.pair fw1 (by omega),fun A2 vs2 bl2 pl2 H3 br3 bk3 g3 hv3 nd3 nbl npl nbp k3=>?_⟩
    have fl1:=S2.facts.1
    unfold BrA.lists at fl1
    simp only [List.nodup_cons,List.mem_cons,List.not_mem_nil,or_false,not_or] at fl1
    have sfl:(upd H1 bl (.lst ((obs (g::bas1)).reverse.map V.ref))) a.fl≠none:=by rw [S2.head.1.fs];simp
    have S3:=S2.swap (a':={ a with bl:=bl2,pl:=pl2 }) (ns':=efNs B.P ns1 F1) rfl k3 br3 bk3 g3 (fun y hy=>by
      simp only [BrA.lists,List.mem_cons,List.not_mem_nil,or_false]
      rcases hv3 y hy with e | e
      ·exact .inr (.inr e)
      ·exact .inr (.inl e)) (fun y hy=>by
      simp only [BrA.lists,List.mem_cons,List.not_mem_nil,or_false] at hy
      rcases hy with rfl | rfl | rfl
      ·refine .inl ⟨by simp [BrA.lists],fun z=>?_⟩
       rcases hv3 _ z with e | e
       ·exact fl1.1.2 e
       ·exact fl1.1.1 e
      ·exact .inr nbl
      ·exact .inr npl) (by
      simp only [BrA.lists,List.nodup_cons,List.mem_cons,List.not_mem_nil,or_false,not_or,not_false_eq_true,List.nodup_nil,and_true]
      exact ⟨⟨fun z=>sfl (by rw [z];exact nbl),fun z=>sfl (by rw [z];exact npl)⟩,nbp⟩)
    have fw3:=fw1.ef (P:=B.P) hps1 (by omega)
    have ps3:=ps1.ef hps1
    obtain ⟨dh3,hob3⟩:=S3.head.1.ob
    refine g8 rfl S3.rd (by decide +kernel) (by decide +kernel) ?_
    refine ⟨_,rfl,a.ob,cs.bra,dh3,_,_,rfl,hob3,clBr,naBr _ (by simp),uk _ _ _ _,_,rfl,a.ob,cs.bra,dh3,_,_,rfl,hob3,clBr,naBr _ (by simp),jG _ _ _ _,_,_,rfl,.inl (SqL.of S3.head.1.fs),_,_,rfl,rfl,?_⟩
    have hlen3:(nV (gG B.P ns1 F1).fs).length=F1.fs.length+1:=by rw [dH];show (F1.fs++[_]).length=_;simp
    have hcl:decide (((gG B.P ns1 F1).asked:Int)≤((nV (gG B.P ns1 F1).fs).length:Int))=decide (F1.asked≤F1.fs.length+1):=by
     rw [hlen3]
     by_cases z:F1.asked≤F1.fs.length+1
     ·rw [decide_eq_true z,decide_eq_true]
      show (F1.asked:Int)≤_
      omega
     ·rw [decide_eq_false z,decide_eq_false]
      show ¬ (F1.asked:Int)≤_
      omega
    refine ⟨r,lt,as,T,i1,t1,_,rfl,S3.rd,ht1,fun hq H4 R4 k4=>?_,fun hq=>?_⟩
    ·have hk:F1.asked≤F1.fs.length+1:=by
      have hq':decide (((gG B.P ns1 F1).asked:Int)≤((nV (gG B.P ns1 F1).fs).length:Int))=true:=hq
      rw [hcl] at hq'
      exact of_decide_eq_true hq'
     have S4:=S3.moved co R4 k4
     obtain ⟨dh4,hob4⟩:=S4.head.1.ob
     have tl4:=S4.head.2
     cases tl4 with
     | cons bg4 tl4=>
     obtain ⟨dg4,hog4⟩:=bg4.ob
     have lst4:H4 bl=some (.lst (((obs bas1).reverse.map V.ref)++[V.ref g.ob])):=by
      rw [S4.br.lst]
      have:(obs (g::bas1)).reverse=(obs bas1).reverse++[g.ob]:=by simp [obs]
      rw [this,List.map_append]
      rfl
     refine ⟨_,rfl,_,rfl,bl,_,_,V.ref g.ob,rfl,rfl,SqL.of lst4,ya _ _,g.ob,cs.bra,dg4,_,_,rfl,hog4,clBr,naBr _ (by simp),um _ _ _ _,.inl ⟨rfl,_,SqL.of bg4.ps⟩,_,rfl,_,rfl,?_⟩
     have hfne:(gG B.P ns1 F1).fs≠[]:=by show F1.fs++[_]≠[];simp
     have fle3:=fw3.le
     refine ⟨{ a with bl:=bl2,pl:=pl2 },gG B.P ns1 F1,b,A2,p,{ B with ns:=efNs B.P ns1 F1 },rfl,S4.head.1,S4.bk,(S4.facts.2.1 _ (by simp [BrA.lists])).1,hfne,by show (efNs B.P ns1 F1).length < 100000;omega,fun A5 vs5 H5 bk5 g5 hv5 hl5 k5=>?_⟩
     have S5:=S4.gone (ns':=clNs (efNs B.P ns1 F1) (gG B.P ns1 F1)) k5 bk5 g5 hv5
     have fw5:=fw3.cl (P:=B.P) (x:=clAt B.P (efNs B.P ns1 F1) (gG B.P ns1 F1)) (by show 1≤(F1.fs++[_]).length;simp) (by omega)
     have hG:=fw1.le
     rw [List.flatMap_cons,List.flatMap_cons,List.length_append,List.length_append,jw G] at hG
     refine ⟨g.pl,_,_,rfl,rfl,S5.head.1.ps,?_,?_⟩
     ·rw [dH]
      exact Nat.lt_trans (show _ < 100000 by omega) dc
     have S6:=S5.part (clAt B.P (efNs B.P ns1 F1) (gG B.P ns1 F1))
     obtain ⟨dr6,ob6⟩:=S6.ob
     have key:cA B ns1 (F1::G::st1) (tk T i1)=cA B (clNs (efNs B.P ns1 F1) (gG B.P ns1 F1)) ({ G with ps:=G.ps++[clAt B.P (efNs B.P ns1 F1) (gG B.P ns1 F1)] }::st1) (tk T (i1+1))∧PSt B (clNs (efNs B.P ns1 F1) (gG B.P ns1 F1)) ({ G with ps:=G.ps++[clAt B.P (efNs B.P ns1 F1) (gG B.P ns1 F1)] }::st1):=by
      by_cases h0:F1.asked=0
      ·exact dCm ps1 hps1 h0 (inn1.pl F1 (by simp) h0) ht1 h41
      ·exact dC6 ps1 hps1 h0 hk ht1 h41
     refine ⟨⟨i1+1,A5,_,g::bas1,{ G with ps:=G.ps++[clAt B.P (efNs B.P ns1 F1) (gG B.P ns1 F1)] },st1,u,_,rfl,S6,key.2,by simp,inn1.tail.head rfl (fun z=>inn1.pl G (by simp) z),fw5.mono (by omega),by omega,hu,e1.trans key.1⟩,?_⟩
     refine Nat.lt_of_le_of_lt (Nat.le_of_eq (kU ob6)) ?_
     rw [kU obr1]
     omega
    ·have hk:¬ F1.asked≤F1.fs.length+1:=by
      have hq':decide (((gG B.P ns1 F1).asked:Int)≤((nV (gG B.P ns1 F1).fs).length:Int))=false:=hq
      rw [hcl] at hq'
      exact of_decide_eq_false hq'
     exact kx _ (e1.trans (dG4 (by omega) (by omega) ht1 h41))
   ·have hl1:¬ (1:Int) < (((obs bas1).reverse.map V.ref).length:Int):=fun z=>hc2 (decide_eq_true z)
    have lb:((obs bas1).reverse.map V.ref).length=bas1.length:=by rw [List.length_map,List.length_reverse];exact List.length_map _
    have ls:=Paired.length S1.br.at_
    rw [lb,ls,List.length_cons] at hl1
    exact kq H1 i1 A1 ns1 bas1 F1 st1 t1 S1 ps1 hps1 inn1 fw1 hi1 ht1 (.inr (List.eq_nil_of_length_eq_zero (by omega))) e1
  ·rw [vlit dFc] at hc
   exact iteF (kq H1 i1 A1 ns1 bas1 F1 st1 t1 S1 ps1 hps1 inn1 fw1 hi1 ht1 (.inl fun z=>hc (decide_eq_true z)) e1)
end
end Pg
end
section
set_option linter.all false
set_option maxRecDepth 100000
set_option maxHeartbeats 4000000
namespace Pg
open PySem L2 Xc Sp Rb35
section
variable {B:Bk}{ns:List dI}{F G:FraN}{r:List FraN}{T:List PT}{i:Nat}{t:PT}
theorem dGG (ht:T[i]?=some t) (h:t.1=[38]):cA B ns (F::r) (tk T i)=bA B ns (F::r) (tk T (i+1)):=by
 show cAll _ _ _ (tk T i)=_
 rw [jX (by decide) ht h,dGt]
 rfl
theorem dGj (S:PSt B ns (F::r)) (ht:T[i]?=some t) (h:t.1=[124]):cA B ns (F::r) (tk T i)=bA B (ebNs ns F) (j8 B.P ns F::r) (tk T (i+1)):=by
 obtain ⟨d1,d2⟩:=S.eb_den
 show cAll _ _ _ (tk T i)=bAll _ (FraN.den B.P (ebNs ns F) (j8 B.P ns F)) (r.map (FraN.den B.P (ebNs ns F))) _
 rw [jX (by decide) ht h,c_or,d1,d2]
 rfl
theorem dDW (S:PSt B ns (F::G::r)) (hp:F.ps≠[]) (h0:F.asked≠0) (ht:T[i]?=some t) (h:t.1=[44]):cA B ns (F::G::r) (tk T i)=bA B (efNs B.P ns F) (gG B.P ns F::G::r) (tk T (i+1)):=by
 obtain ⟨d1,d2,d3⟩:=S.ef_den hp
 show cAll _ _ _ (tk T i)=bAll _ (FraN.den B.P (efNs B.P ns F) (gG B.P ns F)) ((G::r).map (FraN.den B.P (efNs B.P ns F))) _
 rw [jX (by decide) ht h,d2,d3]
 exact dF2 _ (by exact h0) _
end
def d5y (cs:Cs):Sp:=fun vs H Q E=>∃ (H0:Hp) (r lt:Addr) (as:List Addr) (T:List PT) (i:Nat) (b:Addr) (A:BkA) (p:Nat) (B:Bk) (ns:List dI) (bl:Addr) (lo:List Addr) (a:BrA) (bas:List BrA) (F:FraN) (st:List FraN) (t:PT),vs=[.ref r,.ref a.ob,.ref b] ∧
 FSt cs H0 H r lt as T i b A p B ns bl lo (a::bas) (F::st)∧PSt B ns (F::st)∧F.ps≠[]∧Inn (F::st)∧Fw ns (F::st) (4*i)∧TOk T∧T[i]?=some t ∧
 (∀ (H':Hp) (A':BkA) (ns':List dI) (a':BrA) (F':FraN) (t':PT),FSt cs H0 H' r lt as T (i+1) b A' p B ns' bl lo (a'::bas) (F'::st)→a'.ob=a.ob→PSt B ns' (F'::st)→Inn (F'::st)→Fw ns' (F'::st) (4*(i+1))→T[i+1]?=some t' →
  cA B ns (F::st) (tk T i)=bA B ns' (F'::st) (tk T (i+1))→Q (.bl true) H') ∧
 (¬ t.1=[124]→¬ t.1=[38]→(¬ t.1=[44]∨F.asked=0)→Q (.bl false) H)
section
variable {P:Program}{w:World}{K:PySem.W.Frag}{mg:Str→Option Value}{base:Heap}{cs:Cs}
theorem sc_between:FnScope ["reader","bracket","book","word"] ["reader","bracket","book"] (dB jW):=⟨rfl,rfl,rfl,by decide +kernel,rfl,by decide +kernel,by decide +kernel⟩
theorem dAR (co:CsOk cs) (T:FunT K mg "read_between" jW) (cl:Cls K cs.rea) (clT:Cls K cs.tok) (naT:NoAt K cs.tok ["kind","word","place"]) (clBr:Cls K cs.bra) (naBr:NoAt K cs.bra ["asked","formulas","boths","parts"])
  (NW:MetOk P w K mg base 1 cs.rea "now" ["self"] (ug cs)) (TW:MetOk P w K mg base 5 cs.rea "take_written" ["self","word"] (kA cs)) (EB:MetOk P w K mg base 5 cs.bra "end_both" ["self","book"] (vc cs)) (EF:MetOk P w K mg base 6 cs.bra "end_formula" ["self","book"] (jp cs)) :
  DefOk P w K mg base 7 "read_between" ["reader","bracket","book"] (d5y cs):=by
 obtain ⟨f,fd,F,hm⟩:=T.ex
 refine ⟨f,fd,hm,F.kp,F.binds (fun _ _ _ _ _ _ us hl=>match us,hl with | [_,_,_],_=>rfl),okX F sc_between (fun vs H Q E h=>?_) (fun cdv A outer s H vs Q E hr h=>?_)⟩
 ·obtain ⟨H0,r,lt,as,T,i,b,A,p,B,ns,bl,lo,a,bas,F,st,t,rfl,_⟩:=h
  rfl
 ·obtain ⟨H0,r,lt,as,T,i,b,Ad,p,B,ns,bl,lo,a,bas,F0,st,t,rfl,S,ps,hps,inn,fw,tok,ht,kq,kf⟩:=h
  refine ⟨_,dA (dX (i:=3) sc_between.nd rfl (Or.inl rfl) (dM (gX (pv 0) cl (NW.mono (by decide:1≤6)) hr dG) rfl))
   (dA (gv (dQ kL (pv 3) gQ (dW _)) (dE (dN (di (pv 1) clBr (EB.mono (by decide:5≤6)) hr dG (d0 (pv 2) dD))))
    (dE (gv (wx (dQ kL (pv 3) gQ (dW _)) (wO (dQ yq (dM (pv 1) rfl) dS (dW _)))).pt (dE (dN (di (pv 1) clBr EF hr dG (d0 (pv 2) dD))))
     (dE (gv (dQ d5B (pv 3) gQ (dW _)) (dE (dZ dBc)) dq)))))
   (dA (dN (di (pv 0) cl (TW.mono (by decide:5≤6)) hr dY (d0 (pv 3) dD)))
   (dE (dZ dBc)))),?_⟩
  have hil:=(List.getElem?_eq_some_iff.mp ht).1
  have hTl:=tok.few
  obtain ⟨dh,hob⟩:=S.head.1.ob
  have fl1:=S.facts.1
  unfold BrA.lists at fl1
  simp only [List.nodup_cons,List.mem_cons,List.not_mem_nil,or_false,not_or] at fl1
  have sfl:H a.fl≠none:=by rw [S.head.1.fs];simp
  have sbl:H a.bl≠none:=by rw [S.head.1.bs];simp
  refine v3 clT naT rfl S.rd ht ?_
  refine ⟨_,rfl,rfl,_,rfl,ite2 (fun hc=>?_) fun hc=>?_⟩
  ·rw [vlit dE9] at hc
   have h1:=of_decide_eq_true hc
   obtain ⟨u,hu⟩:=tok.next i t ht (by rw [h1];simp)
   refine ⟨_,rfl,a.ob,dh,_,rfl,hob,d7G _ _ _ _ (by decide +kernel) (by decide +kernel) (by decide +kernel) (by decide +kernel),_,rfl,?_⟩
   refine ⟨a,F0,b,Ad,p,{ B with ns:=ns },rfl,S.pair fw (by omega),fun A2 vs2 pl2 H2 br2 bk2 g2 hv2 hl2 npl k2=>?_⟩
   have S2:=S.swap (a':={ a with pl:=pl2 }) (ns':=ebNs ns F0) rfl (k2.mono fun x hx=>by simp at hx ⊢;rcases hx with rfl | rfl | rfl <;> simp) br2 bk2 g2 (fun y hy=>by rw [hv2 y hy];simp [BrA.lists]) (fun y hy=>by
     simp only [BrA.lists,List.mem_cons,List.not_mem_nil,or_false] at hy
     rcases hy with rfl | rfl | rfl
     ·exact .inl ⟨by simp [BrA.lists],fun z=>fl1.1.2 (hv2 _ z)⟩
     ·exact .inl ⟨by simp [BrA.lists],fun z=>fl1.2.1 (hv2 _ z)⟩
     ·exact .inr npl) (by
     simp only [BrA.lists,List.nodup_cons,List.mem_cons,List.not_mem_nil,or_false,not_or,not_false_eq_true,List.nodup_nil,and_true]
     exact ⟨⟨fl1.1.1,fun z=>sfl (by rw [z];exact npl)⟩,fun z=>sbl (by rw [z];exact npl)⟩)
   refine g8 rfl S2.rd (by decide +kernel) (by decide +kernel) ?_
   refine ⟨_,rfl,r,lt,as,T,i,t,_,rfl,S2.rd,ht,fun _ H3 R3 k3=>?_,fun hq=>absurd rfl hq⟩
   exact kq H3 A2 _ _ _ u (S2.moved co R3 k3) rfl (ps.eb hps) (inn.head rfl fun z=>inn.pl F0 (by simp) z) ((fw.eb (P:=B.P) hps (by omega)).mono (by omega)) hu (dGj ps ht h1)
  ·rw [vlit dE9] at hc
   have h1:¬ t.1=[124]:=fun z=>hc (decide_eq_true z)
   refine ⟨_,rfl,rfl,_,rfl,ite2 (fun hc2=>?_) fun hc2=>?_⟩
   ·rw [vlit dBv] at hc2
    have h2:=of_decide_eq_true hc2
    obtain ⟨u,hu⟩:=tok.next i t ht (by rw [h2];simp)
    refine ⟨_,rfl,a.ob,cs.bra,dh,_,_,rfl,hob,clBr,naBr _ (by simp),uk _ _ _ _,_,_,rfl,rfl,_,rfl,ite2 (fun hc3=>?_) fun hc3=>?_⟩
    ·have h3:(0:Int) < (F0.asked:Int):=of_decide_eq_true hc3
     have h0:F0.asked≠0:=by omega
     match st,S,ps,inn,fw,kq,kf with
     | [],S,ps,inn,fw,kq,kf=>exact absurd inn.bot h0
     | G::st,S,ps,inn,fw,kq,kf=>
     refine ⟨_,rfl,a.ob,dh,_,rfl,hob,d7G _ _ _ _ (by decide +kernel) (by decide +kernel) (by decide +kernel) (by decide +kernel),_,rfl,?_⟩
     refine ⟨a,F0,b,Ad,p,{ B with ns:=ns },rfl,S.pair fw (by omega),fun A2 vs2 bl2 pl2 H2 br2 bk2 g2 hv2 nd2 nbl npl nbp k2=>?_⟩
     have S2:=S.swap (a':={ a with bl:=bl2,pl:=pl2 }) (ns':=efNs B.P ns F0) rfl k2 br2 bk2 g2 (fun y hy=>by
       simp only [BrA.lists,List.mem_cons,List.not_mem_nil,or_false]
       rcases hv2 y hy with e | e
       ·exact .inr (.inr e)
       ·exact .inr (.inl e)) (fun y hy=>by
       simp only [BrA.lists,List.mem_cons,List.not_mem_nil,or_false] at hy
       rcases hy with rfl | rfl | rfl
       ·refine .inl ⟨by simp [BrA.lists],fun z=>?_⟩
        rcases hv2 _ z with e | e
        ·exact fl1.1.2 e
        ·exact fl1.1.1 e
       ·exact .inr nbl
       ·exact .inr npl) (by
       simp only [BrA.lists,List.nodup_cons,List.mem_cons,List.not_mem_nil,or_false,not_or,not_false_eq_true,List.nodup_nil,and_true]
       exact ⟨⟨fun z=>sfl (by rw [z];exact nbl),fun z=>sfl (by rw [z];exact npl)⟩,nbp⟩)
     refine g8 rfl S2.rd (by decide +kernel) (by decide +kernel) ?_
     refine ⟨_,rfl,r,lt,as,T,i,t,_,rfl,S2.rd,ht,fun _ H3 R3 k3=>?_,fun hq=>absurd rfl hq⟩
     exact kq H3 A2 _ _ _ u (S2.moved co R3 k3) rfl (ps.ef hps) (inn.head rfl fun z=>absurd z h0) ((fw.ef (P:=B.P) hps (by omega)).mono (by omega)) hu (dDW ps hps h0 ht h2)
    ·have h0:F0.asked=0:=by
      have:¬ (0:Int) < (F0.asked:Int):=fun z=>hc3 (decide_eq_true z)
      omega
     have h38:¬ t.1=[38]:=by rw [h2];decide
     refine ⟨_,rfl,rfl,_,rfl,ite2 (fun _=>?_) fun hc4=>?_⟩
     ·exact kf h1 h38 (.inr h0)
     ·rw [vlit dEp,decide_eq_false h38] at hc4
      exact absurd rfl hc4
   ·rw [vlit dBv] at hc2
    have h2:¬ t.1=[44]:=fun z=>hc2 (decide_eq_true z)
    refine iteF ?_
    refine ⟨_,rfl,rfl,_,rfl,ite2 (fun hc4=>?_) fun hc4=>?_⟩
    ·rw [vlit dEp] at hc4
     exact kf h1 (fun z=>by rw [decide_eq_true z] at hc4;exact absurd hc4 (by decide)) (.inl h2)
    ·rw [vlit dEp] at hc4
     have h38:t.1=[38]:=Decidable.byContradiction fun z=>hc4 (by rw [decide_eq_false z];rfl)
     obtain ⟨u,hu⟩:=tok.next i t ht (by rw [h38];simp)
     refine g8 rfl S.rd (by decide +kernel) (by decide +kernel) ?_
     refine ⟨_,rfl,r,lt,as,T,i,t,_,rfl,S.rd,ht,fun _ H3 R3 k3=>?_,fun hq=>absurd rfl hq⟩
     exact kq H3 Ad ns a F0 u (S.moved co R3 k3) rfl ps inn (fw.mono (by omega)) hu (dGG ht h38)
end
end Pg
end
section
set_option linter.all false
set_option maxRecDepth 100000
set_option maxHeartbeats 4000000
namespace Pg
open PySem L2 Xc Sp Rb35
def Sim (A A':BkA):Prop:=A'.na=A.na∧A'.ma=A.ma∧A'.la=A.la∧A'.pa=A.pa
theorem FSt.sim {cs:Cs} (co:CsOk cs) {H0 H:Hp}{r lt b bl:Addr}{as lo:List Addr}{T:List PT}{i:Nat}{A A':BkA}{p:Nat}{B:Bk}{ns:List dI}{bas:List BrA}{st:List FraN} (R0:BookAt cs H0 b A p B) (S:FSt cs H0 H r lt as T i b A' p B ns bl lo bas st):Sim A A':=by
 obtain ⟨dx,ob0⟩:=R0.ob
 obtain ⟨dr,j,hr⟩:=S.r0
 obtain ⟨xs,hn⟩:=S.na0
 have h1:=S.kp _ _ ob0 (by
  simp only [List.mem_cons,List.not_mem_nil,or_false,not_or]
  refine ⟨uq ob0 hr ?_,jE ob0 hn⟩
  intro z
  injection z with z
  exact co.rb z.symm)
 obtain ⟨dy,ob1⟩:=S.bk.ob
 rw [h1] at ob1
 injection ob1 with ob1
 injection ob1 with _ _ ob1
 unfold bkF at ob1
 simp only [List.cons.injEq,Prod.mk.injEq,V.ref.injEq,true_and,and_true] at ob1
 exact ⟨ob1.2.1.symm,ob1.2.2.2.symm,ob1.2.2.1.symm,ob1.1.symm⟩
def d6A (cs:Cs):Sp:=fun vs H Q E=>∃ (r lt:Addr) (as:List Addr) (T:List PT) (i:Nat) (b:Addr) (A:BkA) (p:Nat) (B:Bk) (t:PT),vs=[.ref r,.ref b]∧ReadAt cs H r lt as T i∧BookAt cs H b A p B∧lt≠A.na∧B.Ok∧Fw B.ns [] (4*i)∧TOk T∧T[i]?=some t ∧
 (∀ (H':Hp) (j:Nat) (A':BkA) (ns':List dI) (x:Nat) (u:PT),ReadAt cs H' r lt as T j→BookAt cs H' b A' p { B with ns:=ns' }→Sim A A'→Kp [r,A.na] H H'→PSt B ns' [⟨0,[x],[],[]⟩]→Fw ns' [] (4*j+2)→i < j→T[j]?=some u →
  formula B.known (tk T i)=.ok (den B.P ns' x,tk T j)→Q (.int (x:Int)) H') ∧
 (∀ k,formula B.known (tk T i)=.error k→Thr E cs.cst (-100-(k:Int)))
def FoI (cs:Cs) (H0:Hp) (r lt:Addr) (as:List Addr) (T:List PT) (i:Nat) (b:Addr) (p:Nat) (B:Bk) (bl:Addr):L2.St→Hp→Prop:=fun σ H'=>
 ∃ (g:Bool) (i':Nat) (A':BkA) (ns':List dI) (a':BrA) (bas':List BrA) (F':FraN) (st':List FraN) (t':PT) (x:Option V),σ=[some (.ref r),some (.ref b),some (.ref bl),some (.bl g),x]∧FSt cs H0 H' r lt as T i' b A' p B ns' bl (obs (a'::bas')).reverse (a'::bas') (F'::st') ∧
  PSt B ns' (F'::st')∧Inn (F'::st')∧Fw ns' (F'::st') (4*i')∧i≤i'∧T[i']?=some t' ∧
  (g=true→formula B.known (tk T i)=bA B ns' (F'::st') (tk T i')) ∧
  (g=false→i < i'∧F'.ps≠[]∧(¬ t'.1=[41]∨st'=[])∧¬ t'.1=[124]∧¬ t'.1=[38]∧(¬ t'.1=[44]∨F'.asked=0)∧formula B.known (tk T i)=cA B ns' (F'::st') (tk T i'))
theorem d9C (a:BrA) (bas:List BrA):(obs (a::bas)).reverse.map V.ref=(obs bas).reverse.map V.ref++[V.ref a.ob]:=by simp [obs]
section
variable {B:Bk}{ns:List dI}{F G:FraN}{r:List FraN}{T:List PT}{i:Nat}{t:PT}
theorem dEY (k:B.Ok) (S:PSt B ns (F::r)) {x:Nat} (ht:T[i]?=some t) (h1:dl t.1="name") (h2:look B.names t.1=some x):bA B ns (F::r) (tk T i)=cA B ns ({ F with ps:=F.ps++[x] }::r) (tk T (i+1)):=by
 show bAll _ _ _ _=cAll _ (FraN.den B.P ns { F with ps:=F.ps++[x] }) _ _
 rw [dEx ht h1 (by rw [Bk.meaning_eq,h2];rfl),wK,S.old (k.look_lt h2)]
theorem dFu (ht:T[i]?=some t) (h1:¬ t.1=[41]) (h2:¬ t.1=[124]) (h3:¬ t.1=[38]) (h4:¬ t.1=[44]∨F.asked=0):cA B ns (F::G::r) (tk T i)=.error t.2:=by
 show cAll _ _ (_::_) _=_
 rw [dGk (by rw [wa (by decide) ht];exact decide_eq_false h3) (by rw [wa (by decide) ht];exact decide_eq_false h2) (by rw [wa (by decide) ht];exact decide_eq_false h1) (h4.imp (fun z=>by rw [wa (by decide) ht];exact decide_eq_false z) fun z=>z),jr ht]
theorem dGL (S:PSt B ns [F]) (hp:F.ps≠[]) (ht:T[i]?=some t) (h2:¬ t.1=[124]) (h3:¬ t.1=[38]):cA B ns [F] (tk T i)=.ok (den B.P (efNs B.P ns F) (efAt B.P ns F),tk T i):=by
 rw [(S.ef_den hp).1]
 exact dGT (by rw [wa (by decide) ht];exact decide_eq_false h3) (by rw [wa (by decide) ht];exact decide_eq_false h2)
end
section
variable {P:Program}{w:World}{K:PySem.W.Frag}{mg:Str→Option Value}{base:Heap}{cs:Cs}
theorem sc_formula:FnScope ["reader","book","brackets","goes_on","name"] ["reader","book"] (dB jb):=⟨rfl,rfl,rfl,by decide +kernel,rfl,by decide +kernel,by decide +kernel⟩
theorem d9z (co:CsOk cs) (T:FunT K mg "read_formula" jb) (cl:Cls K cs.rea) (clB:Cls K cs.boo) (naB:NoAt K cs.boo ["prime","people","nodes","lets","names"]) (clBr:Cls K cs.bra) (naBr:NoAt K cs.bra ["asked","formulas","boths","parts"]) (hlen:mg "len"=none)
  (BR:ClaOk P w K mg base 1 "Bracket" cs.bra ["self","asked"] (uo cs)) (BG:DefOk P w K mg base 6 "begin_brackets" ["reader","brackets"] (dCE cs)) (KN:MetOk P w K mg base 5 cs.rea "take_known_name" ["self","names"] (y3 cs true))
  (SH:DefOk P w K mg base 7 "close_brackets" ["reader","brackets","book"] (dDm cs)) (BW:DefOk P w K mg base 7 "read_between" ["reader","bracket","book"] (d5y cs)) (TK:MetOk P w K mg base 4 cs.rea "take" ["self","stands"] (ui cs)) (EF:MetOk P w K mg base 6 cs.bra "end_formula" ["self","book"] (jp cs)) :
  DefOk P w K mg base 8 "read_formula" ["reader","book"] (d6A cs):=by
 obtain ⟨f,fd,F,hm⟩:=T.ex
 refine ⟨f,fd,hm,F.kp,F.binds (fun _ _ _ _ _ _ us hl=>match us,hl with | [_,_],_=>rfl),okX F sc_formula (fun vs H Q E h=>?_) (fun cdv A outer s H vs Q E hr h=>?_)⟩
 ·obtain ⟨r,lt,as,T,i,b,A,p,B,t,rfl,_⟩:=h
  rfl
 ·obtain ⟨r,lt,as,T,i,b,Ad,p,B,t,rfl,R,Rb,hlt,ok,fw,tok,ht,kq,kx⟩:=h
  refine ⟨_,dA (dX (i:=2) sc_formula.nd rfl (Or.inl rfl) (jJ (d0 (wI (BR.mono (by decide:1≤6)) hr rfl dG (d0 dS dD)) dD)))
   (dA (dX (i:=3) sc_formula.nd rfl (Or.inl rfl) dBc)
   (dA (jS PassesOwn.leaving (uF (pv 3))
    (dA (dN (dj (BG.mono (by decide:6≤7)) hr rfl dY (d0 (pv 0) (d0 (pv 2) dD))))
    (dA (dX (i:=4) sc_formula.nd rfl (Or.inl rfl) (di (pv 0) cl (KN.mono (by decide:5≤7)) hr dY (d0 (dM (pv 1) rfl) dD)))
    (dA (dN (kZ PySem.F.plainAttrs_list PySem.F.slot_list_append PySem.F.type_list_append g7 (dM (je gj (pv 2) (d8U vt dS) (fun _ _=>rfl)) rfl) (d0 (dEa (d8j hr) (dM (pv 1) rfl) (pv 4) (fun _ _=>rfl)) dD)))
    (dA (dN (dj SH hr rfl dY (d0 (pv 0) (d0 (pv 2) (d0 (pv 1) dD)))))
    (dE (dX (i:=3) sc_formula.nd rfl (Or.inl rfl) (dj BW hr rfl dY (d0 (pv 0) (d0 (je gj (pv 2) (d8U vt dS) (fun _ _=>rfl)) (d0 (pv 1) dD)))))))))))
   (dA (gv (dQ yq (dP dJ (by rfl) hlen PySem.boot_len (d0 (pv 2) dD)) dS (dW _)) (dE (dN (di (pv 0) cl (TK.mono (by decide:4≤7)) hr dY (d0 dBc dD)))) dq)
   (dA (dN (di (je gj (pv 2) dS (fun _ _=>rfl)) clBr (EF.mono (by decide:6≤7)) hr dG (d0 (pv 1) dD)))
   (dE (dZ (je gj (dM (je gj (pv 2) dS (fun _ _=>rfl)) rfl) dS (fun _ _=>rfl)))))))),?_⟩
  intro x dxn nx ndx nex
  refine ⟨x,dxn,0,rfl,d9,fun fl bl' pl H1 h1 hfl hbl hpl nfl nbl npl nd k1=>⟨rfl,by show 1≤sizeLine;decide,fun bl nb=>?_⟩⟩
  have s1:Same H H1:=Same.made nx ndx fun c o e hc=>k1 c o e (by simpa using hc)
  have kb:Kp [] H1 (upd H1 bl (.lst [V.ref x])):=Kp.refl.upd (.inr nb)
  have s2:Same H (upd H1 bl (.lst [V.ref x])):=s1.trans kb.toSame
  have hTl:=tok.few
  obtain ⟨dxb,obb⟩:=Rb.ob
  have ne1:∀ {y:Addr}{o:HO},H1 y=some o→y≠bl:=fun h=>dC h nb
  have S0:FSt cs H (upd H1 bl (.lst [V.ref x])) r lt as T i b Ad p B B.ns bl [x] [⟨x,fl,bl',pl⟩] [FraN.empty 0]:=by
   obtain ⟨dr,obr⟩:=R.ob
   refine ⟨R.tk,⟨dr,_,obr⟩,⟨_,Rb.nodes⟩,hlt,⟨dr,s2 _ _ obr⟩,Rb.keep (Kp.same s2 []) (fun y hy=>by simp at hy),⟨d9,.cons ⟨⟨dxn,?_⟩,?_,?_,?_⟩ .nil,?_,fun y hy=>?_,by simp [obs]⟩,Kp.same s2 _,fun y hy=>?_⟩
   ·rw [d8 (ne1 h1)];exact h1
   ·show upd _ _ _ fl=_;rw [d8 (ne1 hfl)];exact hfl
   ·show upd _ _ _ bl'=_;rw [d8 (ne1 hbl)];exact hbl
   ·show upd _ _ _ pl=_;rw [d8 (ne1 hpl)];exact hpl
   ·show (bl::([fl,bl',pl]++[])).Nodup
    rw [List.append_nil,List.nodup_cons]
    refine ⟨fun z=>?_,nd⟩
    simp only [List.mem_cons,List.not_mem_nil,or_false] at z
    rcases z with z | z | z
    ·exact ne1 hfl z.symm
    ·exact ne1 hbl z.symm
    ·exact ne1 hpl z.symm
   ·intro z
    obtain ⟨xs,e⟩:=Rb.isLst z
    have hy':y=bl∨y=fl∨y=bl'∨y=pl:=by simpa [lsts,BrA.lists] using hy
    rcases hy' with rfl | rfl | rfl | rfl
    ·exact absurd rfl (ne1 (s1 _ _ e))
    ·rw [gH nfl] at e;cases e
    ·rw [gH nbl] at e;cases e
    ·rw [gH npl] at e;cases e
   ·have hy':y=bl∨y=x∨y=fl∨y=bl'∨y=pl:=by
     rcases hy with h | h | h
     ·exact .inl h
     ·exact .inr (.inl (by simpa [obs] using h))
     ·exact .inr (.inr (by simpa [lsts,BrA.lists] using h))
    rcases hy' with rfl | rfl | rfl | rfl | rfl
    ·exact s1.free nb
    ·exact nx
    ·exact gH nfl
    ·exact gH nbl
    ·exact gH npl
  refine kH (FoI cs H r lt as T i b p B bl) (fun _ H'=>rdm T r H') ⟨true,i,Ad,B.ns,⟨x,fl,bl',pl⟩,[],FraN.empty 0,[],t,none,rfl,S0,PSt.start ok,⟨rfl,fun G hG _=>by simp at hG;subst hG;rfl⟩,⟨fw.le,fw.wi,by show 1≤_;omega⟩,Nat.le_refl _,ht,fun _=>yi _ _,fun z=>absurd z (by decide)⟩ ?_
  rintro σ H1' ⟨g,i1,A1,ns1,a1,bas1,F1,st1,t1,x1,rfl,S1,ps1,inn1,fw1,hi1,ht1,eT,eF⟩
  have hil:=(List.getElem?_eq_some_iff.mp ht1).1
  refine ⟨_,rfl,g,rfl,?_⟩
  cases g with
  | true=>
   refine iteT (wgo ?_)
   have e1:=eT rfl
   refine ⟨_,rfl,_,rfl,H,r,lt,as,T,i1,b,A1,p,B,ns1,bl,a1::bas1,F1::st1,t1,rfl,S1,ps1,inn1,fw1,tok,ht1,fun H2 i2 bas2 st2 t2 S2 ps2 inn2 fw2 hi2 ht2 n40 nnum e2=>?_,fun k hk=>kx k (e1.trans hk)⟩
   have hil2:=(List.getElem?_eq_some_iff.mp ht2).1
   match st2,S2,ps2,inn2,fw2,e2 with
   | [],_,_,inn2,_,_=>exact absurd inn2.bot (by simp [Bot])
   | F2::st2,S2,ps2,inn2,fw2,e2=>
   match bas2,S2 with
   | [],S2=>exact absurd (Paired.length S2.br.at_) (by simp)
   | a2::bas2,S2=>
   obtain ⟨db2,ob2⟩:=S2.bk.ob
   refine g8 rfl S2.rd (by decide +kernel) (by decide +kernel) ?_
   refine ⟨_,rfl,b,cs.boo,db2,_,_,rfl,ob2,clB,naB _ (by simp),kD _ _ _ _ _,?_⟩
   have hval:valV (nmK B.names) (Sum.inr (mkS t2.1))=(look B.names t2.1).map fun (i:Nat)=>V.int (i:Int):=wY _ _
   refine ⟨r,lt,as,T,i2,t2,A1.ma,nmK B.names,rfl,S2.rd,ht2,S2.bk.names,fun hq H3 R3 k3=>?_,fun hq=>?_⟩
   ·obtain ⟨hk,hsome⟩:=hq
    rw [hval] at hsome
    cases hlook:look B.names t2.1 with
    | none=>rw [hlook] at hsome;cases hsome
    | some z=>
    have S3:=S2.moved co R3 k3
    obtain ⟨u,hu⟩:=tok.next i2 t2 ht2 (fun e=>by rw [e] at hk;exact absurd hk (by decide +kernel))
    obtain ⟨hd3,tl3⟩:=S3.head
    obtain ⟨dh3,hob3⟩:=hd3.ob
    obtain ⟨db3,ob3⟩:=S3.bk.ob
    have lst3:=S3.br.lst
    rw [d9C] at lst3
    have dg:DGet H3 A1.ma (kV (Sum.inr (mkS t2.1))) (some (V.int (z:Int))):=by
     have d:=DGet.k (k:=Sum.inr (mkS t2.1)) (show H3 A1.ma=some (.dK (nmK B.names)) from S3.bk.names)
     rw [hval,hlook] at d
     exact d
    refine ⟨_,rfl,_,rfl,bl,_,_,V.ref a2.ob,rfl,rfl,SqL.of lst3,ya _ _,a2.ob,cs.bra,dh3,_,_,rfl,hob3,clBr,naBr _ (by simp),um _ _ _ _,.inl ⟨rfl,_,SqL.of hd3.ps⟩,
     _,rfl,b,cs.boo,db3,_,_,rfl,ob3,clB,naB _ (by simp),kD _ _ _ _ _,_,rfl,A1.ma,_,rfl,dg,a2.pl,_,_,rfl,rfl,hd3.ps,?_,?_⟩
    ·rw [dH]
     have h:=fw2.le
     rw [List.flatMap_cons,List.length_append,jw] at h
     exact Nat.lt_trans (show _ < 100000 by omega) dc
    have S4:=S3.part z
    have ps4:=ps2.part ok hlook
    have fw4:Fw ns1 ({ F2 with ps:=F2.ps++[z] }::st2) (4*(i2+1)):=(fw2.part z).mono (by omega)
    have e4:formula B.known (tk T i)=cA B ns1 ({ F2 with ps:=F2.ps++[z] }::st2) (tk T (i2+1)):=e1.trans (e2.trans (dEY ok ps2 ht2 hk hlook))
    refine ⟨_,rfl,_,rfl,_,rfl,H,r,lt,as,T,i2+1,b,A1,p,B,ns1,bl,a2::bas2,{ F2 with ps:=F2.ps++[z] },st2,u,rfl,S4,ps4,by simp,inn2.head rfl (fun q=>inn2.pl F2 (by simp) q),fw4,tok,hu,fun H5 i5 A5 ns5 bas5 F5 st5 t5 S5 ps5 hps5 inn5 fw5 hi5 ht5 h5 e5=>?_,fun k hk=>kx k (e4.trans hk)⟩
    have hil5:=(List.getElem?_eq_some_iff.mp ht5).1
    match bas5,S5 with
    | [],S5=>exact absurd (Paired.length S5.br.at_) (by simp)
    | a5::bas5,S5=>
    have lst5:=S5.br.lst
    rw [d9C] at lst5
    obtain ⟨dr1,obr1⟩:=S1.ob
    refine ⟨_,rfl,_,rfl,_,rfl,bl,_,_,V.ref a5.ob,rfl,rfl,SqL.of lst5,ya _ _,_,rfl,H,r,lt,as,T,i5,b,A5,p,B,ns5,bl,(obs (a5::bas5)).reverse,a5,bas5,F5,st5,t5,rfl,S5,ps5,hps5,inn5,fw5,tok,ht5,fun H6 A6 ns6 a6 F6 t6 S6 ha6 ps6 inn6 fw6 ht6 e6=>?_,fun n1 n2 n3=>?_⟩
    ·obtain ⟨dr6,obr6⟩:=S6.ob
     have eo:obs (a6::bas5)=obs (a5::bas5):=by simp only [obs,List.map_cons,ha6]
     refine ⟨⟨true,i5+1,A6,ns6,a6,bas5,F6,st5,t6,_,rfl,by rw [eo];exact S6,ps6,inn6,fw6,by omega,ht6,fun _=>e4.trans (e5.trans e6),fun q=>absurd q (by decide)⟩,?_⟩
     rw [kU obr1,kU obr6]
     omega
    ·obtain ⟨dr5,obr5⟩:=S5.ob
     refine ⟨⟨false,i5,A5,ns5,a5,bas5,F5,st5,t5,_,rfl,S5,ps5,inn5,fw5,by omega,ht5,fun q=>absurd q (by decide),fun _=>⟨by omega,hps5,h5,n1,n2,n3,e4.trans e5⟩⟩,?_⟩
     rw [kU obr1,kU obr5]
     omega
   ·refine kx _ (e1.trans (e2.trans (dGK ht2 n40 nnum fun q=>hq ⟨q.1,?_⟩)))
    rw [hval]
    have q2:=q.2
    rw [Bk.meaning_eq] at q2
    cases hl:look B.names t2.1 with
    | none=>rw [hl] at q2;cases q2
    | some z=>rfl
  | false=>
   refine iteF ?_
   obtain ⟨hlt1,hps1,n41,n124,n38,n44,e1⟩:=eF rfl
   have lb:((obs (a1::bas1)).reverse.map V.ref).length=st1.length+1:=by
    have:=Paired.length S1.br.at_
    rw [List.length_map,List.length_reverse]
    show (List.map _ _).length=_
    rw [List.length_map,this]
    rfl
   refine ⟨_,rfl,_,_,rfl,.inl (SqL.of S1.br.lst),_,_,rfl,rfl,_,rfl,ite2 (fun hc=>?_) fun hc=>?_⟩
   ·have h2:(1:Int) < (((obs (a1::bas1)).reverse.map V.ref).length:Int):=of_decide_eq_true hc
    rw [lb] at h2
    match st1,S1,ps1,n41,e1,h2 with
    | [],_,_,_,_,h2=>exact absurd h2 (by decide)
    | G::st1,S1,ps1,n41,e1,h2=>
    refine g8 rfl S1.rd (by decide +kernel) (by decide +kernel) ?_
    refine ⟨r,lt,as,T,i1,t1,false,rfl,S1.rd,ht1,fun q=>absurd q (by decide),fun _=>?_⟩
    exact kx _ (e1.trans (dFu ht1 (n41.resolve_right (by simp)) n124 n38 n44))
   ·have h2:¬ (1:Int) < (((obs (a1::bas1)).reverse.map V.ref).length:Int):=fun z=>hc (decide_eq_true z)
    rw [lb] at h2
    have hst:st1=[]:=List.eq_nil_of_length_eq_zero (by omega)
    subst hst
    have hbas:bas1=[]:=by
     have:=Paired.length S1.br.at_
     exact List.eq_nil_of_length_eq_zero (by simpa using this)
    subst hbas
    have h0:F1.asked=0:=inn1.bot
    have hfs:F1.fs=[]:=inn1.pl F1 (by simp) h0
    obtain ⟨dh,hob⟩:=S1.head.1.ob
    refine ⟨_,rfl,bl,_,_,V.ref a1.ob,rfl,rfl,SqL.of S1.br.lst,uP (j:=0) rfl rfl,a1.ob,dh,_,rfl,hob,d7G _ _ _ _ (by decide +kernel) (by decide +kernel) (by decide +kernel) (by decide +kernel),_,rfl,?_⟩
    refine ⟨a1,F1,b,A1,p,{ B with ns:=ns1 },rfl,S1.pair fw1 (by omega),fun A2 vs2 bl2 pl2 H2 br2 bk2 g2 hv2 nd2 nbl2 npl2 nbp2 k2=>?_⟩
    have fl1:=S1.facts.1
    unfold BrA.lists at fl1
    simp only [List.nodup_cons,List.mem_cons,List.not_mem_nil,or_false,not_or] at fl1
    have sfl:H1' a1.fl≠none:=by rw [S1.head.1.fs];simp
    have S2:=S1.swap (a':={ a1 with bl:=bl2,pl:=pl2 }) (ns':=efNs B.P ns1 F1) rfl k2 br2 bk2 g2 (fun y hy=>by
      simp only [BrA.lists,List.mem_cons,List.not_mem_nil,or_false]
      rcases hv2 y hy with e | e
      ·exact .inr (.inr e)
      ·exact .inr (.inl e)) (fun y hy=>by
      simp only [BrA.lists,List.mem_cons,List.not_mem_nil,or_false] at hy
      rcases hy with rfl | rfl | rfl
      ·refine .inl ⟨by simp [BrA.lists],fun z=>?_⟩
       rcases hv2 _ z with e | e
       ·exact fl1.1.2 e
       ·exact fl1.1.1 e
      ·exact .inr nbl2
      ·exact .inr npl2) (by
      simp only [BrA.lists,List.nodup_cons,List.mem_cons,List.not_mem_nil,or_false,not_or,not_false_eq_true,List.nodup_nil,and_true]
      exact ⟨⟨fun z=>sfl (by rw [z];exact nbl2),fun z=>sfl (by rw [z];exact npl2)⟩,nbp2⟩)
    have eff:gG B.P ns1 F1=⟨0,[efAt B.P ns1 F1],[],[]⟩:=by
     unfold gG
     rw [h0,hfs]
     rfl
    have fs2:H2 a1.fl=some (.lst (nV (gG B.P ns1 F1).fs)):=br2.fs
    rw [eff] at fs2
    obtain ⟨dh2,hob2⟩:=br2.ob
    refine ⟨_,rfl,bl,_,_,V.ref a1.ob,rfl,rfl,SqL.of S2.br.lst,uP (j:=0) rfl rfl,a1.ob,cs.bra,dh2,_,_,rfl,hob2,clBr,naBr _ (by simp),jG _ _ _ _,a1.fl,_,_,V.int ((efAt B.P ns1 F1:Nat):Int),rfl,rfl,SqL.of fs2,uP (j:=0) rfl rfl,?_⟩
    have ps2:=ps1.ef hps1
    rw [eff] at ps2
    have fw2:=fw1.ef (P:=B.P) hps1 (by omega)
    have sim:=S2.sim co Rb
    refine kq H2 i1 A2 _ _ t1 S2.rd bk2 sim (by rw [←sim.1];exact S2.kp) ps2 ⟨Nat.le_trans (Nat.le_add_right _ _) fw2.le,fw2.wi,by simp⟩ hlt1 ht1 (e1.trans (dGL ps1 hps1 ht1 n124 n38))
end
end Pg
end
section
set_option linter.all false
set_option maxRecDepth 100000
set_option maxHeartbeats 4000000
namespace Pg
open PySem L2 Xc Sp Rb35
theorem ReadAt.keepL {cs:Cs}{H H':Hp}{r lt:Addr}{as:List Addr}{T:List PT}{i:Nat}{F:List Addr} (R:ReadAt cs H r lt as T i) (k:Kp F H H') (hF:∀ x∈F,x≠lt∧∀ C dx fs,H x≠some (.ins C dx fs)):ReadAt cs H' r lt as T i:=by
 obtain ⟨dx,ob⟩:=R.ob
 refine ⟨⟨dx,k _ _ ob fun z=>(hF _ z).2 _ _ _ ob⟩,k _ _ R.tk.lst fun z=>(hF _ z).1 rfl,R.tk.len,fun j a t h1 h2=>?_⟩
 obtain ⟨dy,ha⟩:=R.tk.at_ j a t h1 h2
 exact ⟨dy,k _ _ ha fun z=>(hF _ z).2 _ _ _ ha⟩
theorem BookAt.read {cs:Cs} (co:CsOk cs) {H H':Hp}{r lt b:Addr}{as:List Addr}{T:List PT}{i:Nat}{A:BkA}{p:Nat}{B:Bk} (Rb:BookAt cs H b A p B) (R:ReadAt cs H r lt as T i) (k:Kp [r] H H'):BookAt cs H' b A p B:=by
 obtain ⟨dx,ob⟩:=R.ob
 refine Rb.keep k fun x hx=>?_
 simp only [List.mem_cons,List.not_mem_nil,or_false] at hx
 subst hx
 exact .inr ⟨_,_,_,ob,co.rb,co.rn⟩
theorem kl:dm (ascii "field")=.name (ascii "field"):=rfl
theorem d8A:dm (ascii "who")=.name (ascii "who"):=rfl
theorem d88:dm (ascii "let")=.name (ascii "let"):=rfl
section
variable {T:List PT}{i:Nat}{t u v:PT}
theorem dGg (ht:T[i]?=some t) (h:¬ t.1=ascii "field"):Rb35.field (tk T i)=.error t.2:=by
 unfold Rb35.field
 rw [uZ kl ht,decide_eq_false h,if_pos rfl,jr ht]
theorem dFn (ht:T[i]?=some t) (h:t.1=ascii "field") (hu:T[i+1]?=some u) (h2:¬ (dl u.1="number"∧(decide (valueOf u.1≤251)&&prime (valueOf u.1))=true)):Rb35.field (tk T i)=.error u.2:=by
 unfold Rb35.field
 rw [uZ kl ht,decide_eq_true h,if_neg (by decide),vM kl ht h]
 show (match tk T (i+1) with | (.num p,k)::r=>_ | u=>_)=_
 rw [jz hu]
 cases q:dm u.1 with
 | num n=>
  by_cases hk:dl u.1="number"
  ·have e:=(jq hk).1
   rw [q] at e
   injection e with e
   show (if (decide (n≤251)&&prime n)=true then _ else _)=_
   rw [if_neg (by rw [e];exact fun z=>h2 ⟨hk,z⟩)]
  ·exact absurd q (vO hk)
 | name b=>rfl
 | sign b=>rfl
 | bad=>rfl
 | ended=>rfl
theorem dE3 (ht:T[i]?=some t) (h:t.1=ascii "field") (hu:T[i+1]?=some u) (h2:dl u.1="number"∧(decide (valueOf u.1≤251)&&prime (valueOf u.1))=true):Rb35.field (tk T i)=(take_ 59 (tk T (i+2))).map fun z=>(valueOf u.1,z):=by
 unfold Rb35.field
 rw [uZ kl ht,decide_eq_true h,if_neg (by decide),vM kl ht h]
 show (match tk T (i+1) with | (.num p,k)::r=>_ | u=>_)=_
 rw [jz hu,(jq h2.1).1]
 show (if (decide (valueOf u.1≤251)&&prime (valueOf u.1))=true then _ else _)=_
 rw [if_pos h2.2]
end
def d9U (cs:Cs):Sp:=fun vs H Q E=>∃ (r lt:Addr) (as:List Addr) (T:List PT) (i:Nat) (t:PT),vs=[.ref r]∧ReadAt cs H r lt as T i∧TOk T∧T[i]?=some t ∧
 (∀ (H':Hp) (p j:Nat) (u:PT),Rb35.field (tk T i)=.ok (p,tk T j)→ReadAt cs H' r lt as T j→Kp [r] H H'→T[j]?=some u→i < j→Q (.int (p:Int)) H')∧(∀ k,Rb35.field (tk T i)=.error k→Thr E cs.cst (-100-(k:Int)))
def gz (t:Toks):Except Nat (Known×Toks):=if isKey "who" t=false then .error (placeOf t) else (jg ⟨[],[]⟩ (t.drop 1)).bind fun y=>(take_ 59 y.2).map fun r=>(y.1,r)
def dBP (l:List Bytes) (t:Toks):Except Nat (Known×Toks):=(if is_ 44 t=true then jg ⟨l,[]⟩ (t.drop 1) else .ok (⟨l,[]⟩,t)).bind fun y=>(take_ 59 y.2).map fun r=>(y.1,r)
def d97 (cs:Cs):Sp:=fun vs H Q E=>∃ (r lt:Addr) (as:List Addr) (T:List PT) (i:Nat) (b:Addr) (A:BkA) (p:Nat) (t:PT),vs=[.ref r,.ref b]∧ReadAt cs H r lt as T i∧BookAt cs H b A p ⟨[],[],[]⟩∧lt≠A.pa∧TOk T∧T[i]?=some t ∧
 (∀ (H':Hp) (l:List Bytes) (j:Nat) (u:PT),gz (tk T i)=.ok (⟨l,[]⟩,tk T j)→ReadAt cs H' r lt as T j→BookAt cs H' b A p ⟨l,[],[]⟩→Kp [r,A.pa,A.ma] H H'→T[j]?=some u→i < j→l.length≤j→Q .non H')∧(∀ k,gz (tk T i)=.error k→Thr E cs.cst (-100-(k:Int)))
def PeI (cs:Cs) (H0:Hp) (r lt:Addr) (as:List Addr) (T:List PT) (i:Nat) (b:Addr) (A:BkA) (p:Nat):L2.St→Hp→Prop:=fun σ H'=>
 ∃ (l:List Bytes) (j:Nat) (u:PT),σ=[some (.ref r),some (.ref b)]∧ReadAt cs H' r lt as T j∧BookAt cs H' b A p ⟨l,[],[]⟩∧Kp [r,A.pa,A.ma] H0 H'∧T[j]?=some u∧i < j∧l.length≤j∧gz (tk T i)=dBP l (tk T j)
section
variable {P:Program}{w:World}{K:PySem.W.Frag}{mg:Str→Option Value}{base:Heap}{cs:Cs}
theorem sc_fieldR:FnScope ["reader","prime"] ["reader"] (dB kF):=⟨rfl,rfl,rfl,by decide +kernel,rfl,by decide +kernel,by decide +kernel⟩
theorem dB6 (T:FunT K mg "read_field" kF) (cl:Cls K cs.rea) (TW:MetOk P w K mg base 5 cs.rea "take_written" ["self","word"] (kA cs)) (PR:MetOk P w K mg base 5 cs.rea "take_prime" ["self"] (dC2 cs)) :
  DefOk P w K mg base 6 "read_field" ["reader"] (d9U cs):=by
 obtain ⟨f,fd,F,hm⟩:=T.ex
 refine ⟨f,fd,hm,F.kp,F.binds (fun _ _ _ _ _ _ us hl=>match us,hl with | [_],_=>rfl),okX F sc_fieldR (fun vs H Q E h=>?_) (fun cdv A outer s H vs Q E hr h=>?_)⟩
 ·obtain ⟨r,lt,as,T,i,t,rfl,_⟩:=h
  rfl
 ·obtain ⟨r,lt,as,T,i,t,rfl,R,tok,ht,kq,kx⟩:=h
  refine ⟨_,dA (dN (di (pv 0) cl TW hr dY (d0 gQ dD))) (dA (dX (i:=1) sc_fieldR.nd rfl (Or.inl rfl) (gX (pv 0) cl PR hr dY)) (dA (dN (di (pv 0) cl TW hr dY (d0 gQ dD))) (dE (dZ (pv 1))))),?_⟩
  refine g8 rfl R (by decide +kernel) (by decide +kernel) ?_
  refine ⟨r,lt,as,T,i,t,_,rfl,R,ht,fun hq H1 R1 k1=>?_,fun hq=>kx _ (dGg ht fun z=>hq ((wlit d98).mpr z))⟩
  have h1:=(wlit d98).mp hq
  obtain ⟨u,hu⟩:=tok.next i t ht (by rw [h1];decide)
  refine g8 rfl R1 (by decide +kernel) (by decide +kernel) ?_
  refine ⟨r,lt,as,T,i+1,u,rfl,R1,tok,hu,fun h2 H2 R2 k2=>?_,fun h2=>kx _ (dFn ht h1 hu h2)⟩
  obtain ⟨v,hv⟩:=tok.next (i+1) u hu (fun z=>by have:=h2.1;rw [z] at this;exact absurd this (by decide +kernel))
  refine g8 rfl R2 (by decide +kernel) (by decide +kernel) ?_
  refine ⟨r,lt,as,T,i+2,v,_,rfl,R2,hv,fun h3 H3 R3 k3=>?_,fun h3=>kx v.2 ?_⟩
  ·have h59:=(wlit dAZ).mp h3
   obtain ⟨y,hy⟩:=tok.next (i+2) v hv (by rw [h59];simp)
   refine ⟨_,rfl,kq H3 (valueOf u.1) (i+3) y ?_ R3 (k1.trans (k2.trans k3)) hy (by omega)⟩
   rw [dE3 ht h1 hu h2,vW (by decide) hv h59]
   rfl
  ·rw [dE3 ht h1 hu h2,v8 (by decide) hv fun z=>h3 ((wlit dAZ).mpr z)]
   rfl
theorem dAh:FnScope ["reader","book"] ["reader","book"] (dB jy):=⟨rfl,rfl,rfl,by decide +kernel,rfl,by decide +kernel,by decide +kernel⟩
theorem dGF {l:List Bytes}{T:List PT}{j:Nat}{u:PT} (hu:T[j]?=some u):(jg ⟨l,[]⟩ (tk T j)).bind (fun y=>(take_ 59 y.2).map fun r=>(y.1,r)) =
  if dl u.1="name"∧(valV (nmK (⟨l,[],[]⟩:Bk).names) (Sum.inr (mkS u.1))).isSome=false then dBP (l++[u.1]) (tk T (j+1)) else .error u.2:=by
 have kn:knows ⟨l,[]⟩ u.1=(look (⟨l,[],[]⟩:Bk).names u.1).isSome:=Bk.knows_eq ⟨l,[],[]⟩ u.1
 have hv:(valV (nmK (⟨l,[],[]⟩:Bk).names) (Sum.inr (mkS u.1))).isSome=knows ⟨l,[]⟩ u.1:=by
  rw [wY,kn]
  cases look (⟨l,[],[]⟩:Bk).names u.1 <;> rfl
 rw [hv,dAO]
 by_cases h:dl u.1="name"∧knows ⟨l,[]⟩ u.1=false
 ·rw [if_pos h,dBe hu h.1 h.2]
  rfl
 ·rw [if_neg h,dDv hu h]
  rfl
theorem dCF (co:CsOk cs) (T:FunT K mg "read_people" jy) (cl:Cls K cs.rea) (clT:Cls K cs.tok) (naT:NoAt K cs.tok ["kind","word","place"]) (clB:Cls K cs.boo) (naB:NoAt K cs.boo ["prime","people","nodes","lets","names"])
  (NW:MetOk P w K mg base 1 cs.rea "now" ["self"] (ug cs)) (TW:MetOk P w K mg base 5 cs.rea "take_written" ["self","word"] (kA cs)) (NN:MetOk P w K mg base 5 cs.rea "take_new_name" ["self","names"] (y3 cs false)) (AP:MetOk P w K mg base 1 cs.boo "add_person" ["self","name"] (uV cs)) :
  DefOk P w K mg base 6 "read_people" ["reader","book"] (d97 cs):=by
 obtain ⟨f,fd,F,hm⟩:=T.ex
 refine ⟨f,fd,hm,F.kp,F.binds (fun _ _ _ _ _ _ us hl=>match us,hl with | [_,_],_=>rfl),okX F dAh (fun vs H Q E h=>?_) (fun cdv A outer s H vs Q E hr h=>?_)⟩
 ·obtain ⟨r,lt,as,T,i,b,A,p,t,rfl,_⟩:=h
  rfl
 ·obtain ⟨r,lt,as,T,i,b,Ad,p,t,rfl,R,Rb,hlt,tok,ht,kq,kx⟩:=h
  refine ⟨_,dA (dN (di (pv 0) cl TW hr dY (d0 gQ dD)))
   (dA (dN (di (pv 1) clB (AP.mono (by decide:1≤5)) hr dG (d0 (di (pv 0) cl NN hr dY (d0 (dM (pv 1) rfl) dD)) dD)))
   (dA (jS PassesOwn.leaving (dQ kL (dM (gX (pv 0) cl (NW.mono (by decide:1≤5)) hr dG) rfl) gQ (dW _))
    (dA (dN (di (pv 0) cl TW hr dY (d0 gQ dD))) (dE (dN (di (pv 1) clB (AP.mono (by decide:1≤5)) hr dG (d0 (di (pv 0) cl NN hr dY (d0 (dM (pv 1) rfl) dD)) dD))))))
   (dE (dN (di (pv 0) cl TW hr dY (d0 gQ dD)))))),?_⟩
  have hTl:=tok.few
  have add:∀ (l:List Bytes) (j:Nat) (u:PT) (H1:Hp) (D:Ends),ReadAt cs H1 r lt as T j→BookAt cs H1 b Ad p ⟨l,[],[]⟩→Kp [r,Ad.pa,Ad.ma] H H1→T[j]?=some u→i < j→l.length≤j→gz (tk T i)=((jg ⟨l,[]⟩ (tk T j)).bind fun y=>(take_ 59 y.2).map fun r=>(y.1,r)) →
    (∀ H2 v,ReadAt cs H2 r lt as T (j+1)→BookAt cs H2 b Ad p ⟨l++[u.1],[],[]⟩→Kp [r,Ad.pa,Ad.ma] H H2→T[j+1]?=some v→gz (tk T i)=dBP (l++[u.1]) (tk T (j+1))→D.nx [some (.ref r),some (.ref b)] H2) →
    dEL (yu cs.boo "add_person" (uV cs) [] E0 (tVar 1) (dB9 (yu cs.rea "take_new_name" (y3 cs false) [] E (tVar 0) (dB9 (tFld K (tVar 1) "names") tNil)) tNil)) D [some (.ref r),some (.ref b)] H1:=by
   intro l j u H1 D R1 Rb1 k1 hu hij hlj e1 fin
   obtain ⟨db,ob⟩:=Rb1.ob
   have hpn:=dGF (l:=l) hu
   refine ⟨_,rfl,b,db,_,rfl,ob,uc _ _ _ _ _ (by decide +kernel) (by decide +kernel) (by decide +kernel) (by decide +kernel) (by decide +kernel),?_⟩
   refine g8 rfl R1 (by decide +kernel) (by decide +kernel) ?_
   refine ⟨_,rfl,b,cs.boo,db,_,_,rfl,ob,clB,naB _ (by simp),kD _ _ _ _ _,?_⟩
   refine ⟨r,lt,as,T,j,u,Ad.ma,nmK (⟨l,[],[]⟩:Bk).names,rfl,R1,hu,Rb1.names,fun hq H2 R2 k2=>?_,fun hq=>?_⟩
   ·rw [if_pos hq] at hpn
    have Rb2:=Rb1.read co R1 k2
    have hlook:look (⟨l,[],[]⟩:Bk).names u.1=none:=by
     have:=hq.2
     rw [wY] at this
     cases q:look (⟨l,[],[]⟩:Bk).names u.1 with
     | none=>rfl
     | some z=>rw [q] at this;cases this
    have hjl:=(List.getElem?_eq_some_iff.mp hu).1
    refine ⟨b,u.1,Ad,p,⟨l,[],[]⟩,rfl,Rb2,hlook,rfl,by show l.length < 50000;omega,fun H3 Rb3 k3=>?_⟩
    obtain ⟨v,hv⟩:=tok.next j u hu (fun z=>by have:=hq.1;rw [z] at this;exact absurd this (by decide +kernel))
    have R3:=R2.keepL k3 fun x hx=>by
     simp only [List.mem_cons,List.not_mem_nil,or_false] at hx
     rcases hx with rfl | rfl
     ·exact ⟨hlt.symm,fun C dx fs z=>by rw [Rb2.people] at z;cases z⟩
     ·exact ⟨dCP Rb2.names R2.tk.lst,fun C dx fs z=>by rw [Rb2.names] at z;cases z⟩
    exact fin H3 v R3 Rb3 (k1.trans ((k2.mono fun x hx=>by simp at hx;simp [hx]).trans (k3.mono fun x hx=>by simp at hx ⊢;rcases hx with rfl | rfl <;> simp))) hv (e1.trans hpn)
   ·rw [if_neg hq] at hpn
    exact kx _ (e1.trans hpn)
  refine g8 rfl R (by decide +kernel) (by decide +kernel) ?_
  refine ⟨r,lt,as,T,i,t,_,rfl,R,ht,fun hq H1 R1 k1=>?_,fun hq=>kx t.2 ?_⟩
  ·have h1:=(wlit dEE).mp hq
   obtain ⟨u,hu⟩:=tok.next i t ht (by rw [h1];decide)
   have e0:gz (tk T i)=((jg ⟨[],[]⟩ (tk T (i+1))).bind fun y=>(take_ 59 y.2).map fun r=>(y.1,r)):=by
    unfold gz
    rw [uZ d8A ht,decide_eq_true h1,if_neg (by decide),vM d8A ht h1]
    rfl
   refine add [] (i+1) u H1 _ R1 (Rb.read co R k1) (k1.mono fun x hx=>by simp at hx;simp [hx]) hu (by omega) (by simp) e0 fun H2 v R2 Rb2 k2 hv e2=>?_
   refine kH (PeI cs H r lt as T i b Ad p) (fun _ H'=>rdm T r H') ⟨[u.1],i+2,v,rfl,R2,Rb2,k2,hv,by omega,by simp,e2⟩ ?_
   rintro σ H3 ⟨l,j,u3,rfl,R3,Rb3,k3,hu3,hij,hlj,e3⟩
   obtain ⟨d3,ob3⟩:=R3.ob
   have hjl:=(List.getElem?_eq_some_iff.mp hu3).1
   refine v3 clT naT rfl R3 hu3 ⟨rfl,_,rfl,ite2 (fun hc=>?_) fun hc=>?_⟩
   ·rw [vlit dBv] at hc
    have h44:=of_decide_eq_true hc
    obtain ⟨u4,hu4⟩:=tok.next j u3 hu3 (by rw [h44];simp)
    refine wgo ?_
    refine g8 rfl R3 (by decide +kernel) (by decide +kernel) ?_
    refine ⟨r,lt,as,T,j,u3,_,rfl,R3,hu3,fun _ H4 R4 k4=>?_,fun hq=>absurd ((wlit dBv).mpr h44) hq⟩
    have e4:gz (tk T i)=((jg ⟨l,[]⟩ (tk T (j+1))).bind fun y=>(take_ 59 y.2).map fun r=>(y.1,r)):=by
     rw [e3]
     unfold dBP
     rw [wa (by decide) hu3,decide_eq_true h44,if_pos rfl,jX (by decide) hu3 h44]
     rfl
    refine add l (j+1) u4 H4 _ R4 (Rb3.read co R3 k4) (k3.trans (k4.mono fun x hx=>by simp at hx;simp [hx])) hu4 (by omega) (by omega) e4 fun H5 v5 R5 Rb5 k5 hv5 e5=>?_
    obtain ⟨d5,ob5⟩:=R5.ob
    refine ⟨⟨l++[u4.1],j+2,v5,rfl,R5,Rb5,k5,hv5,by omega,by rw [List.length_append];simp;omega,e5⟩,?_⟩
    rw [kU ob3,kU ob5]
    omega
   ·rw [vlit dBv] at hc
    have h44:¬ u3.1=[44]:=fun z=>hc (decide_eq_true z)
    have e4:gz (tk T i)=(take_ 59 (tk T j)).map fun r=>(⟨l,[]⟩,r):=by
     rw [e3]
     unfold dBP
     rw [wa (by decide) hu3,decide_eq_false h44,if_neg (by decide)]
     rfl
    refine g8 rfl R3 (by decide +kernel) (by decide +kernel) ?_
    refine ⟨r,lt,as,T,j,u3,_,rfl,R3,hu3,fun h3 H4 R4 k4=>?_,fun h3=>kx u3.2 ?_⟩
    ·have h59:=(wlit dAZ).mp h3
     obtain ⟨y,hy⟩:=tok.next j u3 hu3 (by rw [h59];simp)
     refine kq H4 l (j+1) y ?_ R4 (Rb3.read co R3 k4) (k3.trans (k4.mono fun x hx=>by simp at hx;simp [hx])) hy (by omega) (by omega)
     rw [e4,vW (by decide) hu3 h59]
     rfl
    ·rw [e4,v8 (by decide) hu3 fun z=>h3 ((wlit dAZ).mpr z)]
     rfl
  ·unfold gz
   rw [uZ d8A ht,decide_eq_false (fun z=>hq ((wlit dEE).mpr z)),if_pos rfl,jr ht]
end
end Pg
end
section
set_option linter.all false
set_option maxRecDepth 100000
set_option maxHeartbeats 4000000
namespace Pg
open PySem L2 Xc Sp Rb35
def plc (P:Nat) (ns:List dI):List Nat:=d3B (fun _=>1) (fun _ l=>l.sum) 0 P ns
theorem d9g (P:Nat) (ns:List dI) (n:dI):plc P (ns++[n])=plc P ns++[(n.2.map fun i=>(plc P ns).getD i 0).sum]:=yC _ _ _ _ _ _
theorem dBq (P:Nat):plc P []=List.replicate P 1:=by
 unfold plc d3B
 rw [List.foldl_nil]
 induction P with
 | zero=>rfl
 | succ n ih=>rw [List.range_succ,List.map_append,ih,List.replicate_succ'];rfl
theorem dA9 (P:Nat) (ns:List dI):(plc P ns).length=P+ns.length:=by
 induction ns using kI with
 | h0=>rw [dBq,List.length_replicate];rfl
 | h1 l a ih=>rw [d9g,List.length_append,ih,List.length_append];simp;omega
theorem dG8 {P:Nat}{ns:List dI} (ok:Good P ns) {i:Nat} (hi:i < P+ns.length):(plc P ns)[i]?=some ((leaves (den P ns i)).length):=
 dDB (fun f=>(leaves f).length) (fun i=>rfl) (fun k l=>by
  show (leavesIn (ofL l)).length=_
  rw [g9]) ns ok hi
structure Sz (B:Bk):Prop where
 pe:B.people.length < 50000
 nd:B.ns.length < 50000
 wi:∀ n∈B.ns,n.2.length≤50000
 le:B.ls.length < 50000
section
variable {X:Cx}{K:PySem.W.Frag}{o:Expr}{f:Str}{pos:Pos}{ta:TE}
theorem d8w (hK:X.K=K) (ha:PE X o ta) (hb:attributeBase o f X.env (eval o X.env)=eval o X.env:=by rfl):PE X (.Attribute o f pos) (tFld K ta f):=hK▸dM ha hb
theorem d9n (hK:X.K=K):IxR X (rIxL K):=hK▸gj
theorem dBn (hK:X.K=K):w9 X (.builtin "len") (fun xs H Q=>∃ p ys,xs=[.ref p]∧(SqL K H p ys∨SqT K H p ys)∧Q (.int ys.length) H):=hK▸dJ
end
def d9T (cs:Cs):Sp:=fun vs H Q _=>∃ (b:Addr) (A:BkA) (p:Nat) (B:Bk),vs=[.ref b]∧BookAt cs H b A p B∧Good B.P B.ns∧Sz B ∧
 ∀ (D:Addr) (H':Hp),H' D=some (.lst (nV (plc B.P B.ns)))→Same H H'→Q (.ref D) H'
theorem nsum (l:List Nat):(l.map fun (i:Nat)=>(i:Int)).sum=((l.sum:Nat):Int):=by
 induction l with
 | nil=>rfl
 | cons a r ih=>rw [List.map_cons,List.sum_cons,List.sum_cons,ih];omega
section
variable {P:Program}{w:World}{K:PySem.W.Frag}{mg:Str→Option Value}{base:Heap}{cs:Cs}
theorem sc_places:FnScope ["book","places","node","person","formula"] ["book"] (dB j2):=⟨rfl,rfl,rfl,by decide +kernel,rfl,by decide +kernel,by decide +kernel⟩
theorem dBg (T:FunT K mg "all_places" j2) (clB:Cls K cs.boo) (naB:NoAt K cs.boo ["prime","people","nodes","lets","names"]) (clN:Cls K cs.nod) (naN:NoAt K cs.nod ["asked","within"]) (hsum:mg "sum"=none) :
  DefOk P w K mg base 1 "all_places" ["book"] (d9T cs):=by
 obtain ⟨f,fd,F,hm⟩:=T.ex
 refine ⟨f,fd,hm,F.kp,F.binds (fun _ _ _ _ _ _ us hl=>match us,hl with | [_],_=>rfl),okN F sc_places (fun vs H Q E h=>?_) (fun cdv A outer s H vs Q E hr h=>?_)⟩
 ·obtain ⟨b,A,p,B,rfl,_⟩:=h
  rfl
 ·obtain ⟨b,Ad,p,B,rfl,R,good,sz,kq⟩:=h
  obtain ⟨dx,ob⟩:=R.ob
  refine ⟨_,dA (dX (i:=1) sc_places.nd rfl (Or.inr rfl) (vU rfl sc_places.nd (gR (dM (pv 0) rfl)) (gJ (own:=[("person",3)]) (by show blkC ["book","places","node","person","formula"] (dB j2) _ [("person",3)]=true;decide +kernel))
    (fun _ _ _ _ _=>du (i:=3) sc_places.nd rfl (Or.inl rfl)) (fun _ _ _ _ _=>jh) (fun _ _ _ _ _=>dS)))
   (dA (yK PassesOwn.never rfl (gR (dM (pv 0) rfl)) (du (i:=2) sc_places.nd rfl (Or.inl rfl))
    (dE (dN (kZ PySem.F.plainAttrs_list PySem.F.slot_list_append PySem.F.type_list_append g7 (pv 1) (d0 (dP (dGH rfl) (by rfl) hsum PyProof.Rows.boot_sum
     (d0 (vU rfl sc_places.nd (gR (dM (pv 2) rfl)) (gJ (own:=[("formula",4)]) (by show blkC ["book","places","node","person","formula"] (dB j2) _ [("formula",4)]=true;decide +kernel))
      (fun _ _ _ _ _=>du (i:=4) sc_places.nd rfl (Or.inl rfl)) (fun _ _ _ _ _=>jh) (fun _ _ _ _ _=>je (d9n (K:=K) rfl) (pv 1) (pv 4) (fun _ _=>rfl))) dD)) dD)))))
    (dE (dZ (pv 1)))),?_⟩
  refine ⟨_,rfl,b,cs.boo,dx,_,_,rfl,ob,clB,naB _ (by simp),gm _ _ _ _ _,Ad.pa,rfl,⟨_,SqL.of R.people⟩,fun D hD=>?_⟩
  refine jN (xs:=B.people.map fun x=>V.str (mkS x)) (fun i H'=>H'=upd H D (.lst (nV (List.replicate i 1)))) rfl ?_ ?_ ?_
  ·rintro i H' _ rfl
   exact SqL.of (by rw [d8 (dC R.people hD)];exact R.people)
  ·rintro i x H' hx rfl
   have hi:i < B.people.length:=by have:=(List.getElem?_eq_some_iff.mp hx).1;rwa [List.length_map] at this
   refine ⟨rfl,_,d9,?_,?_⟩
   ·rw [dH,List.length_replicate]
    exact Nat.lt_trans (Nat.lt_trans hi sz.pe) (by decide)
   ·rw [jL,List.replicate_succ',jV]
    rfl
  rintro H1 rfl
  have hpl:(List.replicate (B.people.map fun x=>V.str (mkS x)).length 1)=plc B.P []:=by rw [List.length_map,dBq];rfl
  rw [hpl]
  have s0:Same H (upd H D (.lst (nV (plc B.P [])))):=fun c o q=>by rw [d8 (dC q hD)];exact q
  refine ⟨_,rfl,b,cs.boo,dx,_,_,rfl,s0 _ _ ob,clB,naB _ (by simp),kh _ _ _ _ _,Ad.na,rfl,⟨_,SqL.of (s0 _ _ R.nodes)⟩,?_⟩
  refine ue (xs:=Ad.nds.map fun x=>V.ref x.1) (fun i σ H'=>(∃ x y z,σ=[some (.ref b),some (.ref D),x,y,z])∧H' D=some (.lst (nV (plc B.P (B.ns.take i))))∧Same H H') ⟨⟨_,_,_,rfl⟩,by rw [List.take_zero];exact d9,s0⟩ ?_ ?_ ?_
  ·rintro i σ H' _ ⟨_,_,s1⟩
   exact SqL.of (s1 _ _ R.nodes)
  ·rintro i x σ H' hx ⟨⟨x1,y1,z1,rfl⟩,hl,s1⟩
   rw [List.getElem?_map] at hx
   cases hq:Ad.nds[i]? with
   | none=>rw [hq] at hx;cases hx
   | some nd=>
    rw [hq] at hx
    cases hx
    have hi:i < B.ns.length:=by rw [←R.len];exact (List.getElem?_eq_some_iff.mp hq).1
    have hn:B.ns[i]?=some B.ns[i]:=List.getElem?_eq_getElem hi
    obtain ⟨⟨dn,n1⟩,n2⟩:=R.at_ i nd B.ns[i] hq hn
    have hw:=sz.wi _ (List.getElem_mem hi)
    have hg:=(good i _ hn).1
    have hpll:(plc B.P (B.ns.take i)).length=B.P+i:=by rw [dA9,List.length_take,Nat.min_eq_left (Nat.le_of_lt hi)]
    refine ⟨_,rfl,.inl ⟨rfl,_,SqL.of hl⟩,_,rfl,nd.1,cs.nod,dn,_,_,rfl,s1 _ _ n1,clN,naN _ (by simp),uC _ _,nd.2,rfl,⟨_,SqL.of (s1 _ _ n2)⟩,fun D2 hD2=>?_⟩
    have hDD:D≠D2:=dC hl hD2
    refine jN (xs:=nV B.ns[i].2) (fun j H2=>H2=upd H' D2 (.lst (nV ((B.ns[i].2.take j).map fun k=>(plc B.P (B.ns.take i)).getD k 0)))) rfl ?_ ?_ ?_
    ·rintro j H2 _ rfl
     exact SqL.of (by rw [d8 (dC (s1 _ _ n2) hD2)];exact s1 _ _ n2)
    ·rintro j y H2 hy rfl
     unfold nV at hy
     rw [List.getElem?_map] at hy
     cases hk:B.ns[i].2[j]? with
     | none=>rw [hk] at hy;cases hy
     | some k=>
      rw [hk] at hy
      cases hy
      have hkl:k < (plc B.P (B.ns.take i)).length:=by rw [hpll];exact hg k (List.mem_of_getElem? hk)
      have hj:j < B.ns[i].2.length:=(List.getElem?_eq_some_iff.mp hk).1
      refine ⟨rfl,_,rfl,_,rfl,D,_,_,V.int ((((plc B.P (B.ns.take i)).getD k 0:Nat)):Int),rfl,rfl,SqL.of (by rw [d8 hDD];exact hl),uP (j:=k) rfl ?_,_,d9,?_,?_⟩
      ·unfold nV
       rw [List.getElem?_map,List.getElem?_eq_getElem hkl,List.getD_eq_getElem?_getD,List.getElem?_eq_getElem hkl]
       rfl
      ·rw [dH,List.length_map,List.length_take]
       exact Nat.lt_of_le_of_lt (Nat.min_le_left _ _) (Nat.lt_of_lt_of_le hj (Nat.le_trans hw (by decide)))
      ·rw [jL,List.take_succ,hk]
       show _=upd H' D2 (.lst (nV ((B.ns[i].2.take j++[k]).map fun k=>(plc B.P (B.ns.take i)).getD k 0)))
       rw [List.map_append]
       show _=upd H' D2 (.lst (nV ((B.ns[i].2.take j).map (fun k=>(plc B.P (B.ns.take i)).getD k 0)++[(plc B.P (B.ns.take i)).getD k 0])))
       rw [jV]
    ·rintro H2 rfl
     rw [dH,List.take_length]
     refine ⟨D2,(B.ns[i].2.map fun k=>(plc B.P (B.ns.take i)).getD k 0).map fun (i:Nat)=>(i:Int),rfl,SqL.of (by
      rw [d9]
      unfold nV
      simp only [List.map_map]
      rfl),?_⟩
     refine ⟨D,_,_,rfl,rfl,by rw [d8 hDD];exact hl,?_,?_⟩
     ·rw [dH,hpll]
      have h1:=sz.pe
      have h2:=sz.nd
      have h3:B.P=B.people.length:=rfl
      exact Nat.lt_trans (show B.P+i < 100000 by omega) dc
     ·refine ⟨⟨_,_,_,rfl⟩,?_,fun c o q=>?_⟩
      ·rw [d9,List.take_succ,hn]
       show _=some (HO.lst (nV (plc B.P (B.ns.take i++[B.ns[i]]))))
       rw [d9g,jV,nsum]
      ·have q1:=s1 c o q
       rw [d8 (dC q hD),d8 (dC q1 hD2)]
       exact q1
  ·rintro σ H' ⟨⟨x1,y1,z1,rfl⟩,hl,s1⟩
   rw [List.length_map,R.len,List.take_length] at hl
   exact ⟨_,rfl,kq D H' hl s1⟩
def d9l (cs:Cs):Sp:=fun vs H Q E=>∃ (b:Addr) (A:BkA) (p:Nat) (B:Bk),vs=[.ref b]∧BookAt cs H b A p B∧B.Ok∧Sz B ∧
 (small ⟨p,B.people,B.known.lets⟩=true→∀ H',Same H H'→Q .non H')∧(¬ small ⟨p,B.people,B.known.lets⟩=true→Thr E cs.ovl (-5))
theorem sc_limits:FnScope ["book","places","node","formula"] ["book"] (dB gc):=⟨rfl,rfl,rfl,by decide +kernel,rfl,by decide +kernel,by decide +kernel⟩
theorem dCB (T:FunT K mg "keep_limits" gc) (clB:Cls K cs.boo) (naB:NoAt K cs.boo ["prime","people","nodes","lets","names"]) (clN:Cls K cs.nod) (naN:NoAt K cs.nod ["asked","within"]) (hlen:mg "len"=none) (hany:mg "any"=none)
  (hP:∃ t,mg "MOST_PEOPLE"=some (.int 10 t)) (hL:∃ t,mg "MOST_LETS"=some (.int 16 t)) (hM:∃ t,mg "MOST_PLACES"=some (.int 24 t))
  (AP:DefOk P w K mg base 1 "all_places" ["book"] (d9T cs)) (OV:ExcOk P w K mg base 2 "OverLimit" cs.ovl ["self"] (uH K cs.ovl (-5))) :
  DefOk P w K mg base 4 "keep_limits" ["book"] (d9l cs):=by
 obtain ⟨f,fd,F,hm⟩:=T.ex
 obtain ⟨fC,fdC,hmC,MC,bC,GC⟩:=OV.ex
 obtain ⟨tp,hP⟩:=hP
 obtain ⟨tl',hL⟩:=hL
 obtain ⟨tm,hM⟩:=hM
 refine ⟨f,fd,hm,F.kp,F.binds (fun _ _ _ _ _ _ us hl=>match us,hl with | [_],_=>rfl),okX F sc_limits (fun vs H Q E h=>?_) (fun cdv A outer s H vs Q E hr h=>?_)⟩
 ·obtain ⟨b,A,p,B,rfl,_⟩:=h
  rfl
 ·obtain ⟨b,Ad,p,B,rfl,R,ok,sz,kq,kx⟩:=h
  obtain ⟨dx,ob⟩:=R.ob
  refine ⟨_,dA (gv (dA0 (dQ yq (dP dJ (by rfl) hlen PySem.boot_len (d0 (dM (pv 0) rfl) dD)) (da (v:=.int 10) (by rfl) hP ⟨tp,rfl⟩) (dW _))
    (yD (dQ yq (dP dJ (by rfl) hlen PySem.boot_len (d0 (dM (pv 0) rfl) dD)) (da (v:=.int 16) (by rfl) hL ⟨tl',rfl⟩) (dW _)))).pt (dE (jf MC GC hr bC rfl hmC)) dq)
   (dA (gv (uF (dP (d9O rfl) (by rfl) hany PyProof.Rows.boot_any (d0 (vU rfl sc_limits.nd (gR (dM (pv 0) rfl)) (gJ (own:=[("node",2)]) (by show blkC ["book","places","node","formula"] (dB gc) _ [("node",2)]=true;decide +kernel))
    (fun _ _ _ _ _=>du (i:=2) sc_limits.nd rfl (Or.inl rfl)) (fun _ _ _ _ _=>jh) (fun _ _ _ _ _=>gi dCA (dP (dBn (K:=K) rfl) (by rfl) hlen PySem.boot_len (d0 (d8w (K:=K) rfl (pv 2)) dD)) (d8w (K:=K) rfl (pv 0)) (dW _))) dD))) (dE (jf MC GC hr bC rfl hmC)) dq)
   (dA (dX (i:=1) sc_limits.nd rfl (Or.inr rfl) (dj (AP.mono (by decide:1≤3)) hr rfl dG (d0 (pv 0) dD)))
   (dE (gv (uF (dP (d9O rfl) (by rfl) hany PyProof.Rows.boot_any (d0 (vU rfl sc_limits.nd (gR (dM (pv 0) rfl)) (gJ (own:=[("formula",3)]) (by show blkC ["book","places","node","formula"] (dB gc) _ [("formula",3)]=true;decide +kernel))
    (fun _ _ _ _ _=>du (i:=3) sc_limits.nd rfl (Or.inl rfl)) (fun _ _ _ _ _=>jh) (fun _ _ _ _ _=>gi yq (je (d9n (K:=K) rfl) (pv 1) (pv 3) (fun _ _=>rfl)) (da (v:=.int 24) (by rfl) hM ⟨tm,rfl⟩) (dW _))) dD))) (dE (jf MC GC hr bC rfl hmC)) dq)))),?_⟩
  have siff:=d69 ok p
  have thr:∀ (H1:Hp),¬ small ⟨p,B.people,B.known.lets⟩=true→d78 cs.ovl (uH K cs.ovl (-5)) E tNil { nx:=fun _ H'=>Q .non H',rt:=Q } [] H1:=fun H1 hn=>
   ⟨Nat.zero_le _,fun x hx=>⟨x,rfl,d9,fun dy H' h1 h2 h3 h4=>⟨rfl,x,dy,rfl,h1,by
    have hdx:dy≠x:=fun z=>by rw [z,d9] at h3;cases h3
    exact kx hn dy _ (by rw [jI hdx];exact h2)⟩⟩⟩
  refine ⟨_,rfl,b,cs.boo,dx,_,_,rfl,ob,clB,naB _ (by simp),gm _ _ _ _ _,_,_,rfl,.inl (SqL.of R.people),_,_,rfl,rfl,_,rfl,ite2 (fun hc=>?_) fun hc=>?_⟩
  ·have h1:(10:Int) < ((B.people.map fun x=>V.str (mkS x)).length:Int):=of_decide_eq_true hc
   rw [List.length_map] at h1
   refine iteT ?_
   exact thr _ fun z=>by have:=(siff.mp z).1;omega
  have h1:¬ (10:Int) < ((B.people.map fun x=>V.str (mkS x)).length:Int):=fun z=>hc (decide_eq_true z)
  rw [List.length_map] at h1
  refine ⟨_,rfl,b,cs.boo,dx,_,_,rfl,ob,clB,naB _ (by simp),ul _ _ _ _ _,_,_,rfl,.inl (SqL.of R.lets),_,_,rfl,rfl,_,rfl,ite2 (fun hc=>?_) fun hc=>?_⟩
  ·have h2:(16:Int) < ((nV (B.ls.map (·.2))).length:Int):=of_decide_eq_true hc
   rw [dH,List.length_map] at h2
   exact thr _ fun z=>by have:=(siff.mp z).2.1;omega
  have h2:¬ (16:Int) < ((nV (B.ls.map (·.2))).length:Int):=fun z=>hc (decide_eq_true z)
  rw [dH,List.length_map] at h2
  refine ⟨_,rfl,b,cs.boo,dx,_,_,rfl,ob,clB,naB _ (by simp),kh _ _ _ _ _,Ad.na,rfl,⟨_,SqL.of R.nodes⟩,fun D hD=>?_⟩
  have s0:∀ xs,Same H (upd H D (.lst xs)):=fun xs c o q=>by rw [d8 (dC q hD)];exact q
  refine jN (xs:=Ad.nds.map fun x=>V.ref x.1) (fun i H'=>H'=upd H D (.lst (((B.ns.take i).map fun n=>decide ((p:Int)≤(n.2.length:Int))).map V.bl))) rfl ?_ ?_ ?_
  ·rintro i H' _ rfl
   exact SqL.of (s0 _ _ _ R.nodes)
  ·rintro i x H' hx rfl
   rw [List.getElem?_map] at hx
   cases hq:Ad.nds[i]? with
   | none=>rw [hq] at hx;cases hx
   | some nd=>
    rw [hq] at hx
    cases hx
    have hi:i < B.ns.length:=by rw [←R.len];exact (List.getElem?_eq_some_iff.mp hq).1
    have hn:B.ns[i]?=some B.ns[i]:=List.getElem?_eq_getElem hi
    obtain ⟨⟨dn,n1⟩,n2⟩:=R.at_ i nd B.ns[i] hq hn
    refine ⟨rfl,_,rfl,nd.1,cs.nod,dn,_,_,rfl,s0 _ _ _ n1,clN,naN _ (by simp),uC _ _,_,_,rfl,.inl (SqL.of (s0 _ _ _ n2)),_,rfl,b,cs.boo,dx,_,_,rfl,s0 _ _ _ ob,clB,naB _ (by simp),wH _ _ _ _ _,_,_,rfl,rfl,_,d9,?_,?_⟩
    ·rw [List.length_map,List.length_map,List.length_take]
     exact Nat.lt_of_le_of_lt (Nat.min_le_left _ _) (Nat.lt_trans (Nat.lt_trans hi sz.nd) (by decide))
    ·rw [jL,List.take_succ,hn,dH]
     show _=upd H D (.lst (((B.ns.take i++[B.ns[i]]).map _).map V.bl))
     rw [List.map_append,List.map_append]
     rfl
  rintro H1 rfl
  rw [List.length_map,R.len,List.take_length]
  refine ⟨D,_,rfl,SqL.of d9,_,rfl,ite2 (fun hc=>?_) fun hc=>?_⟩
  ·refine thr _ fun z=>?_
   obtain ⟨x,hx,hx2⟩:=List.any_eq_true.mp hc
   obtain ⟨n,hn,rfl⟩:=List.mem_map.mp hx
   have h3:(p:Int)≤(n.2.length:Int):=of_decide_eq_true hx2
   have:=(siff.mp z).2.2.1 n hn
   omega
  have nar:w6 p B.ns:=fun n hn=>by
   refine Nat.lt_of_not_le fun z=>hc (List.any_eq_true.mpr ⟨_,List.mem_map.mpr ⟨n,hn,rfl⟩,?_⟩)
   exact decide_eq_true (by omega)
  refine ⟨_,rfl,b,Ad,p,B,rfl,R.keep (Kp.same (s0 _) []) (fun x hx=>by simp at hx),ok.good,sz,fun D1 H2 hD1 s1=>?_⟩
  have s2:Same H H2:=(s0 _).trans s1
  refine ⟨_,rfl,b,cs.boo,dx,_,_,rfl,s2 _ _ ob,clB,naB _ (by simp),ul _ _ _ _ _,Ad.la,rfl,⟨_,SqL.of (s2 _ _ R.lets)⟩,fun D2 hD2=>?_⟩
  have s3:∀ xs,Same H2 (upd H2 D2 (.lst xs)):=fun xs c o q=>by rw [d8 (dC q hD2)];exact q
  have atp:∀ k,k∈B.ls.map (·.2)→(plc B.P B.ns)[k]?=some ((leaves (den B.P B.ns k)).length):=fun k hk=>by
   obtain ⟨x,hx,rfl⟩:=List.mem_map.mp hk
   exact dG8 ok.good (ok.lt x hx)
  refine jN (xs:=nV (B.ls.map (·.2))) (fun i H'=>H'=upd H2 D2 (.lst ((((B.ls.map (·.2)).take i).map fun k=>decide ((24:Int) < ((leaves (den B.P B.ns k)).length:Int))).map V.bl))) rfl ?_ ?_ ?_
  ·rintro i H' _ rfl
   exact SqL.of (s3 _ _ _ (s2 _ _ R.lets))
  ·rintro i x H' hx rfl
   unfold nV at hx
   rw [List.getElem?_map] at hx
   cases hk:(B.ls.map (·.2))[i]? with
   | none=>rw [hk] at hx;cases hx
   | some k=>
    rw [hk] at hx
    cases hx
    have hi:i < (B.ls.map (·.2)).length:=(List.getElem?_eq_some_iff.mp hk).1
    refine ⟨rfl,_,rfl,_,rfl,D1,_,_,V.int (((leaves (den B.P B.ns k)).length:Nat):Int),rfl,rfl,SqL.of (s3 _ _ _ hD1),uP (j:=k) rfl ?_,_,_,rfl,rfl,_,d9,?_,?_⟩
    ·unfold nV
     rw [List.getElem?_map,atp k (List.mem_of_getElem? hk)]
     rfl
    ·rw [List.length_map,List.length_map,List.length_take]
     rw [List.length_map] at hi
     exact Nat.lt_of_le_of_lt (Nat.min_le_left _ _) (Nat.lt_trans (Nat.lt_trans hi sz.le) (by decide))
    ·rw [jL,List.take_succ,hk]
     show _=upd H2 D2 (.lst ((((B.ls.map (·.2)).take i++[k]).map _).map V.bl))
     rw [List.map_append,List.map_append]
     rfl
  rintro H3 rfl
  rw [dH,List.take_length]
  refine ⟨D2,_,rfl,SqL.of d9,_,rfl,ite2 (fun hc=>?_) fun hc=>?_⟩
  ·refine thr _ fun z=>?_
   obtain ⟨x,hx,hx2⟩:=List.any_eq_true.mp hc
   obtain ⟨k,hk,rfl⟩:=List.mem_map.mp hx
   obtain ⟨y,hy,rfl⟩:=List.mem_map.mp hk
   have h3:(24:Int) < ((leaves (den B.P B.ns y.2)).length:Int):=of_decide_eq_true hx2
   have:=(siff.mp z).2.2.2 y hy
   omega
  ·refine kq (siff.mpr ⟨by omega,by omega,nar,fun x hx=>Nat.le_of_not_lt fun z=>hc (List.any_eq_true.mpr ⟨_,List.mem_map.mpr ⟨x.2,List.mem_map.mpr ⟨x,hx,rfl⟩,rfl⟩,?_⟩)⟩) _ (s2.trans (s3 _))
   exact decide_eq_true (by omega)
end
end Pg
end
section
set_option linter.all false
set_option maxRecDepth 100000
set_option maxHeartbeats 4000000
namespace Pg
open PySem L2 Xc Sp Rb35
theorem dGS {x:Str}{g:TG}{tt:TT}{te:TE}{vs:List Nat}{σ:L2.St}{H1:Hp}{D:Addr}{Qd:Hp→Prop} (Pv:Nat→Hp→Prop) (h0:Pv 0 (upd H1 D (.lst [])))
  (hs:∀ i c H,x.cps.toList[i]?=some c→Pv i H→g (.str ⟨#[c]⟩) (wipe σ vs) H fun σ2 H2=>wipe σ2 vs=wipe σ vs∧tt σ2 H2 fun b H3=>
   if b=true then te σ2 H3 fun y H4=>∃ acc,H4 D=some (.lst acc)∧acc.length < sizeLine∧Pv (i+1) (upd H4 D (.lst (acc++[y]))) else Pv (i+1) H3) (hd:∀ H,Pv x.cps.toList.length H→Qd H) :
  ∃ W:Nat→Nat→Hp→Prop,(∃ m,W 0 m (upd H1 D (.lst [])))∧∀ i m H,W i m H →
   ((Its x).stop i H∧Qd H)∨((Its x).go i H∧∃ Nx:Hp→Prop,(∀ H',Nx H'→∃ m',m' < m∧W (i+1) m' H')∧∀ y H',(Its x).yld i H y H'→g y (wipe σ vs) H' fun σ2 H2=>wipe σ2 vs=wipe σ vs∧tt σ2 H2 fun b H3=>
    if b=true then te σ2 H3 fun y H4=>∃ acc,H4 D=some (.lst acc)∧acc.length < sizeLine∧Nx (upd H4 D (.lst (acc++[y]))) else Nx H3):=by
 have hl:x.cps.toList.length=x.cps.size:=Array.length_toList
 refine ⟨fun i m H=>m=x.cps.toList.length-i∧i≤x.cps.toList.length∧Pv i H,⟨x.cps.toList.length,by simp,Nat.zero_le _,h0⟩,?_⟩
 rintro i m H ⟨rfl,hi,p⟩
 by_cases hlt:i < x.cps.toList.length
 ·refine .inr ⟨by show i < x.cps.size;omega,Pv (i+1),fun H' p'=>⟨x.cps.toList.length-(i+1),by omega,rfl,hlt,p'⟩,fun y H' q=>?_⟩
  obtain ⟨e,c,hc,rfl⟩:=q
  subst e
  exact hs i c _ (by rw [←hc];simp) p
 ·have e:i=x.cps.toList.length:=by omega
  subst e
  exact .inl ⟨by show x.cps.size≤_;omega,hd H p⟩
def allS:Str:=("abcdefghijklmnopqrstuvwxyz0123456789_":Str)++("(),;=&|#\n":Str)
def allL:List Nat:=List.range' 97 26++(List.range' 48 10++[95])++[40,41,44,59,61,38,124,35,10]
theorem dAo:allS.cps.toList=allL:=by decide +kernel
def kvOf (c:Nat):Key×V:=(Sum.inl (c:Int),V.str ⟨#[c]⟩)
def uJ (d:List (Key×V)) (l:List Int):List (Key×V):=l.foldl (fun d b=>putK d (Sum.inl b) (V.str " ")) d
theorem dAP (d:List (Key×V)):uJ d []=d:=rfl
theorem d8f (d:List (Key×V)) (l:List Int) (b:Int):uJ d (l++[b])=putK (uJ d l) (Sum.inl b) (V.str " "):=by
 unfold uJ
 rw [List.foldl_append]
 rfl
theorem wn:∀ (l:List Int) (d:List (Key×V)),(uJ d l).length≤d.length+l.length
 | [],d=>Nat.le_refl _
 | a::r,d=>by
  have h1:=wn r (putK d (Sum.inl a) (V.str " "))
  have h2:=jY d (Sum.inl a) (V.str " ")
  show (uJ (putK d (Sum.inl a) (V.str " ")) r).length≤_
  rw [List.length_cons]
  omega
def rowM:List (Key×V):=uK [] (allL.map kvOf)
def rowD:List (Key×V):=uJ rowM [9,13,32]
theorem dCY:∀ b:Nat,b < 256→(valV rowD (Sum.inl (b:Int))).getD (V.str "?")=V.str (mkS [cls b]):=by decide +kernel
theorem wy:∀ (l:List (Key×V)) (d:List (Key×V)),(uK d l).length≤d.length+l.length
 | [],d=>Nat.le_refl _
 | a::r,d=>by
  have h:=wy r (putK d a.1 a.2)
  have h2:=jY d a.1 a.2
  show (uK (putK d a.1 a.2) r).length≤_
  rw [List.length_cons]
  omega
theorem dD9:rowM.length≤46:=by
 have h:=wy (allL.map kvOf) []
 have h4:(allL.map kvOf).length=46:=by decide
 rw [h4] at h
 exact h
def dFN (K:PySem.W.Frag):Sp:=fun vs H Q _=>∃ (la:Addr) (bs:List Nat),vs=[.ref la]∧SqL K H la (nV bs)∧(∀ b∈bs,b < 256)∧bs.length≤10000∧∀ H',Same H H'→Q (.str (mkS (bs.map cls))) H'
theorem dDa (bs:List Nat):Txt.join ("":Str) (bs.map fun b=>mkS [cls b])=mkS (bs.map cls):=by
 rw [TL.join_eq]
 refine TL.ext_tl ?_
 rw [TL.tl_join]
 have e0:TL.tl ("":Str)=[]:=by decide +kernel
 rw [e0,List.map_map]
 show TL.joinL [] (bs.map fun b=>[cls b])=bs.map cls
 induction bs with
 | nil=>rfl
 | cons a r ih=>
  cases r with
  | nil=>rfl
  | cons b r=>
   show [cls a]++([]++TL.joinL [] ((b::r).map fun b=>[cls b]))=cls a::(b::r).map cls
   rw [ih]
   rfl
section
variable {P:Program}{w:World}{K:PySem.W.Frag}{mg:Str→Option Value}{base:Heap}{cs:Cs}
theorem sc_row:FnScope ["text","signs","byte","sign"] ["text"] (dB kd):=⟨rfl,rfl,rfl,by decide +kernel,rfl,by decide +kernel,by decide +kernel⟩
theorem dG9 (T:FunT K mg "row_of" kd) (hord:mg "ord"=none) (hdict:mg "dict"=none) (hW:∃ t,mg "WORD_SIGNS"=some (.str "abcdefghijklmnopqrstuvwxyz0123456789_" t)) (hO:∃ t,mg "OTHER_SIGNS"=some (.str "(),;=&|#\n" t))
  (hB:∃ a,mg "BLANK_BYTES"=some (.ref a)∧∀ H,SqT K H a [V.int 9,V.int 13,V.int 32]):DefOk P w K mg base 1 "row_of" ["text"] (dFN K):=by
 obtain ⟨f,fd,F,hm⟩:=T.ex
 obtain ⟨t1,hW⟩:=hW
 obtain ⟨t2,hO⟩:=hO
 obtain ⟨ba,hB,hsq⟩:=hB
 refine ⟨f,fd,hm,F.kp,F.binds (fun _ _ _ _ _ _ us hl=>match us,hl with | [_],_=>rfl),okN (k:=0) F sc_row (fun vs H Q E h=>?_) (fun cdv A outer s H vs Q E hr h=>?_)⟩
 ·obtain ⟨la,bs,rfl,_⟩:=h
  rfl
 ·obtain ⟨la,bs,rfl,hla,hbs,hlen,kq⟩:=h
  refine ⟨_,dA (dX (i:=1) sc_row.nd rfl (Or.inr rfl) (kX (dA7 rfl) (by rfl) hdict PyProof.Rows.boot_dict (d0 (vU rfl sc_row.nd (dGC (jT d9r (da (v:=.str "abcdefghijklmnopqrstuvwxyz0123456789_") (by rfl) hW ⟨t1,rfl⟩) (da (v:=.str "(),;=&|#\n") (by rfl) hO ⟨t2,rfl⟩)))
    (gJ (own:=[("sign",3)]) (by show blkC ["text","signs","byte","sign"] (dB kd) _ [("sign",3)]=true;decide +kernel)) (fun _ _ _ _ _=>du (i:=3) sc_row.nd rfl (Or.inl rfl)) (fun _ _ _ _ _=>jh)
    (fun _ _ _ _ _=>dEA (d0 (dP dCZ (by rfl) hord PyProof.Rows.boot_ord (d0 (pv 3) dD)) (d0 (pv 3) dD)))) dD)))
   (dA (yK PassesOwn.never rfl (dGB (da (v:=.ref ba) (by rfl) hB rfl)) (du (i:=2) sc_row.nd rfl (Or.inl rfl)) (dE (d8v (d8j hr) (pv 1) (pv 2) gQ rfl)))
   (dE (dZ (dFC gQ (vU rfl sc_row.nd (gR (pv 0)) (gJ (own:=[("byte",2)]) (by show blkC ["text","signs","byte","sign"] (dB kd) _ [("byte",2)]=true;decide +kernel))
    (fun _ _ _ _ _=>du (i:=2) sc_row.nd rfl (Or.inl rfl)) (fun _ _ _ _ _=>jh) (fun _ _ _ _ _=>dDC (d8j hr) (pv 1) (pv 2) gQ ⟨rfl,rfl,rfl,rfl⟩)))))),?_⟩
  refine ⟨_,_,rfl,rfl,by decide +kernel,allS,rfl,fun D hD=>?_⟩
  refine dGS (x:=allS) (fun i H'=>∃ ps:List Addr,ps.length=i∧H' D=some (.lst (ps.map V.ref))∧Paired (fun q kv=>H' q=some (.tup [kV kv.1,kv.2])) ps ((allL.take i).map kvOf)∧Same H H') ⟨[],rfl,d9,.nil,fun c o q=>by rw [d8 (dC q hD)];exact q⟩ ?_ ?_
  ·rintro i c H' hc ⟨ps,hps,hl,hp,s1⟩
   rw [dAo] at hc
   refine ⟨rfl,_,rfl,⟨#[c]⟩,rfl,rfl,_,rfl,by show 2≤sizeLine;decide,fun q hq=>?_⟩
   have hDq:D≠q:=dC hl hq
   have hi:i < allL.length:=(List.getElem?_eq_some_iff.mp hc).1
   refine ⟨_,by rw [d8 hDq];exact hl,?_,ps++[q],by rw [List.length_append,hps];rfl,?_,?_,fun a o e=>?_⟩
   ·rw [List.length_map,hps]
    exact Nat.lt_trans (Nat.lt_of_lt_of_le hi (show allL.length≤100000 by decide)) dc
   ·rw [d9,List.map_append]
    rfl
   ·rw [List.take_succ,hc]
    show Paired _ (ps++[q]) (((allL.take i)++[c]).map kvOf)
    rw [List.map_append]
    refine Paired.snoc (Paired.mapP hp fun y kv e=>?_) ?_
    ·rw [d8 (uq e hl (by intro z;cases z)),d8 (dC e hq)]
     exact e
    ·rw [d8 hDq.symm,d9]
     rfl
   ·have e1:=s1 a o e
    rw [d8 (dC e hD),d8 (dC e1 hq)]
    exact e1
  rintro H1 ⟨ps,hps,hl,hp,s1⟩
  rw [dAo,List.take_length] at hp
  refine ⟨D,ps,allL.map kvOf,rfl,SqL.of hl,Paired.mapP hp fun y kv e=>SqT.of e,fun dd hdd=>?_⟩
  have s2:∀ o,Same H (upd H1 dd o):=fun o a u e=>by
   have e1:=s1 a u e
   rw [d8 (dC e1 hdd)]
   exact e1
  have nd1:H dd=none:=s1.free hdd
  show tSeq _ _ _ _ (upd H1 dd (.dK rowM))
  have hM:=dD9
  have hD':rowD=uJ rowM [9,13,32]:=rfl
  generalize rowM=M at hM hD' ⊢
  refine ⟨ba,rfl,⟨_,hsq _⟩,?_⟩
  refine dFK (xs:=[V.int 9,V.int 13,V.int 32]) (fun j σ H'=>(∃ x y,σ=[some (.ref la),some (.ref dd),x,y])∧H' dd=some (.dK (uJ M (([9,13,32]:List Int).take j)))∧Same H H') ⟨⟨_,_,rfl⟩,by rw [List.take_zero,dAP];exact d9,s2 _⟩ (fun _ _ _ _ _=>hsq _) ?_ ?_
  ·rintro j x σ H' hx ⟨⟨y1,y2,rfl⟩,hd,s3⟩
   have hb:∃ b:Int,x=V.int b∧([9,13,32]:List Int)[j]?=some b:=by
    match j,hx with
    | 0,hx=>exact ⟨9,by simpa using hx.symm,rfl⟩
    | 1,hx=>exact ⟨13,by simpa using hx.symm,rfl⟩
    | 2,hx=>exact ⟨32,by simpa using hx.symm,rfl⟩
    | j+3,hx=>simp at hx
   obtain ⟨b,rfl,hb⟩:=hb
   refine ⟨_,rfl,_,rfl,dd,_,rfl,DPut.k (k:=Sum.inl b) hd ?_,⟨_,_,rfl⟩,?_,fun a u e=>?_⟩
   ·have h1:=wn (([9,13,32]:List Int).take j) M
    have h3:(([9,13,32]:List Int).take j).length≤3:=by rw [List.length_take];exact Nat.min_le_right _ _
    exact Nat.lt_trans (show _ < 100000 by omega) dc
   ·rw [d9,List.take_succ,hb]
    show _=some (HO.dK (uJ _ ((([9,13,32]:List Int).take j)++[b])))
    rw [d8f]
   ·rw [d8 (dC e nd1)]
    exact s3 a u e
  rintro σ H2 ⟨⟨y1,y2,rfl⟩,hd,s3⟩
  have e3:([9,13,32]:List Int).take ([V.int 9,V.int 13,V.int 32]:List V).length=[9,13,32]:=rfl
  have hd2:H2 dd=some (.dK rowD):=by rw [hD',←e3];exact hd
  have hrv:=dCY
  clear hD' hd e3
  generalize rowD=R at hd2 hrv
  refine ⟨⟨_,rfl⟩,_,rfl,la,rfl,⟨_,s3.seq hla⟩,fun D2 hD2=>?_⟩
  have s4:∀ xs,Same H2 (upd H2 D2 (.lst xs)):=fun xs a u e=>by rw [d8 (dC e hD2)];exact e
  refine jN (xs:=nV bs) (fun j H'=>H'=upd H2 D2 (.lst (((bs.take j).map fun b=>mkS [cls b]).map V.str))) rfl ?_ ?_ ?_
  ·rintro j H' _ rfl
   exact (s4 _).seq (s3.seq hla)
  ·rintro j x H' hx rfl
   unfold nV at hx
   rw [List.getElem?_map] at hx
   cases hb:bs[j]? with
   | none=>rw [hb] at hx;cases hx
   | some b=>
    rw [hb] at hx
    cases hx
    have hj:=(List.getElem?_eq_some_iff.mp hb).1
    have hd3:=s4 ((((bs.take j).map fun b=>mkS [cls b]).map V.str)) _ _ hd2
    refine ⟨rfl,_,rfl,dd,rfl,.inl ⟨_,.inl hd3⟩,_,rfl,_,DGet.k (k:=Sum.inl (b:Int)) hd3,_,d9,?_,?_⟩
    ·rw [List.length_map,List.length_map,List.length_take]
     exact Nat.lt_of_le_of_lt (Nat.min_le_left _ _) (Nat.lt_trans (show j < 100000 by omega) dc)
    ·rw [jL,List.take_succ,hb,hrv b (hbs b (List.mem_of_getElem? hb))]
     show _=upd H2 D2 (.lst (((bs.take j++[b]).map _).map V.str))
     rw [List.map_append,List.map_append]
     rfl
  ·rintro H3 rfl
   rw [dH,List.take_length]
   refine ⟨_,D2,bs.map fun b=>mkS [cls b],rfl,rfl,.inl (SqL.of d9),?_,?_⟩
   ·have e1:((bs.map fun b=>mkS [cls b]).map (·.length)).sum=bs.length:=by
     rw [List.map_map]
     clear hla hbs hlen kq hd2 s4
     induction bs with
     | nil=>rfl
     | cons a r ih=>rw [List.map_cons,List.sum_cons,ih,List.length_cons];show 1+_=_;omega
    have e2:("":Str).length=0:=by decide +kernel
    rw [e1,e2]
    omega
   ·rw [dDa]
    exact kq _ (s3.trans (s4 _))
end
end Pg
end
section
set_option linter.all false
set_option maxRecDepth 100000
set_option maxHeartbeats 4000000
namespace Pg
open PySem L2 Xc Sp Rb35
theorem wz (c:Nat) (r:List Nat):1≤dR (c::r):=by
 unfold dR
 dsimp only
 split
 ·rename_i h
  subst h
  rw [List.takeWhile_cons]
  simp
 ·split
  ·rename_i h
   rw [List.takeWhile_cons,show isWord c=true by simp [isWord,h]]
   simp
  ·split
   ·rename_i h
    rw [List.takeWhile_cons,h]
    simp
   ·exact Nat.le_refl _
theorem dDA {p:Nat→Bool}:∀ (l:List Nat),(l.takeWhile p).length≤l.length
 | []=>Nat.le_refl _
 | a::r=>by
  rw [List.takeWhile_cons]
  split
  ·rw [List.length_cons,List.length_cons]
   exact Nat.succ_le_succ (dDA r)
  ·exact Nat.zero_le _
theorem dB1 (c:Nat) (r:List Nat):dR (c::r)≤(c::r).length:=by
 unfold dR
 dsimp only
 split
 ·exact dDA _
 ·split
  ·exact dDA _
  ·split
   ·exact dDA _
   ·show 1≤r.length+1;omega
theorem dCL (f at_:Nat):kO f at_ []=[([],at_)]:=by cases f <;> rfl
theorem vD:∀ (f at_:Nat) (l:List Nat),∃ xs p,kO f at_ l=xs++[([],p)]
 | 0,at_,l=>⟨[],at_,rfl⟩
 | f+1,at_,[]=>⟨[],at_,rfl⟩
 | f+1,at_,c::r=>by
  rw [kB]
  obtain ⟨xs,p,e⟩:=vD f (at_+dR (c::r)) ((c::r).drop (dR (c::r)))
  split
  ·exact ⟨xs,p,e⟩
  ·exact ⟨_::xs,p,by rw [e];rfl⟩
theorem d5b:∀ (f at_:Nat) (l:List Nat),(kO f at_ l).length≤f+1
 | 0,at_,l=>Nat.le_refl _
 | f+1,at_,[]=>by show 1≤_;omega
 | f+1,at_,c::r=>by
  rw [kB]
  have h:=d5b f (at_+dR (c::r)) ((c::r).drop (dR (c::r)))
  split
  ·omega
  ·rw [List.length_cons];omega
theorem dCd {c:Nat}{r:List Nat} (h:dl ((c::r).take (dR (c::r)))="number"):∀ x∈(c::r).take (dR (c::r)),isDigit x=true:=by
 have hp:=wz c r
 obtain ⟨n,hn⟩:∃ n,dR (c::r)=n+1:=⟨dR (c::r)-1,by omega⟩
 have hd:isDigit c=true:=by
  rw [hn,List.take_succ_cons] at h
  unfold dl at h
  dsimp only at h
  split at h
  ·exact absurd h (by decide +kernel)
  ·split at h
   ·rename_i q;exact q.1
   ·exact absurd h (by decide +kernel)
 have hs:=vz hd
 have e:dR (c::r)=((c::r).takeWhile isDigit).length:=by
  unfold dR
  dsimp only
  rw [if_neg (by intro z;subst z;revert hd;decide),if_neg (by rw [hs];decide),if_pos hd]
 rw [e,gP]
 intro x hx
 exact (gL hx).1
theorem vf:∀ (f at_:Nat) (l:List Nat),∀ t∈kO f at_ l,dl t.1="number"→∀ c∈t.1,isDigit c=true
 | 0,at_,l,t,ht,h=>by
  have:t=([],at_):=by simpa [kO] using ht
  subst this
  exact absurd h (by show ¬ dl []="number";decide +kernel)
 | f+1,at_,[],t,ht,h=>by
  have:t=([],at_):=by simpa [kO] using ht
  subst this
  exact absurd h (by show ¬ dl []="number";decide +kernel)
 | f+1,at_,c::r,t,ht,h=>by
  rw [kB] at ht
  split at ht
  ·exact vf f _ _ t ht h
  ·rcases List.mem_cons.mp ht with rfl | ht
   ·exact dCd h
   ·exact vf f _ _ t ht h
theorem dDZ (l:List Nat) (hl:l.length≤9000):TOk (kO (l.length+1) 0 l):=by
 refine ⟨fun i t h hne=>?_,vf _ _ _,by have:=d5b (l.length+1) 0 l;omega⟩
 obtain ⟨xs,p,e⟩:=vD (l.length+1) 0 l
 rw [e] at h ⊢
 have hi:i < xs.length:=by
  rcases Nat.lt_or_ge i xs.length with q | q
  ·exact q
  ·exfalso
   rw [List.getElem?_append_right q] at h
   cases q2:i-xs.length with
   | zero=>
    rw [q2] at h
    simp at h
    subst h
    exact hne rfl
   | succ n=>rw [q2] at h;simp at h
 have:i+1 < (xs++[(([]:List Nat),p)]).length:=by rw [List.length_append];simp;omega
 exact ⟨_,List.getElem?_eq_getElem this⟩
def ptk (bs:List Nat):List PT:=kO ((bs.map cls).length+1) 0 (bs.map cls)
theorem dFf {bs:List Nat} (h:bs.length≤9000):TOk (ptk bs):=dDZ _ (by rw [List.length_map];exact h)
theorem dCn {bs:List Nat} (h:∀ b∈bs,b < 256):tk (ptk bs) 0=toks bs:=by
 unfold tk ptk toks
 rw [List.drop_zero,List.length_map]
 exact vK _ _ _ h
def dE4 (K:PySem.W.Frag) (cs:Cs):Sp:=fun vs H Q _=>∃ (la:Addr) (bs:List Nat),vs=[.ref la]∧SqL K H la (nV bs)∧(∀ b∈bs,b < 256)∧bs.length≤9000∧∀ (lt:Addr) (as:List Addr) (H':Hp),ToksAt cs H' lt as (ptk bs)→H lt=none→Same H H'→Q (.ref lt) H'
theorem ToksAt.snoc {cs:Cs}{H H1:Hp}{lt x dx:Addr}{as:List Addr}{T:List PT}{t:PT} (R:ToksAt cs H lt as T) (s:Same H H1) (nx:H x=none) (h:H1 x=some (.ins cs.tok dx (tokG (dl t.1) (mkS t.1) (t.2:Int)))) :
  ToksAt cs (upd H1 lt (.lst (as.map V.ref++[V.ref x]))) lt (as++[x]) (T++[t]):=by
 refine ⟨by rw [d9,List.map_append];rfl,by rw [List.length_append,List.length_append,R.len];rfl,fun j a u e1 e2=>?_⟩
 by_cases hj:j < as.length
 ·rw [List.getElem?_append_left hj] at e1
  rw [List.getElem?_append_left (by rw [←R.len];exact hj)] at e2
  obtain ⟨dy,ha⟩:=R.at_ j a u e1 e2
  exact ⟨dy,by rw [d8 (jE (s _ _ ha) (s _ _ R.lst))];exact s _ _ ha⟩
 ·rw [List.getElem?_append_right (by omega)] at e1
  rw [List.getElem?_append_right (by rw [←R.len];omega)] at e2
  rw [←R.len] at e2
  cases q:j-as.length with
  | zero=>
   rw [q] at e1 e2
   simp at e1 e2
   subst e1 e2
   exact ⟨dx,by rw [d8 (jE h (s _ _ R.lst))];exact h⟩
  | succ n=>rw [q] at e1;simp at e1
theorem dDO (l:List Nat) (a n:Nat) (h:a+n≤l.length):cutS (mkS l) (some (a:Int)) (some ((a+n:Nat):Int))=mkS ((l.drop a).take n):=by
 unfold cutS
 rw [HT.sIx_nat,HT.sIx_nat,gA,Nat.min_eq_left h,Nat.min_eq_left (show a≤l.length by omega),Nat.add_sub_cancel_left]
 rfl
theorem d9h (c:Nat):decide (c∈(" \n#":Str).cps.toList)=jK c:=by
 have e:(" \n#":Str).cps.toList=[32,10,35]:=by decide +kernel
 rw [e]
 unfold jK
 by_cases h1:c=32
 ·simp [h1]
 ·by_cases h2:c=10
  ·simp [h2]
  ·by_cases h3:c=35
   ·simp [h3]
   ·simp [h1,h2,h3]
section
variable {P:Program}{w:World}{K:PySem.W.Frag}{mg:Str→Option Value}{base:Heap}{cs:Cs}
theorem sc_toks:FnScope ["text","row","tokens","place","end","word"] ["text"] (dB kc):=⟨rfl,rfl,rfl,by decide +kernel,rfl,by decide +kernel,by decide +kernel⟩
theorem dEc (T:FunT K mg "tokens_of" kc) (hlen:mg "len"=none) (hE:∃ t,mg "END"=some (.str "end" t)) (RO:DefOk P w K mg base 1 "row_of" ["text"] (dFN K)) (RE:DefOk P w K mg base 2 "run_end" ["row","place"] d9a) (KI:DefOk P w K mg base 1 "kind_of" ["word"] dEB)
  (TO:ClaOk P w K mg base 1 "Token" cs.tok ["self","kind","word","place"] (dAr cs)):DefOk P w K mg base 3 "tokens_of" ["text"] (dE4 K cs):=by
 obtain ⟨f,fd,F,hm⟩:=T.ex
 obtain ⟨t1,hE⟩:=hE
 refine ⟨f,fd,hm,F.kp,F.binds (fun _ _ _ _ _ _ us hl=>match us,hl with | [_],_=>rfl),okN F sc_toks (fun vs H Q E h=>?_) (fun cdv A outer s H vs Q E hr h=>?_)⟩
 ·obtain ⟨la,bs,rfl,_⟩:=h
  rfl
 ·obtain ⟨la,bs,rfl,hla,hbs,hlb,kq⟩:=h
  refine ⟨_,dA (dX (i:=1) sc_toks.nd rfl (Or.inl rfl) (dj (RO.mono (by decide:1≤2)) hr rfl dG (d0 (pv 0) dD)))
   (dA (dX (i:=2) sc_toks.nd rfl (Or.inl rfl) (jJ dD))
   (dA (dX (i:=3) sc_toks.nd rfl (Or.inl rfl) dS)
   (dA (jS PassesOwn.never (dQ d8C (pv 3) (dP gn (by rfl) hlen PySem.boot_len (d0 (pv 1) dD)) (dW _))
    (dA (dX (i:=4) sc_toks.nd rfl (Or.inl rfl) (dj RE hr rfl dG (d0 (pv 1) (d0 (pv 3) dD))))
    (dA (gv (dQ yr (je d2v (pv 1) (pv 3) (fun _ _=>rfl)) gQ (by rfl))
     (dA (dX (i:=5) sc_toks.nd rfl (Or.inl rfl) (uu dGQ (pv 1) (vE (pv 3)) (vE (pv 4))))
     (dE (dN (kZ PySem.F.plainAttrs_list PySem.F.slot_list_append PySem.F.type_list_append g7 (pv 2) (d0 (wI TO hr rfl dG (d0 (dj (KI.mono (by decide:1≤2)) hr rfl dG (d0 (pv 5) dD)) (d0 (pv 5) (d0 (pv 3) dD)))) dD))))) dq)
    (dE (dX (i:=3) sc_toks.nd rfl (Or.inl rfl) (pv 4))))))
   (dA (dN (kZ PySem.F.plainAttrs_list PySem.F.slot_list_append PySem.F.type_list_append g7 (pv 2) (d0 (wI TO hr rfl dG (d0 (da (v:=.str "end") (by rfl) hE ⟨t1,rfl⟩) (d0 gQ (d0 (dP gn (by rfl) hlen PySem.boot_len (d0 (pv 1) dD)) dD)))) dD)))
   (dE (dZ (pv 2))))))),?_⟩
  refine ⟨_,rfl,la,bs,rfl,hla,hbs,by omega,fun H1 s1=>?_⟩
  refine ⟨Nat.zero_le _,fun lt hlt=>?_⟩
  have nlt:H lt=none:=s1.free hlt
  have hll:(bs.map cls).length=bs.length:=List.length_map _
  have hsz:(mkS (bs.map cls)).length≤sizeLine:=by rw [gA,hll];exact Nat.le_trans (show _≤100000 by omega) (Nat.le_of_lt dc)
  refine kH (fun σ H'=>∃ (pl f:Nat) (as:List Addr) (T:List PT) (x y:Option V),σ=[some (.ref la),some (.str (mkS (bs.map cls))),some (.ref lt),some (.int (pl:Int)),x,y]∧pl≤(bs.map cls).length∧(bs.map cls).length-pl < f∧T.length≤pl∧ToksAt cs H' lt as T∧Same H H' ∧
   T++kO f pl ((bs.map cls).drop pl)=ptk bs) (fun σ _=>match σ with | [_,_,_,some (.int e),_,_]=>(bs.map cls).length-e.toNat | _=>0)
   ⟨0,(bs.map cls).length+1,[],[],none,none,rfl,Nat.zero_le _,by omega,Nat.le_refl _,⟨d9,rfl,fun j a t h=>by simp at h⟩,fun c o q=>by rw [d8 (dC (s1 _ _ q) hlt)];exact s1 _ _ q,rfl⟩ ?_
  rintro σ H2 ⟨pl,f,as,T,x1,y1,rfl,hpl,hf,hTl,R,s2,e⟩
  refine ⟨_,rfl,_,rfl,_,rfl,hsz,_,_,rfl,rfl,_,rfl,ite2 (fun hc=>?_) fun hc=>?_⟩
  ·have h1:((pl:Nat):Int) < ((mkS (bs.map cls)).length:Int):=of_decide_eq_true hc
   rw [gA] at h1
   have h2:pl < (bs.map cls).length:=by omega
   have hd:(bs.map cls).drop pl=(bs.map cls)[pl]::(bs.map cls).drop (pl+1):=List.drop_eq_getElem_cons h2
   have hrp:=wz (bs.map cls)[pl] ((bs.map cls).drop (pl+1))
   have hrl:=dB1 (bs.map cls)[pl] ((bs.map cls).drop (pl+1))
   rw [←hd] at hrp hrl
   rw [List.length_drop] at hrl
   obtain ⟨f',rfl⟩:∃ f',f=f'+1:=⟨f-1,by omega⟩
   have ep:kO (f'+1) pl ((bs.map cls).drop pl)=if jK (bs.map cls)[pl]=true then kO f' (pl+dR ((bs.map cls).drop pl)) ((bs.map cls).drop (pl+dR ((bs.map cls).drop pl)))
     else (((bs.map cls).drop pl).take (dR ((bs.map cls).drop pl)),pl)::kO f' (pl+dR ((bs.map cls).drop pl)) ((bs.map cls).drop (pl+dR ((bs.map cls).drop pl))):=by
    have:=kB f' pl (bs.map cls)[pl] ((bs.map cls).drop (pl+1))
    rw [←hd,List.drop_drop] at this
    exact this
   refine wgo ?_
   refine ⟨_,rfl,_,rfl,bs.map cls,pl,rfl,h2,by omega,?_⟩
   refine ⟨_,rfl,_,rfl,mkS (bs.map cls),_,(bs.map cls)[pl],rfl,rfl,hsz,ku (List.getElem?_eq_getElem h2),(bs.map cls)[pl],_,rfl,rfl,_,rfl,ite2 (fun hc2=>?_) fun hc2=>?_⟩
   ·rw [d9h] at hc2
    have hns:¬ jK (bs.map cls)[pl]=true:=by simpa using hc2
    rw [if_neg hns] at ep
    refine ⟨_,rfl,_,rfl,_,rfl,_,rfl,_,rfl,mkS (bs.map cls),rfl,hsz,?_⟩
    have hcut:=dDO (bs.map cls) pl (dR ((bs.map cls).drop pl)) (by omega)
    refine ⟨_,rfl,.inl ⟨rfl,_,SqL.of R.lst⟩,?_⟩
    have hwl:(((bs.map cls).drop pl).take (dR ((bs.map cls).drop pl))).length=dR ((bs.map cls).drop pl):=by rw [List.length_take,List.length_drop];omega
    refine ⟨_,rfl,((bs.map cls).drop pl).take (dR ((bs.map cls).drop pl)),by rw [←hcut];rfl,fun z=>by rw [z] at hwl;simp at hwl;omega,by omega,_,rfl,_,rfl,fun x dxn nx ndx nex=>?_⟩
    refine ⟨x,dxn,_,_,_,rfl,d9,fun H3 h3 k3=>⟨rfl,?_⟩⟩
    have s3:Same H2 H3:=Same.made nx ndx fun c o e hc=>k3 c o e (by simpa using hc)
    have hcut':cutS (mkS (bs.map cls)) (some (pl:Int)) (some ((pl+dR ((bs.map cls).drop pl):Nat):Int))=mkS (((bs.map cls).drop pl).take (dR ((bs.map cls).drop pl))):=hcut
    refine ⟨lt,_,_,rfl,rfl,s3 _ _ R.lst,?_,?_⟩
    ·rw [List.length_map,R.len]
     exact Nat.lt_trans (show _ < 100000 by omega) dc
    have R3:=R.snoc (t:=(((bs.map cls).drop pl).take (dR ((bs.map cls).drop pl)),pl)) s3 nx (by rw [←hcut'];exact h3)
    refine ⟨_,rfl,⟨pl+dR ((bs.map cls).drop pl),f',_,_,_,_,rfl,by omega,by omega,?_,R3,fun c o q=>?_,?_⟩,?_⟩
    ·rw [List.length_append,List.length_singleton];omega
    ·have q2:=s2 c o q
     rw [d8 (dC q nlt)]
     exact s3 _ _ q2
    ·rw [←e,ep,List.append_assoc]
     rfl
    ·show (bs.map cls).length-((pl+dR ((bs.map cls).drop pl):Nat):Int).toNat < (bs.map cls).length-((pl:Nat):Int).toNat
     omega
   ·rw [d9h] at hc2
    have hs:jK (bs.map cls)[pl]=true:=by simpa using hc2
    rw [if_pos hs] at ep
    refine ⟨_,rfl,⟨pl+dR ((bs.map cls).drop pl),f',as,T,_,_,rfl,by omega,by omega,by omega,R,s2,?_⟩,?_⟩
    ·rw [←e,ep]
    ·show (bs.map cls).length-((pl+dR ((bs.map cls).drop pl):Nat):Int).toNat < (bs.map cls).length-((pl:Nat):Int).toNat
     omega
  ·have h1:¬ ((pl:Nat):Int) < ((mkS (bs.map cls)).length:Int):=fun z=>hc (decide_eq_true z)
   rw [gA] at h1
   have hpe:pl=(bs.map cls).length:=by omega
   refine ⟨_,rfl,.inl ⟨rfl,_,SqL.of R.lst⟩,_,rfl,_,rfl,hsz,fun x dxn nx ndx nex=>?_⟩
   refine ⟨x,dxn,_,_,_,rfl,d9,fun H3 h3 k3=>⟨rfl,?_⟩⟩
   have s3:Same H2 H3:=Same.made nx ndx fun c o e hc=>k3 c o e (by simpa using hc)
   refine ⟨lt,_,_,rfl,rfl,s3 _ _ R.lst,?_,?_⟩
   ·rw [List.length_map,R.len]
    exact Nat.lt_trans (show _ < 100000 by omega) dc
   have lit0:("":Str)=mkS []:=by decide +kernel
   have R3:=R.snoc (t:=([],(bs.map cls).length)) s3 nx (by rw [←lit0,←gA];exact h3)
   refine ⟨_,rfl,kq lt (as++[x]) _ ?_ nlt fun c o q=>?_⟩
   ·rw [hpe,List.drop_length,dCL] at e
    rw [←e]
    exact R3
   ·rw [d8 (dC q nlt)]
    exact s3 _ _ (s2 c o q)
end
end Pg
end
section
set_option linter.all false
set_option maxRecDepth 100000
set_option maxHeartbeats 4000000
namespace Pg
open PySem L2 Xc Sp Rb35
def letT (e:Known) (t:Toks):Except Nat (Known×Toks):=(newName e (t.drop 1)).bind fun x=>(take_ 61 x.2).bind fun u=>(formula e u).bind fun y=>(take_ 59 y.2).map fun r=>(⟨e.people,e.lets++[(x.1,y.1)]⟩,r)
section
variable {T:List PT}{i:Nat}{t u v:PT}{e:Known}
theorem dDJ (ht:T[i]?=some t) (h:t.1=ascii "let"):ux e (tk T i)=(letT e (tk T i)).bind fun y=>ux y.1 y.2:=by
 rw [z0]
 unfold jm letT
 rw [yf ht,decide_eq_false (by rw [h];decide),if_neg (by decide),uZ d88 ht,decide_eq_true h,if_neg (by decide)]
 simp only [dO]
 refine dF fun x _=>dF fun u _=>dF fun y _=>?_
 cases take_ 59 y.2 <;> rfl
theorem dD2 (ht:T[i]?=some t) (h:t.1=[]):ux e (tk T i)=.ok e:=by
 rw [z0]
 unfold jm
 rw [yf ht,decide_eq_true h,if_pos rfl]
theorem dDY (ht:T[i]?=some t) (h:¬ t.1=[]) (h2:¬ t.1=ascii "let"):ux e (tk T i)=.error t.2:=by
 rw [z0]
 unfold jm
 rw [yf ht,decide_eq_false h,if_neg (by decide),uZ d88 ht,decide_eq_false h2,if_pos rfl,jr ht]
theorem dD8 (ht:T[i]?=some t) (h:t.1=ascii "let"):letT e (tk T i)=(newName e (tk T (i+1))).bind fun x=>(take_ 61 x.2).bind fun u=>(formula e u).bind fun y=>(take_ 59 y.2).map fun r=>(⟨e.people,e.lets++[(x.1,y.1)]⟩,r):=by
 unfold letT
 rw [vM d88 ht h]
 rfl
end
theorem yQ (t:Toks):program t=(Rb35.field t).bind fun x=>(gz x.2).bind fun y=>(ux y.1 y.2).map fun e=>⟨x.1,e.people,e.lets⟩:=by
 rw [dAE]
 refine dF fun x _=>?_
 unfold gz
 by_cases h:isKey "who" x.2=false
 ·rw [if_pos h,if_pos h]
  rfl
 ·rw [if_neg h,if_neg h,dO]
  refine dF fun y _=>?_
  cases take_ 59 y.2 <;> rfl
def dG6 (cs:Cs):Sp:=fun vs H Q E=>∃ (r lt:Addr) (as:List Addr) (T:List PT) (i:Nat) (b:Addr) (A:BkA) (p:Nat) (B:Bk) (t:PT),vs=[.ref r,.ref b]∧ReadAt cs H r lt as T i∧BookAt cs H b A p B∧lt≠A.na∧lt≠A.la∧B.Ok∧Fw B.ns [] (4*i)∧B.names.length≤i∧TOk T∧T[i]?=some t∧t.1=ascii "let" ∧
 (∀ (H':Hp) (j:Nat) (A':BkA) (ns':List dI) (x:Nat) (nm:Bytes) (u:PT),letT B.known (tk T i)=.ok ((⟨B.people,ns',B.ls++[(nm,x)]⟩:Bk).known,tk T j)→ReadAt cs H' r lt as T j→BookAt cs H' b A' p ⟨B.people,ns',B.ls++[(nm,x)]⟩→Sim A A' →
  (⟨B.people,ns',B.ls++[(nm,x)]⟩:Bk).Ok→Fw ns' [] (4*j)→Kp [r,A.na,A.la,A.ma] H H'→T[j]?=some u→i < j→Q .non H')∧(∀ k,letT B.known (tk T i)=.error k→Thr E cs.cst (-100-(k:Int)))
section
variable {P:Program}{w:World}{K:PySem.W.Frag}{mg:Str→Option Value}{base:Heap}{cs:Cs}
theorem sc_let:FnScope ["reader","book","name","formula"] ["reader","book"] (dB uO):=⟨rfl,rfl,rfl,by decide +kernel,rfl,by decide +kernel,by decide +kernel⟩
theorem dFS (co:CsOk cs) (T:FunT K mg "read_let" uO) (cl:Cls K cs.rea) (clB:Cls K cs.boo) (naB:NoAt K cs.boo ["prime","people","nodes","lets","names"])
  (TW:MetOk P w K mg base 5 cs.rea "take_written" ["self","word"] (kA cs)) (NN:MetOk P w K mg base 5 cs.rea "take_new_name" ["self","names"] (y3 cs false)) (FO:DefOk P w K mg base 8 "read_formula" ["reader","book"] (d6A cs)) (AL:MetOk P w K mg base 1 cs.boo "add_let" ["self","name","formula"] (d92 cs)) :
  DefOk P w K mg base 9 "read_let" ["reader","book"] (dG6 cs):=by
 obtain ⟨f,fd,F,hm⟩:=T.ex
 refine ⟨f,fd,hm,F.kp,F.binds (fun _ _ _ _ _ _ us hl=>match us,hl with | [_,_],_=>rfl),okX F sc_let (fun vs H Q E h=>?_) (fun cdv A outer s H vs Q E hr h=>?_)⟩
 ·obtain ⟨r,lt,as,T,i,b,A,p,B,t,rfl,_⟩:=h
  rfl
 ·obtain ⟨r,lt,as,T,i,b,Ad,p,B,t,rfl,R,Rb,hlna,hlla,ok,fw,hnl,tok,ht,hlet,kq,kx⟩:=h
  refine ⟨_,dA (dN (di (pv 0) cl (TW.mono (by decide:5≤8)) hr dY (d0 gQ dD)))
   (dA (dX (i:=2) sc_let.nd rfl (Or.inl rfl) (di (pv 0) cl (NN.mono (by decide:5≤8)) hr dY (d0 (dM (pv 1) rfl) dD)))
   (dA (dN (di (pv 0) cl (TW.mono (by decide:5≤8)) hr dY (d0 gQ dD)))
   (dA (dX (i:=3) sc_let.nd rfl (Or.inl rfl) (dj FO hr rfl dY (d0 (pv 0) (d0 (pv 1) dD))))
   (dA (dN (di (pv 0) cl (TW.mono (by decide:5≤8)) hr dY (d0 gQ dD)))
   (dE (dN (di (pv 1) clB (AL.mono (by decide:1≤8)) hr dG (d0 (pv 2) (d0 (pv 3) dD))))))))),?_⟩
  have hTl:=tok.few
  have e0:=dD8 (e:=B.known) ht hlet
  have mono:∀ {H1 H2:Hp},Kp [r] H1 H2→Kp [r,Ad.na,Ad.la,Ad.ma] H1 H2:=fun k=>k.mono fun x hx=>by simp at hx;simp [hx]
  obtain ⟨u,hu⟩:=tok.next i t ht (by rw [hlet];decide)
  refine g8 rfl R (by decide +kernel) (by decide +kernel) ?_
  refine ⟨r,lt,as,T,i,t,_,rfl,R,ht,fun _ H1 R1 k1=>?_,fun hq=>absurd ((wlit dAu).mpr hlet) hq⟩
  have Rb1:=Rb.read co R k1
  obtain ⟨db1,ob1⟩:=Rb1.ob
  refine g8 rfl R1 (by decide +kernel) (by decide +kernel) ?_
  refine ⟨_,rfl,b,cs.boo,db1,_,_,rfl,ob1,clB,naB _ (by simp),kD _ _ _ _ _,?_⟩
  have hval:(valV (nmK B.names) (Sum.inr (mkS u.1))).isSome=knows B.known u.1:=by
   rw [wY,Bk.knows_eq]
   cases look B.names u.1 <;> rfl
  refine ⟨r,lt,as,T,i+1,u,Ad.ma,nmK B.names,rfl,R1,hu,Rb1.names,fun hq H2 R2 k2=>?_,fun hq=>?_⟩
  ·rw [hval] at hq
   rw [dBe hu hq.1 hq.2] at e0
   have e1:letT B.known (tk T i)=(take_ 61 (tk T (i+2))).bind fun v=>(formula B.known v).bind fun y=>(take_ 59 y.2).map fun r=>(⟨B.known.people,B.known.lets++[(u.1,y.1)]⟩,r):=e0
   have hlook:look B.names u.1=none:=by
    have:=hq.2
    rw [Bk.knows_eq] at this
    cases q:look B.names u.1 with
    | none=>rfl
    | some z=>rw [q] at this;cases this
   have Rb2:=Rb1.read co R1 k2
   obtain ⟨v,hv⟩:=tok.next (i+1) u hu (fun z=>by have:=hq.1;rw [z] at this;exact absurd this (by decide +kernel))
   refine g8 rfl R2 (by decide +kernel) (by decide +kernel) ?_
   refine ⟨r,lt,as,T,i+2,v,_,rfl,R2,hv,fun h3 H3 R3 k3=>?_,fun h3=>kx v.2 ?_⟩
   ·have h61:=(wlit dFa).mp h3
    rw [vW (by decide) hv h61] at e1
    have e2:letT B.known (tk T i)=(formula B.known (tk T (i+3))).bind fun y=>(take_ 59 y.2).map fun r=>(⟨B.known.people,B.known.lets++[(u.1,y.1)]⟩,r):=e1
    have Rb3:=Rb2.read co R2 k3
    obtain ⟨y,hy⟩:=tok.next (i+2) v hv (by rw [h61];simp)
    refine ⟨_,rfl,_,rfl,r,lt,as,T,i+3,b,Ad,p,B,y,rfl,R3,Rb3,hlna,ok,fw.mono (by omega),tok,hy,fun H4 j A4 ns4 x z R4 Rb4 sim k4 ps4 fw4 hij hz ef=>?_,fun k hk=>kx k (by rw [e2,hk];rfl)⟩
    rw [ef] at e2
    have e3:letT B.known (tk T i)=(take_ 59 (tk T j)).map fun r=>(⟨B.known.people,B.known.lets++[(u.1,den B.P ns4 x)]⟩,r):=e2
    refine g8 rfl R4 (by decide +kernel) (by decide +kernel) ?_
    refine ⟨r,lt,as,T,j,z,_,rfl,R4,hz,fun h5 H5 R5 k5=>?_,fun h5=>kx z.2 ?_⟩
    ·have h59:=(wlit dAZ).mp h5
     rw [vW (by decide) hz h59] at e3
     obtain ⟨y5,hy5⟩:=tok.next j z hz (by rw [h59];simp)
     have Rb5:=Rb4.read co R4 k5
     obtain ⟨db5,ob5⟩:=Rb5.ob
     obtain ⟨okN,knN⟩:=ps4.done ok ⟨rfl,rfl⟩ rfl u.1
     have hjl:=(List.getElem?_eq_some_iff.mp hz).1
     refine ⟨_,rfl,b,db5,_,rfl,ob5,uc _ _ _ _ _ (by decide +kernel) (by decide +kernel) (by decide +kernel) (by decide +kernel) (by decide +kernel),_,rfl,_,rfl,?_⟩
     refine ⟨b,u.1,x,A4,p,{ B with ns:=ns4 },rfl,Rb5,hlook,by show B.names.length < 50000;omega,fun H6 Rb6 k6=>?_⟩
     have R6:=R5.keepL k6 fun q hq=>by
      simp only [List.mem_cons,List.not_mem_nil,or_false] at hq
      rcases hq with rfl | rfl
      ·exact ⟨by rw [sim.2.2.1];exact hlla.symm,fun C dx fs z=>by rw [Rb5.lets] at z;cases z⟩
      ·exact ⟨dCP Rb5.names R5.tk.lst,fun C dx fs z=>by rw [Rb5.names] at z;cases z⟩
     refine kq H6 (j+1) A4 ns4 x u.1 y5 ?_ R6 Rb6 sim okN (fw4.mono (by omega)) ?_ hy5 (by omega)
     ·rw [e3,knN]
      rfl
     ·rw [sim.2.2.1,sim.2.1] at k6
      exact (mono k1).trans ((mono k2).trans ((mono k3).trans ((k4.mono fun x hx=>by simp at hx ⊢;rcases hx with rfl | rfl <;> simp).trans ((mono k5).trans (k6.mono fun x hx=>by simp at hx ⊢;rcases hx with rfl | rfl <;> simp)))))
    ·rw [e3,v8 (by decide) hz fun q=>h5 ((wlit dAZ).mpr q)]
     rfl
   ·rw [e1,v8 (by decide) hv fun q=>h3 ((wlit dFa).mpr q)]
    rfl
  ·rw [hval] at hq
   refine kx u.2 ?_
   rw [e0,dDv hu hq]
   rfl
def yn (K:PySem.W.Frag) (cs:Cs):Sp:=fun vs H Q E=>∃ (la:Addr) (bs:List Nat),vs=[.ref la]∧SqL K H la (nV bs)∧(∀ b∈bs,b < 256)∧bs.length≤9000 ∧
 (∀ (G:Prog) (b:Addr) (A:BkA) (B:Bk) (H':Hp),taken bs=.good G→BookAt cs H' b A G.p B→B.Ok→Sz B→G.people=B.people→G.lets=B.known.lets→small G=true→Same H H'→Q (.ref b) H') ∧
 (∀ v,taken bs=.bad v→Thr E cs.cst v∧Thr E cs.ovl v)
theorem va {F:List Addr}{H H1 H2:Hp} (s:Same H H1) (k:Kp F H1 H2) (h:∀ x∈F,H x=none):Same H H2:=fun c o q=>k c o (s c o q) fun z=>by rw [h c z] at q;cases q
def LeI (cs:Cs) (H0:Hp) (la r lt:Addr) (as:List Addr) (T:List PT) (b:Addr) (A:BkA) (p:Nat) (l:List Bytes) (j0:Nat):L2.St→Hp→Prop:=fun σ H'=>
 ∃ (A':BkA) (B:Bk) (j:Nat) (u:PT),σ=[some (.ref la),some (.ref r),some (.ref b)]∧ReadAt cs H' r lt as T j∧BookAt cs H' b A' p B∧Sim A A'∧B.Ok∧Fw B.ns [] (4*j)∧B.names.length≤j∧Same H0 H'∧T[j]?=some u∧ux ⟨l,[]⟩ (tk T j0)=ux B.known (tk T j)
theorem sc_bookof:FnScope ["text","reader","book"] ["text"] (dB v9):=⟨rfl,rfl,rfl,by decide +kernel,rfl,by decide +kernel,by decide +kernel⟩
theorem dCI (co:CsOk cs) (T:FunT K mg "book_of" v9) (cl:Cls K cs.rea) (clT:Cls K cs.tok) (naT:NoAt K cs.tok ["kind","word","place"]) (hlen:mg "len"=none) (hLT:∃ t,mg "LONGEST_TEXT"=some (.int 65536 t)) (hE:∃ t,mg "END"=some (.str "end" t))
  (OR:ExcOk P w K mg base 2 "OutOfRange" cs.oor ["self"] (uH K cs.oor (-2))) (TO:DefOk P w K mg base 3 "tokens_of" ["text"] (dE4 K cs)) (RD:ClaOk P w K mg base 1 "Reader" cs.rea ["self","tokens"] (d9f cs)) (FR:DefOk P w K mg base 6 "read_field" ["reader"] (d9U cs))
  (BK:ClaOk P w K mg base 1 "Book" cs.boo ["self","prime"] (dDj cs)) (PE':DefOk P w K mg base 6 "read_people" ["reader","book"] (d97 cs)) (NW:MetOk P w K mg base 1 cs.rea "now" ["self"] (ug cs)) (LE:DefOk P w K mg base 9 "read_let" ["reader","book"] (dG6 cs))
  (TK:MetOk P w K mg base 4 cs.rea "take" ["self","stands"] (ui cs)) (LM:DefOk P w K mg base 4 "keep_limits" ["book"] (d9l cs)):DefOk P w K mg base 10 "book_of" ["text"] (yn K cs):=by
 obtain ⟨f,fd,F,hm⟩:=T.ex
 obtain ⟨fC,fdC,hmC,MC,bC,GC⟩:=OR.ex
 have GC9:=GC.mono (by decide:2≤8)
 obtain ⟨t1,hLT⟩:=hLT
 obtain ⟨t2,hE⟩:=hE
 refine ⟨f,fd,hm,F.kp,F.binds (fun _ _ _ _ _ _ us hl=>match us,hl with | [_],_=>rfl),okX F sc_bookof (fun vs H Q E h=>?_) (fun cdv A outer s H vs Q E hr h=>?_)⟩
 ·obtain ⟨la,bs,rfl,_⟩:=h
  rfl
 ·obtain ⟨la,bs,rfl,hla,hbs,hlb,kq,kx⟩:=h
  refine ⟨_,dA (gv (dQ yq (dP dJ (by rfl) hlen PySem.boot_len (d0 (pv 0) dD)) (da (v:=.int 65536) (by rfl) hLT ⟨t1,rfl⟩) (dW _)) (dE (jf MC GC9 hr bC rfl hmC)) dq)
   (dA (dX (i:=1) sc_bookof.nd rfl (Or.inl rfl) (wI (RD.mono (by decide:1≤8)) hr rfl dG (d0 (dj (TO.mono (by decide:3≤9)) hr rfl dG (d0 (pv 0) dD)) dD)))
   (dA (dX (i:=2) sc_bookof.nd rfl (Or.inl rfl) (wI (BK.mono (by decide:1≤8)) hr rfl dG (d0 (dj (FR.mono (by decide:6≤9)) hr rfl dY (d0 (pv 1) dD)) dD)))
   (dA (dN (dj (PE'.mono (by decide:6≤9)) hr rfl dY (d0 (pv 1) (d0 (pv 2) dD))))
   (dA (jS PassesOwn.leaving (dQ kL (dM (gX (pv 1) cl (NW.mono (by decide:1≤9)) hr dG) rfl) gQ (dW _)) (dE (dN (dj LE hr rfl dY (d0 (pv 1) (d0 (pv 2) dD))))))
   (dA (dN (di (pv 1) cl (TK.mono (by decide:4≤9)) hr dY (d0 (gi kL (dM (gX (pv 1) cl (NW.mono (by decide:1≤9)) hr dG) rfl) (da (v:=.str "end") (by rfl) hE ⟨t2,rfl⟩) (dW _)) dD)))
   (dA (dN (dj (LM.mono (by decide:4≤9)) hr rfl dY (d0 (pv 2) dD)))
   (dE (dZ (pv 2))))))))),?_⟩
  have tok:TOk (ptk bs):=dFf hlb
  have etk:=dCn hbs
  have hT0:∃ t,(ptk bs)[0]?=some t:=by
   obtain ⟨xs,p,e⟩:=vD ((bs.map cls).length+1) 0 (bs.map cls)
   have e':ptk bs=xs++[([],p)]:=e
   exact ⟨_,List.getElem?_eq_getElem (show 0 < (ptk bs).length by rw [e',List.length_append];simp)⟩
  obtain ⟨t0,ht0⟩:=hT0
  obtain ⟨T,hT⟩:∃ T,T=ptk bs:=⟨_,rfl⟩
  rw [←hT] at tok etk ht0
  have hTl:=tok.few
  have err:∀ k,program (toks bs)=.error k→Thr E cs.cst (-100-(k:Int)):=fun k hk=>by
   refine (kx _ ?_).1
   unfold taken
   rw [hk]
  have ep:program (toks bs)=(Rb35.field (tk T 0)).bind fun x=>(gz x.2).bind fun y=>(ux y.1 y.2).map fun e=>⟨x.1,e.people,e.lets⟩:=by
   rw [etk]
   exact yQ _
  refine ⟨_,rfl,_,_,rfl,.inl hla,_,_,rfl,rfl,_,rfl,ite2 (fun hc=>?_) fun _=>?_⟩
  ·exfalso
   have h1:(65536:Int) < ((nV bs).length:Int):=of_decide_eq_true hc
   rw [dH] at h1
   omega
  refine ⟨_,rfl,la,bs,rfl,hla,hbs,hlb,fun lt as H1 RT nlt s1=>?_⟩
  rw [←hT] at RT
  intro r dr nr ndr ner
  refine ⟨r,dr,lt,rfl,d9,fun H2 h2 k2=>⟨rfl,?_⟩⟩
  have s12:Same H1 H2:=Same.made nr ndr fun c o e hc=>k2 c o e (by simpa using hc)
  have s2:=s1.trans s12
  have nr0:H r=none:=s1.free nr
  have R2:ReadAt cs H2 r lt as T 0:=⟨⟨dr,h2⟩,s12 _ _ RT.lst,RT.len,fun j a t e1 e2=>by
   obtain ⟨dy,h⟩:=RT.at_ j a t e1 e2
   exact ⟨dy,s12 _ _ h⟩⟩
  refine ⟨_,rfl,r,lt,as,T,0,t0,rfl,R2,tok,ht0,fun H3 p j3 u3 ef R3 k3 hu3 _=>?_,fun k hk=>err k (by rw [ep,hk];rfl)⟩
  have s3:Same H H3:=va s2 k3 fun x hx=>by simp at hx;rw [hx];exact nr0
  rw [ef] at ep
  have ep1:program (toks bs)=(gz (tk T j3)).bind fun y=>(ux y.1 y.2).map fun e=>⟨p,e.people,e.lets⟩:=ep
  intro b db nb ndb neb
  refine ⟨b,db,(p:Int),rfl,d9,fun pa na la' ma H4 h4 hpa hna hla4 hma npa nna nla nma nd4 k4=>⟨rfl,?_⟩⟩
  have s34:Same H3 H4:=Same.made nb ndb fun c o e hc=>k4 c o e (by simpa using hc)
  have npa3:=gH npa
  have nna3:=gH nna
  have nla3:=gH nla
  have nma3:=gH nma
  have s4:=s3.trans s34
  have R4:=R3.same s34
  have Rb4:BookAt cs H4 b ⟨pa,na,la',ma,[]⟩ p ⟨[],[],[]⟩:=⟨⟨db,h4⟩,hpa,hna,hla4,hma,rfl,fun j x n e1 e2=>by simp at e1,by show [pa,na,la'].Nodup;exact nd4⟩
  have ltne:∀ {x:Addr},H3 x=none→lt≠x:=fun hx=>dC R3.tk.lst hx
  refine ⟨_,rfl,_,rfl,r,lt,as,T,j3,b,⟨pa,na,la',ma,[]⟩,p,u3,rfl,R4,Rb4,ltne npa3,tok,hu3,fun H5 l j5 u5 e5 R5 Rb5 k5 hu5 _ hl5=>?_,fun k hk=>err k (by rw [ep1,hk];rfl)⟩
  have s5:Same H H5:=va s4 k5 fun x hx=>by
   simp only [List.mem_cons,List.not_mem_nil,or_false] at hx
   rcases hx with rfl | rfl | rfl
   ·exact nr0
   ·exact s3.free npa3
   ·exact s3.free nma3
  rw [e5] at ep1
  have ep2:program (toks bs)=(ux ⟨l,[]⟩ (tk T j5)).map fun e=>⟨p,e.people,e.lets⟩:=ep1
  have ok5:(⟨l,[],[]⟩:Bk).Ok:=⟨Good.nil,fun x hx=>by simp at hx,Cov.nil⟩
  have hnames5:(⟨l,[],[]⟩:Bk).names.length≤j5:=by
   show (l.zipIdx++[]).length≤_
   rw [List.append_nil,List.length_zipIdx]
   exact hl5
  refine kH (LeI cs H la r lt as T b ⟨pa,na,la',ma,[]⟩ p l j5) (fun _ H'=>rdm T r H') ⟨⟨pa,na,la',ma,[]⟩,⟨l,[],[]⟩,j5,u5,rfl,R5,Rb5,⟨rfl,rfl,rfl,rfl⟩,ok5,⟨by simp,fun x hx=>by simp at hx,by simp⟩,hnames5,s5,hu5,rfl⟩ ?_
  rintro σ H6 ⟨A6,B,j6,u6,rfl,R6,Rb6,sim6,ok6,fw6,hn6,s6,hu6,e6⟩
  obtain ⟨d6,ob6⟩:=R6.ob
  have hjl6:=(List.getElem?_eq_some_iff.mp hu6).1
  have lna:lt≠A6.na:=by rw [sim6.1];exact ltne nna3
  have lla:lt≠A6.la:=by rw [sim6.2.2.1];exact ltne nla3
  refine v3 clT naT rfl R6 hu6 ⟨rfl,_,rfl,ite2 (fun hc=>?_) fun hc=>?_⟩
  ·rw [vlit dAu] at hc
   have hlet:=of_decide_eq_true hc
   have e7:=e6.trans (dDJ hu6 hlet)
   refine wgo ?_
   refine ⟨_,rfl,_,rfl,r,lt,as,T,j6,b,A6,p,B,u6,rfl,R6,Rb6,lna,lla,ok6,fw6,hn6,tok,hu6,hlet,fun H7 j7 A7 ns7 x nm u7 el R7 Rb7 sim7 ok7 fw7 k7 hu7 hij=>?_,fun k hk=>err k (by rw [ep2,e7,hk];rfl)⟩
   rw [el] at e7
   obtain ⟨d7,ob7⟩:=R7.ob
   refine ⟨⟨A7,_,j7,u7,rfl,R7,Rb7,⟨sim7.1.trans sim6.1,sim7.2.1.trans sim6.2.1,sim7.2.2.1.trans sim6.2.2.1,sim7.2.2.2.trans sim6.2.2.2⟩,ok7,fw7,?_,va s6 k7 (fun y hy=>?_),hu7,e7⟩,?_⟩
   ·show (B.people.zipIdx++(B.ls++[(nm,x)])).length≤j7
    have:(B.people.zipIdx++B.ls).length≤j6:=hn6
    rw [List.length_append] at this
    rw [List.length_append,List.length_append,List.length_singleton]
    omega
   ·simp only [List.mem_cons,List.not_mem_nil,or_false] at hy
    rcases hy with rfl | rfl | rfl | rfl
    ·exact nr0
    ·rw [sim6.1];exact s3.free nna3
    ·rw [sim6.2.2.1];exact s3.free nla3
    ·rw [sim6.2.1];exact s3.free nma3
   ·rw [kU ob6,kU ob7]
    omega
  ·rw [vlit dAu] at hc
   have hlet:¬ u6.1=ascii "let":=fun z=>hc (decide_eq_true z)
   refine g8 rfl R6 (by decide +kernel) (by decide +kernel) ?_
   refine vZ clT naT rfl R6 hu6 ⟨rfl,?_⟩
   refine ⟨r,lt,as,T,j6,u6,_,rfl,R6,hu6,fun hq H7 R7 k7=>?_,fun hq=>?_⟩
   ·rw [dAb] at hq
    have hend:=kind_end.mp (of_decide_eq_true hq)
    have e7:=e6.trans (dD2 hu6 hend)
    rw [e7] at ep2
    have ep3:program (toks bs)=.ok ⟨p,B.known.people,B.known.lets⟩:=ep2
    have s7:Same H H7:=va s6 k7 fun y hy=>by simp at hy;rw [hy];exact nr0
    have fle:=fw6.le
    have hnn:B.people.length+B.ls.length≤j6:=by
     have:(B.people.zipIdx++B.ls).length≤j6:=hn6
     rwa [List.length_append,List.length_zipIdx] at this
    have sz:Sz B:=⟨by omega,by simp at fle;omega,fw6.wi,by omega⟩
    have etaken:taken bs=if small ⟨p,B.known.people,B.known.lets⟩=true then .good ⟨p,B.known.people,B.known.lets⟩ else .bad (-5):=by
     unfold taken
     rw [ep3]
    refine ⟨_,rfl,b,A6,p,B,rfl,Rb6.read co R6 k7,ok6,sz,fun hs H8 s8=>?_,fun hs=>?_⟩
    ·rw [show (⟨p,B.people,B.known.lets⟩:Prog)=⟨p,B.known.people,B.known.lets⟩ from rfl] at hs
     rw [if_pos hs] at etaken
     refine ⟨_,rfl,kq _ b A6 B H8 etaken ((Rb6.read co R6 k7).keep (Kp.same s8 []) (fun y hy=>by simp at hy)) ok6 sz rfl rfl hs (s7.trans s8)⟩
    ·rw [show (⟨p,B.people,B.known.lets⟩:Prog)=⟨p,B.known.people,B.known.lets⟩ from rfl] at hs
     rw [if_neg hs] at etaken
     exact (kx _ etaken).2
   ·rw [dAb] at hq
    have hend:¬ u6.1=[]:=fun z=>absurd (kind_end.mpr z) (of_decide_eq_false hq)
    exact err _ (by rw [ep2,e6,dDY hu6 hend hlet];rfl)
end
end Pg
end
section
set_option linter.all false
set_option maxRecDepth 100000
set_option maxHeartbeats 4000000
namespace Xc
open PySem PySem.W PySem.Builtin PySem.Builtin.ObjectAttr
section
variable {prog:Program}{w:World}{A:Around}{E:Value→Shared→Prop}{s:Shared}{K:Frag}{x C:Addr}{ox:Obj}{od:Option Obj}{name:Str}{expr:Bool}{Q:Value→Shared→Prop}
theorem dER {v:Value}{tk:Tok}{Q:Fin→Shared→Prop} (X:K.In s.heap) (I:InstAt s.heap x ox C od) (hf:findObj K C od name=some (.value v)) (h:Q (.done (.ret v)) s) :
  wpAny (model prog w) A (Builtin.«object.__getattribute__» ⟨[.ref x,.str name tk],[]⟩) Q E s:=by
 have l0:=I.type (M:=model prog w)
 have l1:=looks_find (M:=model prog w) X I hf
 refine wpAny_bind (wpAny_pure (wpAny_bind (wpAny_pure (wpAny_bind (l0.here (wpAny_bind (l1.here ?_)))))))
 exact wpAny_pure h
theorem getX {v:Value} (X:K.In s.heap) (I:InstAt s.heap x ox C od) (hga:findIn K (.ref C) "__getattribute__"=some (some (.builtin "BaseException.__getattribute__"))) (hgr:findIn K (.ref C) "__getattr__"=some none)
  (hsub:subIn K (.ref C) (.type "BaseException")=some true) (hf:findObj K C od name=some (.value v)) (hh:handedIn v=true) (h:Q v { s with toks:=s.toks+1 }):wpAny (model prog w) A (getAttr (.ref x) name expr) Q E s:=by
 obtain ⟨hp,g,d,t,os⟩:=s
 have l0:=I.type (M:=model prog w)
 have l1:=looks_findIn (M:=model prog w) X hga
 have l2:=looks_hook (M:=model prog w) (mc:=.ref C) X (r:=none) (by rw [if_pos (show onTheHeap (Value.ref C)=true from rfl)];exact hgr)
 have l3:Looks (model prog w) hp (isInstance (.ref x) (.type "BaseException")) true:=l0.andThen (looks_subIn X hsub)
 have ne:(Value.builtin "BaseException.__getattribute__"==Value.builtin "object.__getattribute__")=false:=by decide +kernel
 unfold getAttr getAttrBy
 refine wpAny_bind (wpAny_mkText (wpAny_holding (wpAny_bind (l0.at (wpAny_bind (l1.at ?_))))))
 dsimp only
 rw [ne,Bool.and_false,if_neg Bool.false_ne_true]
 unfold getAttrByItsOwn
 refine wpAny_bind (l2.at (wpAny_bind (wpAny_attempt (wpAny_holding ?_))))
 unfold callGetattribute
 rw [if_neg (show ¬ (expr&&onTheHeap (Value.builtin "BaseException.__getattribute__"))=true from by cases expr <;> exact Bool.false_ne_true)]
 unfold boundAndCalled
 rw [PySem.F.attr_Exception.ga.bind]
 refine wpAny_bind (wpAny_pure (wpAny_call (codeAny_call_builtin PySem.F.attr_Exception.ga.plain PySem.F.entry_bexc_ga ?_)))
 refine @check_slot (model prog w) _ _ ⟨hp,g,d,t+1,os⟩ "BaseException.__getattribute__" "BaseException" "__getattribute__" (.ref x) [.str name t] [] _ (by decide +kernel) (by decide +kernel) l3 (PySem.F.args_bexc_ga (.ref x) (.str name t)) ?_
 refine dER (s:=⟨hp,g,d,t+1,os⟩) X I hf ?_
 show wpAny _ _ (handedOut v) _ _ _
 rw [handedOut_of hh]
 exact wpAny_pure h
end
end Xc
end
section
set_option linter.all false
set_option maxRecDepth 100000
set_option maxHeartbeats 4000000
namespace Xc
open PySem PySem.W PySem.Builtin
structure CatchC (K:Frag) (R:Addr):Prop where
 notTup:instIn K (.ref R) (.type "tuple")=some false
 isTy:(clsIn K R).isSome=true
 isExc:subIn K (.ref R) (.type "BaseException")=some true
section
variable {M:Model}{A:Around}{E:Value→Shared→Prop}{s:Shared}{K:Frag}{a C R:Addr}{oe:Obj}{Q:Bool→Shared→Prop}
theorem d8O (X:K.In s.heap) (c:CatchC K R) (he:s.heap.get? a=some oe) (hc:oe.cls=.ref C) (hs:subIn K (.ref C) (.ref R)=some true) (h:Q true s):wpAny M A (excMatches (.ref a) (.ref R)) Q E s:=by
 obtain ⟨hp,g,d,t,os⟩:=s
 have l1:=looks_instIn (M:=M) X c.notTup
 have l2:Looks M hp (isType (.ref R)) true:=by
  have e:=c.isTy
  unfold clsIn at e
  split at e
  ·rename_i ho
   exact (Looks.ld (X _ _ ho)).andThen .now
  ·cases e
 have l3:=looks_subIn (M:=M) X c.isExc
 have l4:Looks M hp (typeOf (.ref a)) (.ref C):=hc▸(Looks.ld he).andThen .now
 have l5:=looks_subIn (M:=M) X hs
 unfold excMatches isExcClass
 repeat (first | simp only [Bool.not_true,Bool.false_eq_true,if_false,if_true,List.forIn_cons,List.forIn_nil] | lk)
 exact h
end
end Xc
end
section
set_option linter.all false
set_option maxRecDepth 100000
namespace Xc
open PySem PySem.Spec PyProof.Rows L2
def dCt (C dx a:Addr):Heap→Prop:=fun h=>∃ o vs,h.get? a=some o∧o.cls=.ref C∧o.dict=some dx∧o.data=.fields vs
structure GetX (K:PySem.W.Frag) (C:Addr):Prop where
 ga:PySem.W.findIn K (.ref C) "__getattribute__"=some (some (.builtin "BaseException.__getattribute__"))
 gr:PySem.W.findIn K (.ref C) "__getattr__"=some none
 sub:PySem.W.subIn K (.ref C) (.type "BaseException")=some true
 dct:PySem.W.hasDictIn K C=true
def dGp (K:PySem.W.Frag) (ta:TE) (f:Str):TE:=fun σ H Q=>ta σ H fun x H1=>∃ a C dx fs v,x=.ref a∧H1 a=some (.ext (dCt C dx a))∧H1 dx=some (.xd fs)∧GetX K C∧PySem.W.findIn K (.ref C) f=some none∧fs.lookup f=some v∧Q v H1
section
variable {X:Cx}{e:Expr}{f:Str}{pos:Pos}{ta:TE}
theorem dFL (he:PE X e ta) (hb:attributeBase e f X.env (eval e X.env)=eval e X.env):PE X (.Attribute e f pos) (dGp X.K ta f):=by
 intro pins s σ H Q I h
 refine dCS hb (thn (he pins s σ H _ I h) fun u s1 ⟨x,H1,I1,rx,a,C,dx,fs,v,ex,ea,ed,c,n,l,q⟩=>?_)
 subst ex
 obtain rfl:u=Value.ref a:=rx
 obtain ⟨⟨o,vs,ho,hc,hd,hv⟩,_,_⟩:=I1.hok a _ ea
 obtain ⟨mA,hns,hr⟩:=I1.hok dx _ ed
 obtain ⟨od,hod,hl⟩:=d48 hns
 have r:=hr f
 rw [l] at r
 obtain ⟨u',e',r'⟩:=r.some_of
 have J:PySem.W.InstAt s1.heap a o C (some od):=⟨ho,hc,by unfold PySem.W.notCls;rw [hv],by rw [hd];exact hod⟩
 refine getX I1.kIn J c.ga c.gr c.sub (PySem.W.findObj_own c.dct n rfl (by rw [hl,e'])) (d49 r') ?_
 exact ⟨v,H1,I1.tok _,r',q⟩
end
section
variable {X:Cx}{pins:List (Addr×Obj)}{σ:L2.St}{H:Hp}{s:Shared}{h':Heap}
theorem uI {n i:Nat}{v:V} (h:(List.replicate n (none:Option V))[i]?=some (some v)):False:=by
 rw [List.getElem?_replicate] at h
 split at h <;> cases h
theorem d86 {m':Str→Option Value}{t':Nat} (I:Inv X pins σ H s) (hs:Heap.SameBut X.env.locals s.heap h') (hn:h'.Ns X.env.locals m'):Inv X pins (List.replicate X.N.length none) H { s with heap:=h',toks:=t' }:=by
 have nl:∀ b u,H b=some u→b≠X.env.locals:=fun b u e z=>by rw [z,I.free] at e;cases e
 have n0:∀ b o,X.s_0.heap.get? b=some o→b≠X.env.locals:=fun b o e=>Nat.ne_of_lt (Nat.lt_of_lt_of_le (Heap.lt_size e) I.ok.above)
 refine ⟨I.ok,I.os,I.bare,⟨fun b o e n hb hx=>?_,fun b o e n hb hx=>?_,I.base.free,fun b o e hx=>?_,I.base.tups,I.base.frzs,I.base.tbls⟩,⟨m',hn,fun i x v e1 e2 e3=>(uI e2).elim⟩,fun x c e=>?_,I.free,I.freeC,fun p hp=>?_,fun b o e=>?_,List.length_replicate⟩
 ·exact (hs.2 b (n0 b o e)).trans (I.base.keep b o e n hb hx)
 ·obtain ⟨sl,q⟩:=I.base.slot b o e n hb hx
  exact ⟨sl,(hs.2 b (n0 b o e)).trans q⟩
 ·obtain ⟨o',q⟩:=I.base.there b o e hx
  exact ⟨o',(hs.2 b (n0 b o e)).trans q⟩
 ·obtain ⟨v,z⟩:=I.cell x c e
  exact ⟨v,z.sameBut hs (I.cne x c e)⟩
 ·obtain ⟨e,n,ne,nf,d⟩:=I.pin p hp
  exact ⟨(hs.2 p.1 ne).trans e,n,ne,nf,d⟩
 ·refine (I.hok b o e).stay (fun c v hc q=>(hs.2 c ?_).trans q) (fun _ q=>q) fun _ _ q=>q
  rcases hc with rfl | hc
  ·exact nl _ _ e
  ·exact nl _ _ hc
theorem dFv {a C dx:Addr} (I:Inv X pins σ H s) (hx:dCt C dx a s.heap) (hn:H a=none) (hl:a≠X.env.locals) (hc:∀ x c,X.env.cells.lookup x=some c→c≠a) (hp:∀ p∈X.pn++pins,p.1≠a)
  (h0:∀ o,X.s_0.heap.get? a=some o→X.H_0 a=none→a∉X.ex→False):Inv X pins σ (upd H a (.ext (dCt C dx a))) s:=by
 have tr:∀ b u,H b=some u→b≠a:=fun b u e=>dC e hn
 obtain ⟨o,vs,ho,c1,c2,c3⟩:=id hx
 refine ⟨I.ok,I.os,I.bare,⟨I.base.keep,I.base.slot,fun b ob e n hb=>?_,I.base.there,fun b xs e=>?_,fun b ob u e=>?_,fun b ps e=>?_⟩,I.loc,I.cell,by rw [d8 hl.symm];exact I.free,fun x c e=>by rw [d8 (hc x c e)];exact I.freeC x c e,fun p q=>?_,fun b u e=>?_,I.len⟩
 ·by_cases hba:b=a
  ·subst hba;exact (h0 ob e n hb).elim
  ·rw [d8 hba];exact I.base.free b ob e n hb
 ·have q:=I.base.tups b xs e
  rw [d8 (tr b _ q)];exact q
 ·have q:=I.base.frzs b ob u e
  rw [d8 (tr b _ q)];exact q
 ·obtain ⟨m,q⟩:=I.base.tbls b ps e
  exact ⟨m,by rw [d8 (tr b _ q)];exact q⟩
 ·obtain ⟨e,n,ne,nf,d⟩:=I.pin p q
  exact ⟨e,by rw [d8 (hp p q)];exact n,ne,nf,d⟩
 ·by_cases hba:b=a
  ·subst hba
   rw [d9] at e
   obtain rfl:=Option.some.inj e
   exact ⟨hx,⟨o,ho⟩,fun h1 h2 ⟨o',vs',z,r⟩ k=>⟨o',vs',k _ z,r⟩⟩
  ·rw [d8 hba] at e
   exact (I.hok b u e).stay (fun c v _ q=>q) (fun c q=>by rw [d8 (tr c _ q)];exact q) fun c xs q=>by rw [d8 (tr c _ q)];exact q
end
end Xc
end
section
set_option linter.all false
set_option maxRecDepth 100000
set_option maxHeartbeats 2000000
namespace Xc
open PySem PySem.Spec PyProof.Rows L2
abbrev d8W (X:Cx) (a:Addr):Cx:={ X with A:=X.A.mark (some (.ref a)),calm:=false }
section
variable {X:Cx}{pins:List (Addr×Obj)}{σ:L2.St}{H:Hp}{s:Shared}{a:Addr}
theorem dDe (ok:X.Ok):(d8W X a).Ok:=⟨ok.mod,ok.kind,ok.glob,ok.blt,ok.above,ok.inj,ok.has,ok.cab,fun z=>absurd (show false=true from z) Bool.false_ne_true,ok.frames,ok.stk,ok.exf,ok.bs,ok.bsz,ok.noex,ok.exfs,ok.funs,ok.frf⟩
theorem d7O (I:Inv X pins σ H s):Inv (d8W X a) pins σ H s:=⟨dDe I.ok,I.os,I.bare,I.base,I.loc,I.cell,I.free,I.freeC,I.pin,I.hok,I.len⟩
theorem d8I (ok:X.Ok) (I:Inv (d8W X a) pins σ H s):Inv X pins σ H s:=⟨ok,I.os,I.bare,I.base,I.loc,I.cell,I.free,I.freeC,I.pin,I.hok,I.len⟩
end
section
variable {P:Program}{w:World}{K:PySem.W.Frag}{mg:Str→Option Value}{base:Heap}{N:List Str}{qual:Str}{scope:Scope}{f:Addr}{cd:Value}{A:Around}{outer:List Env}{s:Shared}{H:Hp}{E:XK}
theorem d8T {P:Program}{w:World}{H:Hp}{h:Heap}{a:Addr}{o:HO} (x:ObjOk P w H h a o):∃ ob,h.get? a=some ob:=by
 cases o with
 | lst xs=>obtain ⟨_,_,_,_,e⟩:=x;exact ⟨_,e⟩
 | tup xs=>obtain ⟨_,_,_,ob,e,_⟩:=x;exact ⟨_,e⟩
 | dK kvs=>obtain ⟨_,_,_,_,o,_,_,e,_⟩:=x;exact ⟨_,e⟩
 | dT kvs=>obtain ⟨_,_,_,_,o,_,_,e,_⟩:=x;exact ⟨_,e⟩
 | set S n=>obtain ⟨o,_,_,_,e,_⟩:=x;exact ⟨_,e⟩
 | ins C dx fs=>obtain ⟨_,_,_,e,_⟩:=x;exact ⟨_,e⟩
 | own y=>exact x
 | xd fs=>obtain ⟨_,⟨_,_,_,e,_⟩,_⟩:=x;exact ⟨_,e⟩
 | rng lo hi=>obtain ⟨_,_,_,e⟩:=x;exact ⟨_,e⟩
 | frz ob u=>obtain ⟨e,_⟩:=x;exact ⟨_,e⟩
 | tbl ps=>exact ⟨_,(show h.get? a=some _ from x)⟩
 | met f y=>exact ⟨_,(show h.get? a=some _ from x)⟩
 | ext φ=>obtain ⟨_,e,_⟩:=x;exact e
structure Flown0 (P:Program) (w:World) (outer:List Env) (H:Hp) (s:Shared) (E:XK) (a:Addr) (s':Shared) (B:Heap) (C dx:Addr) (H':Hp):Prop where
 os:s'.os=s.os
 bare:AllBare s'.gens
 fr:s'.heap.FunFrames B outer
 dict:∃ o,s'.heap.get? a=some o∧o.dict=some dx
 keep:∀ b o,s.heap.get? b=some o→H b=none→b∉frs outer→B.get? b=some o
 un:Un (frs outer) [] H H' s.heap s'.heap
 hok:HOk P w H' B
 wish:E (.ref C) (some dx) H'
theorem dE0 {σ:L2.St}{H1:Hp}{s1 s':Shared}{E':XK}{a C dx:Addr}{B:Heap}{H':Hp}{h:Heap}{tk:Nat} (I:Inv (cxOf (CXX P w) P w K mg base N qual scope f cd A outer s H E) [] σ H1 s1)
  (F:Flown0 P w (cxOf (CXX P w) P w K mg base N qual scope f cd A outer s H E).stack H1 s1 E' a s' B C dx H') (st:B.StaysIn h) (up:s'.heap.UpToSlots h) (dk:DK s'.heap h)
  (hc:(cxOf (CXX P w) P w K mg base N qual scope f cd A outer s H E).env.cells=[]) :
  Inv (cxOf (CXX P w) P w K mg base N qual scope f cd A outer s H E) [] (List.replicate N.length none) H' { s' with heap:=h,toks:=tk }:=by
 have noE:∀ b:Addr,b∉(cxOf (CXX P w) P w K mg base N qual scope f cd A outer s H E).ex:=fun b z=>absurd (show b∈([]:List Addr) from z) (by simp)
 have inS:∀ b,b∈frs outer→b∈frs (cxOf (CXX P w) P w K mg base N qual scope f cd A outer s H E).stack:=fun b hb=>by
  show b∈List.filterMap _ (_::outer)
  rw [List.filterMap_cons]
  exact List.mem_cons_of_mem _ hb
 have keep:∀ b o,s.heap.get? b=some o→H b=none→b∉frs outer→B.get? b=some o:=fun b o q n hb=>by
  refine F.keep b o (I.base.keep b o q n hb (noE b)) (I.base.free b o q n (noE b)) fun z=>?_
  rcases List.mem_cons.mp (I.stkSub b z) with e1 | e1
  ·have l1:=Heap.lt_size q
   have l2:s.heap.objs.size≤b:=by rw [e1];exact I.ok.above
   exact absurd (Nat.lt_of_lt_of_le l1 l2) (Nat.lt_irrefl _)
  ·exact hb e1
 have frame:∀ b o,s1.heap.get? b=some o→H1 b=none→b∈frs (cxOf (CXX P w) P w K mg base N qual scope f cd A outer s H E).stack→∃ sl,h.get? b=some { o with slots:=sl }:=fun b o q n hb=>by
  obtain ⟨sl2,e2⟩:=F.un.slot b o q n hb (by simp)
  obtain ⟨_,o3,e3,d3⟩:=F.fr.mem hb
  rw [e2] at e3
  obtain rfl:=Option.some.inj e3
  obtain ⟨sl4,e4⟩:=up b _ e2 d3
  exact ⟨sl4,e4⟩
 have inL:(cxOf (CXX P w) P w K mg base N qual scope f cd A outer s H E).env.locals∈frs (cxOf (CXX P w) P w K mg base N qual scope f cd A outer s H E).stack:=by
  show _∈List.filterMap _ (_::outer)
  rw [List.filterMap_cons]
  exact List.mem_cons_self
 obtain ⟨m,hn,_⟩:=I.loc
 obtain ⟨oL,es,ep,hL,dL,rL⟩:=hn
 obtain ⟨slL,eL⟩:=frame _ oL hL I.free inL
 refine ⟨I.ok,F.os.trans I.os,F.bare,⟨fun b ob q n hb _=>st b ob (keep b ob q n hb),fun b ob q n hb _=>?_,fun b ob q n _=>?_,fun b ob q _=>?_,fun b xs q=>F.un.tups b xs (I.base.tups b xs q),fun b ob u q=>F.un.frzs b ob u (I.base.frzs b ob u q),fun b ps q=>?_⟩,
  ⟨m,⟨_,es,ep,eL,dL,rL⟩,fun i x v e1 e2 e3=>(uI e2).elim⟩,fun x c e=>?_,F.un.free _ oL hL I.free (by simp),fun x c e=>?_,fun p hp=>absurd (show p∈([]:List (Addr×Obj)) from hp) (by simp),F.hok.kept st,List.length_replicate⟩
 ·obtain ⟨sl,e1⟩:=I.base.slot b ob q n hb (noE b)
  obtain ⟨sl2,e2⟩:=frame b _ e1 (I.base.free b ob q n (noE b)) (inS b hb)
  exact ⟨sl2,e2⟩
 ·obtain ⟨o1,e1⟩:=I.base.there b ob q (noE b)
  exact F.un.free b o1 e1 (I.base.free b ob q n (noE b)) (by simp)
 ·obtain ⟨o1,e1⟩:=I.base.there b ob q (noE b)
  obtain ⟨o2,e2⟩:=F.un.there b o1 e1 (by simp)
  obtain ⟨o3,e3,_⟩:=dk b o2 e2
  exact ⟨o3,e3⟩
 ·obtain ⟨m1,e1⟩:=I.base.tbls b ps q
  obtain ⟨m2,e2⟩:=F.un.tbls b _ e1
  exact ⟨m1++m2,by rw [e2,Array.append_assoc]⟩
 ·rw [hc] at e;cases e
 ·rw [hc] at e;cases e
def vT (K:PySem.W.Frag) (R:Addr) (Q:VK):XK:=fun cl d H'=>∃ C dx fs num,cl=.ref C∧d=some dx∧PySem.W.subIn K (.ref C) (.ref R)=some true∧GetX K C∧PySem.W.findIn K (.ref C) "number"=some none ∧
 H' dx=some (.xd fs)∧fs.lookup ("number":Str)=some (.int num)∧∀ p,H' p=none→∀ a,p≠a→Q (.ref p) (upd (upd H' a (.ext (dCt C dx a))) p (.lst [.int num]))
variable {R:Addr}{x n:Str}{np p1 p2 p3 p4 hpos:Pos}
theorem vQ {σ:L2.St}{H1:Hp}{s1 s':Shared}{a C dx:Addr}{B h2:Heap}{a0:Value}{H':Hp}{D:Ends}{i:Nat} (I:Inv (cxOf (CXX P w) P w K mg base N qual scope f cd A outer s H E) [] σ H1 s1) (cc:CatchC K R) (hm:mg x=some (.ref R))
  (F:Flown0 P w (cxOf (CXX P w) P w K mg base N qual scope f cd A outer s H E).stack H1 s1 (vT K R D.rt) a s' B C dx H') (held:Heap.HeldW B (cxOf (CXX P w) P w K mg base N qual scope f cd A outer s H E).stack a (.ref C) a0 (cxOf (CXX P w) P w K mg base N qual scope f cd A outer s H E).env.locals h2)
  (up2:s'.heap.UpToSlots h2) (dk2:DK s'.heap h2) (hc:(cxOf (CXX P w) P w K mg base N qual scope f cd A outer s H E).env.cells=[])
  (hg:Gl (cxOf (CXX P w) P w K mg base N qual scope f cd A outer s H E) x) (hN:N.Nodup) (hi:N[i]?=some n) (hl:scope.names.lookup n=some .local)
  (hdb:(x==("__debug__":Str))=false) (hdb2:(n==("__debug__":Str))=false) (hcd2:(n==("__classdict__":Str))=false) :
  wpAny (model P w) (cxOf (CXX P w) P w K mg base N qual scope f cd A outer s H E).A (setFlight (.ref a) none)
   (fun _ s3=>wpAny (model P w) (cxOf (CXX P w) P w K mg base N qual scope f cd A outer s H E).A
    (handleBy (.ref a) (cxOf (CXX P w) P w K mg base N qual scope f cd A outer s H E).env [.ExceptHandler (some (.Name x np)) (some n) [.Return (some (.List [.Attribute (.Name n p1) "number" p2] p3)) p4] hpos])
    (SP (cxOf (CXX P w) P w K mg base N qual scope f cd A outer s H E) [] D) (cxOf (CXX P w) P w K mg base N qual scope f cd A outer s H E).xe s3) (cxOf (CXX P w) P w K mg base N qual scope f cd A outer s H E).xe { s' with heap:=h2 }:=by
 obtain ⟨C',dx',fs,num,e2,e3,hsub,gx,nn,hxd,hnum,hQ⟩:=F.wish
 obtain rfl:C=C':=by injection e2
 obtain rfl:dx=dx':=by injection e3
 refine wpAny_mono (Kd.any (vp _ _) (wpAny_landsW (s:={ s' with heap:=h2 }) (Q:=fun _ s''=>∃ h,s''={ s' with heap:=h }∧Heap.FlyingW B (cxOf (CXX P w) P w K mg base N qual scope f cd A outer s H E).stack a (.ref C) a0 h∧h2.UpToSlots h) held fun h f1 f2=>⟨h,rfl,f1,f2⟩)) ?_ fun e' s'' z=>z
 rintro _ s3 ⟨⟨h3,rfl,fly3,up3⟩,dk3⟩
 have I3:Inv _ [] _ H' { s' with heap:=h3,toks:=s'.toks }:=dE0 I F fly3.1 (up2.trans up3) (dk2.trans dk3) hc
 obtain ⟨o,ho,hd⟩:=F.dict
 obtain ⟨o3,ho3,hd3,_⟩:=(dk2.trans dk3) a o ho
 obtain ⟨oc3,hoc3,hcls3⟩:=fly3.there
 obtain rfl:o3=oc3:=Option.some.inj (ho3.symm.trans hoc3)
 refine wpAny_handleBy_cons (codeAny_handlers_test ?_) (by intro q;cases q)
 refine kM (X:=d8W (cxOf (CXX P w) P w K mg base N qual scope f cd A outer s H E) a) (d7O I3) hg hm ?_ hdb
 refine d8O I3.kIn cc ho3 hcls3 hsub ?_
 refine codeAny_handlers_suite_as ?_
 refine wpAny_mono (Kd.any (vp _ _) (lands_againW (s:={ s' with heap:=h3 }) (Q:=fun _ s''=>∃ h,s''={ s' with heap:=h }∧Heap.FlyingW B (cxOf (CXX P w) P w K mg base N qual scope f cd A outer s H E).stack a (.ref C) a0 h∧h3.UpToSlots h) fly3 fun h f1 f2=>⟨h,rfl,f1,f2⟩)) ?_ fun e' s'' z=>z
 rintro _ s4 ⟨⟨h4,rfl,fly4,up4⟩,dk4⟩
 have I4:Inv _ [] _ H' { s' with heap:=h4,toks:=s'.toks }:=dE0 I F fly4.1 (up2.trans (up3.trans up4)) (dk2.trans (dk3.trans dk4)) hc
 obtain ⟨o4,ho4,hd4,_⟩:=(dk2.trans (dk3.trans dk4)) a o ho
 obtain ⟨oe,vs,T,oT,ts,he,⟨hcl,_⟩,hdat,_⟩:=fly4.2.2.2
 obtain rfl:o4=oe:=Option.some.inj (ho4.symm.trans he)
 have nofr:a∉frs (cxOf (CXX P w) P w K mg base N qual scope f cd A outer s H E).stack:=fun hb=>by
  obtain ⟨_,o5,e5,d5⟩:=fly4.2.2.1.mem hb
  rw [ho4] at e5
  obtain rfl:=Option.some.inj e5
  exact d5 vs hdat
 have hna:H' a=none:=by
  cases q:H' a with
  | none=>rfl
  | some u=>
   obtain ⟨ob,e5⟩:=d8T (F.hok a u q)
   rw [fly4.2.1] at e5;cases e5
 have inL:(cxOf (CXX P w) P w K mg base N qual scope f cd A outer s H E).env.locals∈frs (cxOf (CXX P w) P w K mg base N qual scope f cd A outer s H E).stack:=by
  show _∈List.filterMap _ (_::outer)
  rw [List.filterMap_cons]
  exact List.mem_cons_self
 have hal:a≠(cxOf (CXX P w) P w K mg base N qual scope f cd A outer s H E).env.locals:=fun z=>nofr (z▸inL)
 have I5:=dFv (X:=d8W (cxOf (CXX P w) P w K mg base N qual scope f cd A outer s H E) a) (C:=C) (dx:=dx) (d7O I4) ⟨o4,vs,ho4,hcl,hd4.trans hd,hdat⟩ hna hal (fun y c e=>by rw [hc] at e;cases e) (fun p hp=>absurd (show p∈([]:List (Addr×Obj)) from hp) (by simp)) (fun ob q n0 _=>by
  have hb:a∉frs outer:=fun hb=>nofr (by
   show _∈List.filterMap _ (_::outer)
   rw [List.filterMap_cons]
   exact List.mem_cons_of_mem _ hb)
  have noE:a∉(cxOf (CXX P w) P w K mg base N qual scope f cd A outer s H E).ex:=fun z=>absurd (show a∈([]:List Addr) from z) (by simp)
  have k1:=I.base.keep a ob q n0 hb noE
  have k2:=F.keep a ob k1 (I.base.free a ob q n0 noE) nofr
  rw [fly4.2.1] at k2;cases k2)
 have hxa:dx≠a:=fun z=>by rw [z,hna] at hxd;cases hxd
 refine vY (X:=d8W (cxOf (CXX P w) P w K mg base N qual scope f cd A outer s H E) a) (v:=V.ref a) I5 hN hi (.inl hl) rfl (fun s5 I6=>?_) (.inl rfl)
 have hiN:i < N.length:=(List.getElem?_eq_some_iff.mp hi).1
 have run:PSs (d8W (cxOf (CXX P w) P w K mg base N qual scope f cd A outer s H E) a).nox [.Return (some (.List [.Attribute (.Name n p1) "number" p2] p3)) p4] _:=
  dE (dZ (jJ (d0 (dFL (dBd hi (.inl hl) hdb2 hcd2) rfl) dD)))
 refine wpAny_mono (run [] s5 _ _ { nx:=fun _ _=>False,rt:=D.rt } (I6.wish _) ?_) ?_ fun e' s'' z=>False.elim z
 ·refine ⟨V.ref a,?_,a,C,dx,fs,.int num,rfl,d9,by rw [d8 hxa];exact hxd,gx,nn,hnum,(by show 1≤sizeLine;decide),fun p hp=>?_⟩
  ·rw [List.getElem?_set_self (by rw [List.length_replicate];exact hiN)]
  ·have hpa:p≠a:=fun z=>by rw [z,d9] at hp;cases hp
   exact hQ p (by rw [d8 hpa] at hp;exact hp) a hpa
 ·intro fl s6 h6
  replace h6:=h6.unwish
  cases fl with
  | next=>obtain ⟨_,_,_,z⟩:=h6;exact z.elim
  | brk=>obtain ⟨_,_,_,z⟩:=h6;exact z.elim
  | cont=>obtain ⟨_,_,_,z⟩:=h6;exact z.elim
  | ret u=>
   obtain ⟨v,σ6,H6,I6',rv,q6⟩:=h6
   obtain ⟨m6,n6,_⟩:=I6'.loc
   refine wpAny_nameGoes (m:=m6) hl n6 (by rw [I.ok.kind];rfl) fun h7 m7 n7 sb7=>?_
   exact ⟨v,_,H6,d86 (d8I I.ok I6') sb7 n7,rv,q6⟩
theorem dAF {σ:L2.St}{H1:Hp}{s1 s':Shared}{a:Addr}{Q:VK}{D:Ends}{i:Nat} (I:Inv (cxOf (CXX P w) P w K mg base N qual scope f cd A outer s H E) [] σ H1 s1) (cc:CatchC K R) (hm:mg x=some (.ref R))
  (hF:CXX P w (cxOf (CXX P w) P w K mg base N qual scope f cd A outer s H E).stack H1 s1 (vT K R D.rt) (.ref a) s') (hc:(cxOf (CXX P w) P w K mg base N qual scope f cd A outer s H E).env.cells=[])
  (hg:Gl (cxOf (CXX P w) P w K mg base N qual scope f cd A outer s H E) x) (hN:N.Nodup) (hi:N[i]?=some n) (hl:scope.names.lookup n=some .local)
  (hdb:(x==("__debug__":Str))=false:=by decide) (hdb2:(n==("__debug__":Str))=false:=by decide) (hcd2:(n==("__classdict__":Str))=false:=by decide) :
  wpAny (model P w) (cxOf (CXX P w) P w K mg base N qual scope f cd A outer s H E).A (noteFrame (.ref a) (cxOf (CXX P w) P w K mg base N qual scope f cd A outer s H E).env)
   (fun _ s2=>wpAny (model P w) (cxOf (CXX P w) P w K mg base N qual scope f cd A outer s H E).A (setFlight (.ref a) none)
    (fun _ s3=>wpAny (model P w) (cxOf (CXX P w) P w K mg base N qual scope f cd A outer s H E).A
     (handleBy (.ref a) (cxOf (CXX P w) P w K mg base N qual scope f cd A outer s H E).env [.ExceptHandler (some (.Name x np)) (some n) [.Return (some (.List [.Attribute (.Name n p1) "number" p2] p3)) p4] hpos])
     (SP (cxOf (CXX P w) P w K mg base N qual scope f cd A outer s H E) [] D) (cxOf (CXX P w) P w K mg base N qual scope f cd A outer s H E).xe s3) (cxOf (CXX P w) P w K mg base N qual scope f cd A outer s H E).xe s2)
   (cxOf (CXX P w) P w K mg base N qual scope f cd A outer s H E).xe s':=by
 obtain ⟨a',B,C,dx,a0,H',e1,F⟩:=hF
 obtain rfl:a=a':=by injection e1
 refine wpAny_mono (Kd.any (d8y _ _) (wpAny_looks_onW (Q:=fun _ s''=>∃ h,s''={ s' with heap:=h }∧Heap.HeldW B (cxOf (CXX P w) P w K mg base N qual scope f cd A outer s H E).stack a (.ref C) a0 (cxOf (CXX P w) P w K mg base N qual scope f cd A outer s H E).env.locals h∧s'.heap.UpToSlots h) I.ok.frames rfl F.fly fun h f1 f2=>⟨h,rfl,f1,f2⟩)) ?_ fun e' s'' z=>z
 rintro _ s2 ⟨⟨h2,rfl,held,up2⟩,dk2⟩
 exact vQ I cc hm ⟨F.os,F.bare,F.fly.2.2.1,F.dict,F.keep,F.un,F.hok,F.wish⟩ held up2 dk2 hc hg hN hi hl hdb hdb2 hcd2
theorem d9t {M:Model}{A:Around}{E:Value→Shared→Prop}{s:Shared}{base:Heap}{env:Env}{outer:List Env}{L e:Addr}{oe:Obj}{vs:Array Value}{a0:Value}{Q:Unit→Shared→Prop} (hfr:A.frames=some (env::outer)) (hl:s.heap.FunFrames base (env::outer)) (hf:env.frame=some L)
  (he:s.heap.get? e=some oe) (hkb:base.StaysIn s.heap) (hen:base.get? e=none) (hd:oe.data=.fields vs) (h1:vs[1]?=some .none) (h0:vs[0]?=some a0) (h:∀ h',Heap.HeldW base (env::outer) e oe.cls a0 L h'→s.heap.UpToSlots h'→Q () { s with heap:=h' }):wpAny M A (noteFrame (.ref e) env) Q E s:=by
 unfold noteFrame
 simp only [hf]
 refine wpAny_bind (wpAny_field he hd h1 ?_)
 rw [if_neg (by decide)]
 exact wpAny_entryW hfr hl hf he hkb hen hd (Array.getElem?_eq_some_iff.mp h1).1 h0 fun h' ⟨k1,k2,k3,k4⟩=>h h' ⟨k1,hen,k2,k3⟩ k4
theorem d8x {pins:List (Addr×Obj)}{σ:L2.St}{H2:Hp}{s2:Shared}{a C dx:Addr}{D:Ends}{i:Nat} (I':Inv (cxOf (CXX P w) P w K mg base N qual scope f cd A outer s H E) pins σ H2 s2) (cc:CatchC K R) (hm:mg x=some (.ref R)) (ha:H2 a=some (.ext (ve C dx a))) (hE:vT K R D.rt (.ref C) (some dx) (del H2 a))
  (hc:(cxOf (CXX P w) P w K mg base N qual scope f cd A outer s H E).env.cells=[]) (hg:Gl (cxOf (CXX P w) P w K mg base N qual scope f cd A outer s H E) x) (hN:N.Nodup) (hi:N[i]?=some n) (hl:scope.names.lookup n=some .local)
  (hdb:(x==("__debug__":Str))=false:=by decide) (hdb2:(n==("__debug__":Str))=false:=by decide) (hcd2:(n==("__classdict__":Str))=false:=by decide) :
  wpAny (model P w) (cxOf (CXX P w) P w K mg base N qual scope f cd A outer s H E).A (noteFrame (.ref a) (cxOf (CXX P w) P w K mg base N qual scope f cd A outer s H E).env)
   (fun _ s2=>wpAny (model P w) (cxOf (CXX P w) P w K mg base N qual scope f cd A outer s H E).A (setFlight (.ref a) none)
    (fun _ s3=>wpAny (model P w) (cxOf (CXX P w) P w K mg base N qual scope f cd A outer s H E).A
     (handleBy (.ref a) (cxOf (CXX P w) P w K mg base N qual scope f cd A outer s H E).env [.ExceptHandler (some (.Name x np)) (some n) [.Return (some (.List [.Attribute (.Name n p1) "number" p2] p3)) p4] hpos])
     (SP (cxOf (CXX P w) P w K mg base N qual scope f cd A outer s H E) [] D) (cxOf (CXX P w) P w K mg base N qual scope f cd A outer s H E).xe s3) (cxOf (CXX P w) P w K mg base N qual scope f cd A outer s H E).xe s2)
   (cxOf (CXX P w) P w K mg base N qual scope f cd A outer s H E).xe s2:=by
 have I:=I'.pins_of (pins':=[]) (fun p hp=>by simp at hp)
 obtain ⟨⟨T,hx⟩,_,_⟩:=I.hok a _ ha
 have hin:∀ env∈(cxOf (CXX P w) P w K mg base N qual scope f cd A outer s H E).stack,∀ b,env.frame=some b→b∈a::frs (cxOf (CXX P w) P w K mg base N qual scope f cd A outer s H E).stack:=fun env he b hb=>
  List.mem_cons_of_mem _ (List.mem_filterMap.mpr ⟨env,he,hb⟩)
 have hfr:=PySem.W.funFrames_hide I.stack hin
 have hst:(PySem.W.hideAll s2.heap (a::frs (cxOf (CXX P w) P w K mg base N qual scope f cd A outer s H E).stack)).StaysIn s2.heap:=fun b o q=>PySem.W.of_hideAll _ q
 have hno:(PySem.W.hideAll s2.heap (a::frs (cxOf (CXX P w) P w K mg base N qual scope f cd A outer s H E).stack)).get? a=none:=PySem.W.hideAll_none _ List.mem_cons_self
 have toB:∀ b o,s2.heap.get? b=some o→b≠a→b∉frs (cxOf (CXX P w) P w K mg base N qual scope f cd A outer s H E).stack→(PySem.W.hideAll s2.heap (a::frs (cxOf (CXX P w) P w K mg base N qual scope f cd A outer s H E).stack)).get? b=some o:=
  fun b o q h1 h2=>PySem.W.hideAll_get _ q fun z=>(List.mem_cons.mp z).elim h1 h2
 have tr:∀ b o,H2 b=some o→(∀ φ,o≠.ext φ)→b≠a:=fun b o e ne z=>by rw [z,ha] at e;exact ne _ (Option.some.inj e).symm
 have nt:∀ b,H2 b=none→b≠a:=fun b n z=>by rw [z,ha] at n;cases n
 have F0:Flown0 P w (cxOf (CXX P w) P w K mg base N qual scope f cd A outer s H E).stack H2 s2 (vT K R D.rt) a s2 (PySem.W.hideAll s2.heap (a::frs (cxOf (CXX P w) P w K mg base N qual scope f cd A outer s H E).stack)) C dx (del H2 a):=by
  refine ⟨rfl,I.bare,hfr,⟨_,hx,rfl⟩,fun b o q n hb=>toB b o q (nt b n) hb,⟨fun b o q n _ _=>q,fun b o q n _ _=>⟨o.slots,q⟩,fun b o q n _=>by rw [jI (nt b n)];exact n,fun b o q _=>⟨o,q⟩,fun b xs q=>?_,fun b ob u q=>?_,fun b ps q=>⟨#[],?_⟩⟩,fun b o e=>?_,hE⟩
  ·rw [jI (tr b _ q fun φ z=>by cases z)];exact q
  ·rw [jI (tr b _ q fun φ z=>by cases z)];exact q
  ·rw [jI (tr b _ q fun φ z=>by cases z),q];simp
  ·have hb:b≠a:=fun z=>by rw [z,ym] at e;cases e
   rw [jI hb] at e
   refine (I.hok b o e).stay (fun c u hc q=>toB c u q ?_ fun z=>?_) (fun c q=>?_) fun c xs q=>?_
   ·rcases hc with rfl | hc
    ·exact hb
    ·exact tr c _ hc fun φ z=>by cases z
   ·have nf:=I.stkFree c z
    rcases hc with rfl | hc
    ·rw [e] at nf;cases nf
    ·rw [hc] at nf;cases nf
   ·rw [jI (tr c _ q fun φ z=>by cases z)];exact q
   ·rw [jI (tr c _ q fun φ z=>by cases z)];exact q
 refine wpAny_mono (Kd.any (d8y _ _) (?_:wpAny (model P w) (cxOf (CXX P w) P w K mg base N qual scope f cd A outer s H E).A (noteFrame (.ref a) (cxOf (CXX P w) P w K mg base N qual scope f cd A outer s H E).env) (fun _ s''=>∃ h,s''={ s2 with heap:=h }∧Heap.HeldW (PySem.W.hideAll s2.heap (a::frs (cxOf (CXX P w) P w K mg base N qual scope f cd A outer s H E).stack)) (cxOf (CXX P w) P w K mg base N qual scope f cd A outer s H E).stack a (.ref C) (.ref T) (cxOf (CXX P w) P w K mg base N qual scope f cd A outer s H E).env.locals h∧s2.heap.UpToSlots h) _ s2)) ?_ fun e' s'' z=>z
 ·exact d9t I.ok.frames hfr rfl hx hst hno rfl rfl rfl fun h' k1 k2=>⟨h',rfl,k1,k2⟩
 ·rintro _ s3 ⟨⟨h2,rfl,held,up2⟩,dk2⟩
  exact vQ I cc hm F0 held up2 dk2 hc hg hN hi hl hdb hdb2 hcd2
end
end Xc
end
section
set_option linter.all false
set_option maxRecDepth 100000
set_option maxHeartbeats 4000000
namespace Xc
open PySem PySem.Spec PyProof.Rows L2
def dBl (mg:Str→Option Value) (base:Heap):Prop:=∃ bm ob,mg "__builtins__"=some (.ref bm)∧bm≠builtinsNs∧base.get? bm=some ob∧ob.cls=.type "module"∧ob.dict=some builtinsNs∧ob.data=.plain
def dDb (h:Heap) (f:Addr) (qual:Str) (params:Arguments) (body:Expr) (scope:Scope) (cl:List (Str×Addr)):Prop:=
 ∃ pm c' ctv,h.get? f=some (PySem.W.kla_obj "<lambda>" qual params body scope cl pm c' ctv)∧h.CodeRec (.ref c') qual
def hidF (h:Heap) (H:Hp) (fs:List Addr):Heap:=PySem.W.hideAll h (trk h H++fs)
section
variable {h:Heap}{H:Hp}{fs:List Addr}{b:Addr}{o:Obj}
theorem dAz:(hidF h H fs).objs.size=h.objs.size:=PySem.W.hideAll_size _ _
theorem yt (e:h.get? b=some o) (n:H b=none) (nf:b∉fs):(hidF h H fs).get? b=some o:=
 PySem.W.hideAll_get _ e fun hm=>by
  rcases List.mem_append.mp hm with hm | hm
  ·have q:(H b).isSome=true:=(List.mem_filter.mp hm).2
   rw [n] at q;simp at q
  ·exact nf hm
theorem dEr (e:(hidF h H fs).get? b=some o):h.get? b=some o∧H b=none:=by
 have e':h.get? b=some o:=PySem.W.of_hideAll _ e
 refine ⟨e',?_⟩
 cases q:H b with
 | none=>rfl
 | some x=>
  have hm:b∈trk h H++fs:=List.mem_append_left _ (List.mem_filter.mpr ⟨List.mem_range.mpr (Heap.lt_size e'),by simp [q]⟩)
  have z:(hidF h H fs).get? b=none:=PySem.W.hideAll_none _ hm
  rw [z] at e;cases e
theorem dAM (hb:b∈fs):(hidF h H fs).get? b=none:=PySem.W.hideAll_none _ (List.mem_append_right _ hb)
end
section
variable {X:Cx}{pins:List (Addr×Obj)}{σ:L2.St}{H:Hp}{s:Shared}
theorem dBX (I:Inv X pins σ H s):∀ b o,X.base.get? b=some o→(hidF s.heap H (frs X.stack)).get? b=some o:=fun b o e=>by
 obtain ⟨e1,n1⟩:=I.bs b o e
 refine yt e1 n1 fun z=>?_
 rcases List.mem_cons.mp (I.stkSub b z) with q | q
 ·have l1:=Heap.lt_size e
  have l2:X.base.objs.size≤b:=by rw [q];exact Nat.le_trans I.ok.bsz I.ok.above
  exact absurd (Nat.lt_of_lt_of_le l1 l2) (Nat.lt_irrefl _)
 ·exact I.ok.nofr e q
theorem Mod.keeps {K:PySem.W.Frag}{mg:Str→Option Value}{base base':Heap} (M:Mod K mg base) (k:∀ b o,base.get? b=some o→base'.get? b=some o):Mod K mg base':=
 ⟨M.kin.keeps k,M.glob.keeps k,let ⟨mb,h1,h2⟩:=M.blt;⟨mb,h1.keeps k,h2⟩,M.nolimit.keeps k⟩
theorem w8 {h base base':Heap}:∀ {l:List Env},h.FunFrames base l→(∀ b∈frs l,base'.get? b=none)→h.FunFrames base' l
 | [],_,_=>trivial
 | env::r,hl,hn=>by
  obtain ⟨hk,⟨L,o,hf,_,ho,hd⟩,hr⟩:=hl
  refine ⟨hk,⟨L,o,hf,hn L (by unfold frs;rw [List.filterMap_cons,hf];exact List.mem_cons_self),ho,hd⟩,w8 hr fun b hb=>hn b ?_⟩
  unfold frs
  rw [List.filterMap_cons,hf]
  exact List.mem_cons_of_mem _ hb
theorem dGV (I:Inv X pins σ H s):Env0 X.prog X.w X.K X.mg (hidF s.heap H (frs X.stack)) X.A X.stack s H:=
 ⟨I.ok.frames,Mod.keeps I.ok.mod (dBX I),fun b o e=>dEr e,Nat.le_of_eq dAz,w8 I.stack fun b hb=>dAM hb,I.stkFree,I.hok,I.bare⟩
structure CellsIn (env:Env) (N:List Str) (σ:L2.St) (base:Heap):Prop where
 cell:∀ x c,env.cells.lookup x=some c→∃ v,base.IsCell c v
 val:∀ (i:Nat) (x:Str) (v:V),N[i]?=some x→σ[i]?=some (some v)→env.scope.names.lookup x=some .cell→∃ c u,env.cells.lookup x=some c∧base.IsCell c (some u)∧RelV v u
theorem dD1 (I:Inv X pins σ H s) (hfn:∀ x,X.fn x=true):CellsIn X.env X.N σ (hidF s.heap H (frs X.stack)):=by
 have up:∀ x c v,X.env.cells.lookup x=some c→s.heap.IsCell c v→(hidF s.heap H (frs X.stack)).IsCell c v:=fun x c v e ⟨o,ho,hd⟩=>by
  refine ⟨o,yt ho (I.freeC x c e) fun z=>?_,hd⟩
  rcases List.mem_cons.mp (I.stkSub c z) with q | q
  ·exact I.cne x c e q
  ·obtain ⟨_,ob,hb,_⟩:=I.ok.funs.mem q
   exact absurd (Nat.lt_of_lt_of_le (Heap.lt_size hb) (I.ok.cab x c (hfn x) e)) (Nat.lt_irrefl _)
 refine ⟨fun x c e=>?_,fun i x v h1 h2 h3=>?_⟩
 ·obtain ⟨v,z⟩:=I.cell x c e
  exact ⟨v,up x c v e z⟩
 ·obtain ⟨m,_,hl⟩:=I.loc
  obtain ⟨u,r,l⟩:=hl i x v h1 h2 (.inr (.inl h3))
  rcases l with ⟨k,_⟩ | ⟨_,c,hc,z⟩
  ·have k':X.env.scope.names.lookup x=some .local:=k
   rw [h3] at k';cases k'
  ·exact ⟨c,u,hc,up x c _ hc z,r⟩
theorem dDd {params:Arguments}{body:Expr}{scope:Scope}{pos:Pos}{ps:Array Value}{clos:List (Str×Addr)}{c P:Addr}{Q:Value→Shared→Prop}{E:Value→Shared→Prop} (I:Inv X pins σ H s) (hcode:X.env.code=.ref c) (C:PySem.W.CodeHd X.base c P) (hP:H P=some (.tbl ps))
  (ht:TriplesOk ps.toList) (hnf:codeAmong pos ps.toList=none) (hb:dBl X.mg X.base) (hcl:closureFor scope X.env=pure clos) (hdef:defaultsOf params X.env=([],[]))
  (h:∀ f s2 more,Inv X pins σ (upd H P (.tbl (ps++more))) s2→dDb (hidF s2.heap (upd H P (.tbl (ps++more))) (frs X.stack)) f (X.env.qual++"<lambda>") params body scope clos→Q (.ref f) s2) :
  wpAny (model X.prog X.w) X.A (eval (.Lambda params body scope pos) X.env) Q E s:=by
 refine PySem.W.kla_eval hdef ?_
 have hPo:s.heap.get? P=some (PySem.W.tabObj ps):=I.hok P _ hP
 have hgs:=I.ok.mod.glob.keeps I.bk
 obtain ⟨bm,ob,b1,b2,b3,b4,b5,b6⟩:=hb
 have hgP:mainGlobals≠P:=fun q=>by
  obtain ⟨o,es,ep,e,hd,_⟩:=hgs
  rw [q,hPo] at e;cases e;cases hd
 have hbP:bm≠P:=fun q=>by
  have e:=I.bk _ _ b3
  rw [q,hPo] at e;cases e;cases b4
 have hbG:bm≠mainGlobals:=fun q=>by
  obtain ⟨o,es,ep,e,hd,_⟩:=I.ok.mod.glob
  rw [q,e] at b3;cases b3;rw [hd] at b6;cases b6
 refine PySem.W.kla_makeFunction (mg:=X.mg) hcl I.ok.glob hgs hcode (C.keeps I.bk) hPo ht hnf hgP ⟨bm,ob,b1,b2,hbG,hbP,I.bk _ _ b3,b4,b5,b6⟩ fun c' ctv h' tk hx hge hlt hrec htb=>?_
 have old:∀ b o,b≠P→s.heap.get? b=some o→(h'.push (PySem.W.kla_obj "<lambda>" (X.env.qual++"<lambda>") params body scope clos ((X.mg "__name__").getD .none) c' ctv)).get? b=some o:=fun b o hb e=>Heap.get?_push_of_some _ (hx b o hb e)
 have newP:(h'.push (PySem.W.kla_obj "<lambda>" (X.env.qual++"<lambda>") params body scope clos ((X.mg "__name__").getD .none) c' ctv)).get? P=some (PySem.W.tabObj (ps++#[rawInt pos.line,rawInt pos.col,.ref c'])):=Heap.get?_push_of_some _ htb
 have trP:∀ b u,H b=some u→(∀ qs,u≠.tbl qs)→b≠P:=fun b u e n z=>by rw [z,hP] at e;exact n ps (Option.some.inj e).symm
 have un:Un X.fs [] H (upd H P (.tbl (ps++#[rawInt pos.line,rawInt pos.col,.ref c']))) s.heap (h'.push (PySem.W.kla_obj "<lambda>" (X.env.qual++"<lambda>") params body scope clos ((X.mg "__name__").getD .none) c' ctv)):=by
  have nP:∀ b,H b=none→b≠P:=fun b n z=>by rw [z,hP] at n;cases n
  refine ⟨fun b o e n _ _=>old b o (nP b n) e,fun b o e n _ _=>⟨o.slots,old b o (nP b n) e⟩,fun b o e n _=>by rw [d8 (nP b n)];exact n,fun b o e _=>?_,fun b xs e=>?_,fun b o u e=>?_,fun b qs e=>?_⟩
  ·by_cases hb:b=P
   ·rw [hb];exact ⟨_,newP⟩
   ·exact ⟨o,old b o hb e⟩
  ·rw [d8 (trP b _ e fun qs z=>by cases z)];exact e
  ·rw [d8 (trP b _ e fun qs z=>by cases z)];exact e
  ·by_cases hb:b=P
   ·rw [hb,hP] at e
    cases e
    exact ⟨_,by rw [hb];exact d9⟩
   ·exact ⟨#[],by rw [d8 hb,e];simp⟩
 have hok:HOk X.prog X.w (upd H P (.tbl (ps++#[rawInt pos.line,rawInt pos.col,.ref c']))) (h'.push (PySem.W.kla_obj "<lambda>" (X.env.qual++"<lambda>") params body scope clos ((X.mg "__name__").getD .none) c' ctv)):=fun b u e=>by
  by_cases hb:b=P
  ·subst hb
   rw [d9] at e
   cases e
   exact newP
  ·rw [d8 hb] at e
   refine (I.hok b u e).stay (fun d v hd q=>old d v ?_ q) (fun d q=>?_) fun d xs q=>?_
   ·rcases hd with rfl | hd
    ·exact hb
    ·exact trP d _ hd fun qs z=>by cases z
   ·rw [d8 (trP d _ q fun qs z=>by cases z)];exact q
   ·rw [d8 (trP d _ q fun qs z=>by cases z)];exact q
 have I2:=I.un (t':=tk) un hok
 have szle:s.heap.objs.size≤h'.objs.size:=Nat.le_trans hge (Nat.le_of_lt hlt)
 have fresh:∀ b o,s.heap.objs.size≤b→(h'.push (PySem.W.kla_obj "<lambda>" (X.env.qual++"<lambda>") params body scope clos ((X.mg "__name__").getD .none) c' ctv)).get? b=some o→(hidF (h'.push (PySem.W.kla_obj "<lambda>" (X.env.qual++"<lambda>") params body scope clos ((X.mg "__name__").getD .none) c' ctv)) (upd H P (.tbl (ps++#[rawInt pos.line,rawInt pos.col,.ref c']))) (frs X.stack)).get? b=some o:=fun b o hb e=>by
  have bP:b≠P:=fun z=>absurd (Nat.lt_of_lt_of_le (Heap.lt_size hPo) (z▸hb)) (Nat.lt_irrefl _)
  refine yt e (by rw [d8 bP];exact I.hok.fresh hb) fun z=>?_
  rcases List.mem_cons.mp (I.stkSub b z) with q | q
  ·exact absurd (Nat.lt_of_lt_of_le I.lt (q▸hb)) (Nat.lt_irrefl _)
  ·exact I.nofs hb q
 refine h _ _ _ I2 ⟨_,c',ctv,fresh _ _ szle (Heap.get?_push_size _ rfl),?_⟩
 obtain ⟨c2,oc,vs,t,e2,hoc,hd,hv⟩:=hrec
 cases e2
 exact ⟨c',oc,vs,t,rfl,fresh _ _ hge (Heap.get?_push_of_some _ hoc),hd,hv⟩
end
def dDG (P:Program) (w:World) (K:PySem.W.Frag) (mg:Str→Option Value) (base:Heap) (k:Nat) (f:Addr) (sp:Sp):Prop:=
 (∃ oc od fd sl,base.get? f=some ⟨oc,od,.func fd,sl⟩)∧∀ (A:Around) (outer:List Env) (s:Shared) (H:Hp) (u:Value) (v:V) (Q:VK) (E:XK),Room k A→Env0 P w K mg base A outer s H→RelV v u→sp [v] H Q E →
  codeAny (model P w) A (.call (.ref f) ⟨[u],[]⟩) (CR (CXX P w) outer P w H s Q E) s
def d8p (P:Program) (w:World) (K:PySem.W.Frag) (mg:Str→Option Value) (base:Heap) (N:List Str) (qual:Str) (scope:Scope) (f:Addr) (cd:Value) (cl:List (Str×Addr)) (A:Around) (outer:List Env) (s:Shared) (H:Hp) (E:XK):Cx where
 prog:=P
 w:=w
 K:=K
 mg:=mg
 base:=base
 A:=A.deeper (PySem.W.envX qual scope s.heap.objs.size f cd cl)
 N:=N
 s_0:=s
 H_0:=H
 env:=PySem.W.envX qual scope s.heap.objs.size f cd cl
 outer:=outer
 stack:=PySem.W.envX qual scope s.heap.objs.size f cd cl::outer
 ex:=[]
 calm:=true
 fn:=fun _=>false
 pn:=[]
 xe:=fun e s'=>wpAny (model P w) (A.deeper (PySem.W.envX qual scope s.heap.objs.size f cd cl)) (leaving (PySem.W.envX qual scope s.heap.objs.size f cd cl) e) (fun _ s''=>CXX P w outer H s E e s'') (fun e' s''=>CXX P w outer H s E e' s'') s'
section
variable {P:Program}{w:World}{K:PySem.W.Frag}{mg:Str→Option Value}{base:Heap}{N:List Str}{qual:Str}{scope:Scope}{f:Addr}{cd:Value}{cl:List (Str×Addr)}{A:Around}{outer:List Env}{s:Shared}{H:Hp}{E:XK}
theorem dCg:jF (CXX P w) (d8p P w K mg base N qual scope f cd cl A outer s H E) E:=by
 intro pins σ H1 s1 e s' I h
 obtain ⟨a,B,C,dx,a0,H',rfl,F⟩:=h
 have fl:=F.fly
 refine wpAny_mono (Kd.any (vI _ _) (wpAny_leaves_onW (Q:=fun _ s''=>∃ h',s''={ s' with heap:=h' }∧Heap.FlyingW B outer a (.ref C) a0 h'∧s'.heap.UpToSlots h') I.ok.frames rfl fl fun h' f1 f2=>⟨h',rfl,f1,f2⟩)) ?_ fun e' s'' z=>z
 rintro _ s'' ⟨⟨h',rfl,f1,f2⟩,dk⟩
 obtain ⟨o,ho,hd⟩:=F.dict
 obtain ⟨o',ho',hd',_⟩:=dk a o ho
 have noE:∀ b:Addr,b∉(d8p P w K mg base N qual scope f cd cl A outer s H E).ex:=fun b z=>absurd (show b∈([]:List Addr) from z) (by simp)
 have keep:∀ b o,s.heap.get? b=some o→H b=none→b∉frs outer→B.get? b=some o:=fun b o q n hb=>by
  refine F.keep b o (I.base.keep b o q n hb (noE b)) (I.base.free b o q n (noE b)) fun z=>?_
  rcases List.mem_cons.mp (I.stkSub b z) with e1 | e1
  ·have l1:=Heap.lt_size q
   have l2:s.heap.objs.size≤b:=by rw [e1];exact I.ok.above
   exact absurd (Nat.lt_of_lt_of_le l1 l2) (Nat.lt_irrefl _)
  ·exact hb e1
 refine ⟨a,B,C,dx,a0,H',rfl,F.os.trans I.os,F.bare,f1,⟨o',ho',hd'.trans hd⟩,keep,?_,F.hok,F.wish⟩
 refine ⟨fun b ob q n hb _=>f1.1 b ob (keep b ob q n hb),fun b ob q n hb _=>?_,fun b ob q n _=>?_,fun b ob q _=>?_,fun b xs q=>F.un.tups b xs (I.base.tups b xs q),fun b ob u q=>F.un.frzs b ob u (I.base.frzs b ob u q),fun b ps q=>?_⟩
 ·obtain ⟨sl,e1⟩:=I.base.slot b ob q n hb (noE b)
  have hb2:b∈frs (d8p P w K mg base N qual scope f cd cl A outer s H E).stack:=by
   show b∈List.filterMap _ (_::outer)
   rw [List.filterMap_cons]
   exact List.mem_cons_of_mem _ hb
  obtain ⟨sl2,e2⟩:=F.un.slot b _ e1 (I.base.free b ob q n (noE b)) hb2 (by simp)
  obtain ⟨_,o3,e3,d3⟩:=fl.2.2.1.mem hb2
  rw [e2] at e3
  obtain rfl:=Option.some.inj e3
  obtain ⟨sl4,e4⟩:=f2 b _ e2 d3
  exact ⟨sl4,e4⟩
 ·obtain ⟨o1,e1⟩:=I.base.there b ob q (noE b)
  exact F.un.free b o1 e1 (I.base.free b ob q n (noE b)) (by simp)
 ·obtain ⟨o1,e1⟩:=I.base.there b ob q (noE b)
  obtain ⟨o2,e2⟩:=F.un.there b o1 e1 (by simp)
  obtain ⟨o3,e3,_⟩:=dk b o2 e2
  exact ⟨o3,e3⟩
 ·obtain ⟨m1,e1⟩:=I.base.tbls b ps q
  obtain ⟨m2,e2⟩:=F.un.tbls b _ e1
  exact ⟨m1++m2,by rw [e2,Array.append_assoc]⟩
theorem dFz {k:Nat}{params:Arguments}{body:Expr}{x0:Str}{fr:List Str}{vals:List V}{sp:Sp} (L:dDb base f qual params body scope cl) (hco:scope.isCoroutine=false) (hgen:scope.isGenerator=false) (hk:scope.kind=.function)
  (hcell:∀ x∈scope.names,x.2≠.cell) (hx0:scope.names.lookup x0=some .local) (hbind:∀ (pm ctv u:Value) (c':Addr),bindArgs (PySem.W.kla_fn "<lambda>" qual params body scope cl pm (.ref c') ctv) ⟨[u],[]⟩=pure [(x0,u)])
  (hinj:∀ x y c,cl.lookup x=some c→cl.lookup y=some c→x=y) (hhas:∀ x,scope.names.lookup x=some .free→∃ c,cl.lookup x=some c) (hcl:∀ x c,cl.lookup x=some c→∃ v,base.IsCell c v)
  (hlen:fr.length=vals.length) (hfr:∀ (i:Nat) (x:Str) (v:V),fr[i]?=some x→vals[i]?=some v→scope.names.lookup x=some .free∧∃ c u,cl.lookup x=some c∧base.IsCell c (some u)∧RelV v u)
  (hbody:∀ (A:Around) (outer:List Env) (s:Shared) (H:Hp) (cd:Value) (v:V) (Q:VK) (E:XK),Room k (A.deeper (PySem.W.envX qual scope s.heap.objs.size f cd cl))→sp [v] H Q E →
   ∃ t,PE (d8p P w K mg base (x0::fr) qual scope f cd cl A outer s H E) body t∧t (some v::vals.map some) H Q):dDG P w K mg base (k+1) f sp:=by
 obtain ⟨pm,c',ctv,hf,hcr⟩:=L
 refine ⟨⟨_,_,_,_,hf⟩,fun A outer s H u v Q E hr e0 rv hsp=>?_⟩
 have bk:∀ b o,base.get? b=some o→s.heap.get? b=some o:=fun b o e=>(e0.bs b o e).1
 refine PySem.W.kla_callFunE hr.depth (bk _ _ hf) rfl hco hgen rfl (hcr.keeps bk) ?_
 rw [hbind]
 refine wpAny_pure (wpAny_newFunctionEnv hcell (fun y hy=>by
  obtain rfl:y=(x0,u):=List.mem_singleton.mp hy
  exact hx0) (fun h₁ hns hsb=>⟨(e0.mod.nolimit.keeps bk).fresh _ hsb,?_⟩) hk)
 show codeAny _ _ (.expr body (PySem.W.envX qual scope s.heap.objs.size f (.ref c') cl)) _ _
 have hk₁:∀ b o,s.heap.get? b=some o→h₁.get? b=some o:=fun b o e=>hsb.extBut b o (Nat.ne_of_lt (Heap.lt_size e)) (Heap.get?_push_of_some _ e)
 obtain ⟨t,pe,ht⟩:=hbody A outer s H (.ref c') v Q E (hr.deeper _) hsp
 have noA:∀ b:Addr,b∉(d8p P w K mg base (x0::fr) qual scope f (.ref c') cl A outer s H E).ex:=fun b z=>absurd (show b∈([]:List Addr) from z) (by simp)
 have cellUp:∀ c v,base.IsCell c v→h₁.IsCell c v:=fun c v ⟨o,ho,hd⟩=>⟨o,hk₁ _ _ (bk _ _ ho),hd⟩
 have I:Inv (d8p P w K mg base (x0::fr) qual scope f (.ref c') cl A outer s H E) [] (some v::vals.map some) H { s with heap:=h₁,toks:=s.toks+1 }:=by
  refine ⟨⟨e0.mod,hk,rfl,rfl,Nat.le_refl _,hinj,fun y hy=>?_,fun y c z _=>absurd (show false=true from z) Bool.false_ne_true,fun _=>hr.hd,Around.frames_deeper e0.frames,.inr ⟨rfl,rfl⟩,fun b z=>absurd z (noA b),e0.bs,e0.bsz,fun b _ _=>noA b,fun b z=>absurd z (noA b),e0.funs,e0.frf⟩,
   rfl,e0.bare,Un.kept hk₁,⟨_,hns,fun i y z h1 h2 h3=>?_⟩,fun y c h=>?_,e0.hok.fresh (Nat.le_refl _),fun y c h=>?_,fun p hp=>absurd (show p∈([]:List (Addr×Obj)) from hp) (by simp),e0.hok.kept hk₁,?_⟩
  ·rcases hy with hy | hy
   ·have hy':scope.names.lookup y=some .cell:=hy
    exact absurd rfl (hcell _ (PySem.mem_of_lookup hy'))
   ·exact hhas y hy
  ·cases i with
   | zero=>
    have h1':(x0::fr)[0]?=some y:=h1
    have e1:x0=y:=by simpa using h1'
    have e2:v=z:=by simpa using h2
    subst e1 e2
    refine ⟨u,rv,.inl ⟨hx0,?_⟩⟩
    show List.lookup x0 [(x0,u)]=some u
    rw [List.lookup_cons,beq_self_eq_true]
   | succ i=>
    have h1':(x0::fr)[i+1]?=some y:=h1
    have e1:fr[i]?=some y:=by simpa using h1'
    have e2:vals[i]?=some z:=by
     have h2':(vals.map some)[i]?=some (some z):=by simpa using h2
     rw [List.getElem?_map] at h2'
     cases q:vals[i]? with
     | none=>rw [q] at h2';cases h2'
     | some a=>rw [q] at h2';cases h2';rfl
    obtain ⟨k1,c,u1,hc,hz,r1⟩:=hfr i y z e1 e2
    exact ⟨u1,r1,.inr ⟨.inr k1,c,hc,cellUp _ _ hz⟩⟩
  ·obtain ⟨z,hz⟩:=hcl y c h
   exact ⟨z,cellUp _ _ hz⟩
  ·obtain ⟨z,o,ho,_⟩:=hcl y c h
   exact (e0.bs _ _ ho).2
  ·show (some v::vals.map some).length=(x0::fr).length
   rw [List.length_cons,List.length_cons,List.length_map,hlen]
 refine PySem.W.kla_codeExpr (wpAny_mono (pe [] _ _ H Q I ht) (fun r s' q=>?_) fun _ _ y=>y)
 obtain ⟨v',H',I',r',q'⟩:=q
 exact ⟨v',H',I'.os,I'.bare,I'.base,I'.hok,r',q'⟩
end
def tAsk (sp:Sp) (E:XK) (f:Addr) (j:Nat) (te:TE):TE:=fun σ H Q=>σ[j]?=some (some (.ref f))∧te σ H fun v H1=>sp [v] H1 Q E
theorem dFO {X:Cx}{k j:Nat}{x:Str}{f:Addr}{sp:Sp}{E:XK}{e:Expr}{te:TE}{p pos:Pos} (hN:X.N[j]?=some x) (hv:Vis X.env.scope x) (hr:Room k X.A) (F:dDG X.prog X.w X.K X.mg X.base k f sp) (hx:jF (CXX X.prog X.w) X E) (he:PE X e te)
  (hs:starEach [e] X.env=[(false,eval e X.env)]:=by rfl) (hd:(x==("__debug__":Str))=false:=by decide) (hcd:(x==("__classdict__":Str))=false:=by decide):PE X (.Call (.Name x p) [e] [] pos) (tAsk sp E f j te):=by
 intro pins s σ H Q I h
 obtain ⟨hf,h⟩:=h
 obtain ⟨⟨oc,od,fd,sl,ho⟩,run⟩:=F
 refine wpAny_Call_Name_kw (thn (dBd hN hv hd hcd pins s σ H (fun v H1=>v=.ref f∧te σ H1 fun v H1=>sp [v] H1 Q E) I ⟨_,hf,rfl,h⟩) fun u s1 ⟨v,H1,I1,r1,ev,q⟩=>?_)
 subst ev
 obtain rfl:u=Value.ref f:=r1
 show wpAny _ _ (callWith pos (.ref f) [] (backTo pos (starEach [e] X.env)) []) _ _ _
 have sp1:=d0 he dD hs pos pins s1 σ H1 (fun vs H2=>match vs with | [v]=>sp [v] H2 Q E | _=>False) I1 q
 rw [hs] at sp1 ⊢
 refine PySem.W.callWith_of (P:=fun h=>h.get? f=some ⟨oc,od,.func fd,sl⟩) (first:=[]) rfl (fun h e=>⟨.frame,.inl rfl,(PySem.W.Looks.ld (part:=none) e).andThen .now⟩) (PySem.Calls.evalArgs_plain ?_)
 refine thn sp1 fun us s2 ⟨vs,H2,I2,r2,q2⟩=>⟨I2.bk _ _ ho,?_⟩
 match vs,us,r2,q2 with
 | [],_,_,q2=>exact q2.elim
 | _::_::_,_,_,q2=>exact q2.elim
 | [v],_,.cons r .nil,q2=>
 refine wpAny_call (codeAny_mono (run X.A X.stack s2 H2 _ v Q E hr I2.env0 r q2) fun rr s' hq=>?_)
 cases rr with
 | error e=>exact hx pins σ H2 s2 e s' I2 hq
 | ok fl=>
  cases fl with
  | ret u=>exact I2.after hq
  | next=>exact False.elim hq
  | brk=>exact False.elim hq
  | cont=>exact False.elim hq
def dGZ (sp:Heap→Sp) (qual:Str) (env:Env) (N:List Str) (params:Arguments) (body:Expr) (scope:Scope) (clos:List (Str×Addr)) (lpos:Pos) (P:Addr) (t1 t2:TE):TE:=fun σ H Q=>t1 σ H fun v1 H1=>t2 σ H1 fun v2 H2=>
 ∃ ps,H2 P=some (.tbl ps)∧TriplesOk ps.toList∧codeAmong lpos ps.toList=none∧∀ more base' f,dDb base' f qual params body scope clos→CellsIn env N σ base'→sp base' [v1,v2,.ref f] (upd H2 P (.tbl (ps++more))) Q E0
theorem dEN {X:Cx}{k:Nat}{x:Str}{ps:List Str}{sp:Heap→Sp}{c P:Addr}{e1 e2:Expr}{t1 t2:TE}{params:Arguments}{body:Expr}{scope:Scope}{clos:List (Str×Addr)}{p pos lpos:Pos}{g:Addr}{fd:FuncData}
  (F:∀ base:Heap,FnOk X.prog X.w X.K X.mg base (CXX X.prog X.w) k g fd ps (sp base)) (hb:Binds X.K fd ps []) (hr:Room k X.A) (hg:Gl X x) (hm:X.mg x=some (.ref g)) (hk:PySem.W.keepIn X.K (.ref g)=true) (h1:PE X e1 t1) (h2:PE X e2 t2)
  (hfn:∀ x,X.fn x=true) (hcode:X.env.code=.ref c) (C:PySem.W.CodeHd X.base c P) (hbm:dBl X.mg X.base) (hcl:closureFor scope X.env=pure clos) (hdef:defaultsOf params X.env=([],[]))
  (hdb:(x==("__debug__":Str))=false:=by decide) (he1:starEach [e1,e2,.Lambda params body scope lpos] X.env=(false,eval e1 X.env)::starEach [e2,.Lambda params body scope lpos] X.env:=by rfl)
  (he2:starEach [e2,.Lambda params body scope lpos] X.env=(false,eval e2 X.env)::starEach [.Lambda params body scope lpos] X.env:=by rfl) (he3:starEach [.Lambda params body scope lpos] X.env=[(false,eval (.Lambda params body scope lpos) X.env)]:=by rfl) :
  PE X (.Call (.Name x p) [e1,e2,.Lambda params body scope lpos] [] pos) (dGZ sp (X.env.qual++"<lambda>") X.env X.N params body scope clos lpos P t1 t2):=by
 intro pins s σ H Q I h
 refine wpAny_Call_Name_kw (kM I hg hm ?_ hdb)
 refine PySem.W.callWith_K (K:=X.K) (h₀:=X.base) I.ok.mod.kin hk ?_ he1 (by rw [he2,he3];rfl)
 rw [he1,he2,he3]
 refine Calls.spliced_cons (thn (h1 pins s σ H _ I h) fun u1 s1 ⟨v1,H1,I1,r1,q1⟩=>?_)
 refine Calls.spliced_cons (thn (h2 pins s1 σ H1 _ I1 q1) fun u2 s2 ⟨v2,H2,I2,r2,q2⟩=>?_)
 obtain ⟨qs,hP,ht,hnf,q2⟩:=q2
 refine Calls.spliced_cons (dDd I2 hcode C hP ht hnf hbm hcl hdef fun f s3 more I3 L=>?_)
 refine Calls.spliced_nil ⟨I3.kIn,?_⟩
 have F':=F (hidF s3.heap (upd H2 P (.tbl (qs++more))) (frs X.stack))
 have hsp:=q2 more _ f L (dD1 I3 hfn)
 have rv:Vals [v1,v2,.ref f] [u1,u2,.ref f]:=.cons r1 (.cons r2 (.cons rfl .nil))
 have hl:([u1,u2,Value.ref f]++[]).length=ps.length:=by
  rw [List.append_nil,←rv.length]
  exact F'.len _ _ _ _ hsp
 have hbd:=hb s3 [u1,u2,.ref f] I3.kIn hl
 rw [List.append_nil] at hbd
 refine wpAny_call (codeAny_mono (F'.run X.A X.stack s3 _ ⟨[u1,u2,.ref f],[]⟩ [u1,u2,.ref f] [v1,v2,.ref f] Q E0 hr (dGV I3) hbd rv hsp) fun r s' hq=>?_)
 cases r with
 | error e=>exact dG pins σ _ s3 e s' I3 hq
 | ok fl=>
  cases fl with
  | ret u=>exact I3.after hq
  | next=>exact False.elim hq
  | brk=>exact False.elim hq
  | cont=>exact False.elim hq
end Xc
end
section
set_option linter.all false
set_option maxRecDepth 100000
namespace Xc
open PySem PySem.Spec PyProof.Rows L2
section
variable {P:Program}{w:World}{K:PySem.W.Frag}{mg:Str→Option Value}{base:Heap}{N:List Str}{qual:Str}{scope:Scope}{f:Addr}{cd:Value}{A:Around}{outer:List Env}{s:Shared}{H:Hp}{E E':XK}{W:Value→Shared→Prop}
variable {k:Nat}{C fI:Addr}{fd:FuncData}{ps:List Str}{sp:Sp}{x:Str}{p pos cpos:Pos}
theorem dAV (M:ExcC K C fI) (F:FnOk P w K mg base (CXX P w) k fI fd ps sp) (hr:Room (k+1) (cxOf (CXX P w) P w K mg base N qual scope f cd A outer s H E).A) (hb:Binds K fd ps [])
  (hg:Gl (cxOf (CXX P w) P w K mg base N qual scope f cd A outer s H E) x) (hm:mg x=some (.ref C))
  (hthr:∀ pins σ H2 s2 a dx,Inv (cxOf (CXX P w) P w K mg base N qual scope f cd A outer s H E) pins σ H2 s2→H2 a=some (.ext (ve C dx a))→E' (.ref C) (some dx) (del H2 a)→W (.ref a) s2) (hdb:(x==("__debug__":Str))=false:=by decide) :
  PS ((cxOf (CXX P w) P w K mg base N qual scope f cd A outer s H E).wish W) (.Raise (some (.Call (.Name x p) [] [] cpos)) none pos) (d78 C sp E' tNil):=by
 intro pins s1 σ H1 D I h
 obtain ⟨hz,q⟩:([]:List V).length≤sizeLine∧_:=h
 obtain ⟨nm,q',N',bs,bm,hd,sn,sub,ab,col,dd,k0,k1,k2,k3,k5,lk,b1,b2,b3,b4⟩:=M.cls
 refine vJ (yB (C:=C) (nm:=nm) (q:=q') (N:=N') (bs:=bs) (bm:=bm) (hd:=hd) (sn:=sn) (sub:=sub) (ab:=ab) (col:=col) (dd:=dd) (k0:=k0) (k1:=k1) (k2:=k2) (k3:=k3) (k5:=k5) (nw:="Exception.__new__") b4 hr.hd ?_)
 refine wpAny_bind (wpAny_mono (Q:=EP ((cxOf (CXX P w) P w K mg base N qual scope f cd A outer s H E).wish W) pins σ fun v H2=>∃ a dx,v=.ref a∧H2 a=some (.ext (ve C dx a))∧E' (.ref C) (some dx) (del H2 a)) ?_ (fun v s2 h2=>wpAny_bind (wpAny_standAt (wpAny_pure ?_))) fun _ _ z=>z)
 ·refine wpAny_Call_Name_kw (kM I hg hm ?_ hdb)
  exact PySem.W.callWith_K0 I.kIn M.kp (d8X (X:=(cxOf (CXX P w) P w K mg base N qual scope f cd A outer s H E).wish W) (us:=[]) M F hr hb dG I .nil (Nat.zero_le _) fun a hn=>q a hn)
 obtain ⟨vv,H2,I2,rv,a,dx,rfl,ha,hE⟩:=h2
 obtain rfl:v=Value.ref a:=rv
 obtain ⟨⟨T,hx⟩,_,_⟩:=I2.hok a _ ha
 exact ⟨a,T,some dx,#[],rfl,I2.kIn _ _ lk,hx,hthr _ _ _ _ _ _ I2.unwish ha hE⟩
end
end Xc
end
section
set_option linter.all false
set_option maxRecDepth 100000
set_option maxHeartbeats 4000000
namespace Pg
open PySem PySem.Spec PyProof.Rows L2 Xc Sp
structure CatT (K:PySem.W.Frag) (cs:Cs):Prop where
 cc:CatchC K cs.ref
 soor:PySem.W.subIn K (.ref cs.oor) (.ref cs.ref)=some true
 sovl:PySem.W.subIn K (.ref cs.ovl) (.ref cs.ref)=some true
 scst:PySem.W.subIn K (.ref cs.cst) (.ref cs.ref)=some true
 goor:GetX K cs.oor
 govl:GetX K cs.ovl
 gcst:GetX K cs.cst
section
variable {P:Program}{w:World}{K:PySem.W.Frag}{mg:Str→Option Value}{base:Heap}{cs:Cs}
theorem k8 {R C:Addr}{n:Int}{Q:VK} (hs:PySem.W.subIn K (.ref C) (.ref R)=some true) (g:GetX K C) (nn:PySem.W.findIn K (.ref C) "number"=some none) (h:∀ l H',H' l=some (.lst [.int n])→Q (.ref l) H'):Thr (vT K R Q) C n:=fun dx H' hd=>
 ⟨C,dx,numF n,n,rfl,rfl,hs,g,nn,hd,rfl,fun p _ a _=>h p _ d9⟩
theorem ja {C:Addr}{n:Int}{E:XK}{D:Ends}{σ:L2.St} (h:Thr E C n) (H1:Hp):d78 C (uH K C n) E tNil D σ H1:=
 ⟨Nat.zero_le _,fun x hx=>⟨x,rfl,d9,fun dy H' h1 h2 h3 h4=>⟨rfl,x,dy,rfl,h1,by
  have hdx:dy≠x:=fun z=>by rw [z,d9] at h3;cases h3
  exact h dy _ (by rw [jI hdx];exact h2)⟩⟩⟩
theorem okW {x qual:Str}{st:Stmt}{f:Addr}{fd:FuncData}{N ps:List Str}{k:Nat}{sp:Sp} (F:Fun K x qual st f fd) (S:FnScope N ps (dB st)) (len:∀ vs H Q E,sp vs H Q E→vs.length=ps.length)
  (hbody:∀ (cdv:Value) (A:Around) (outer:List Env) (s:Shared) (H:Hp) (vs:List V) (Q:VK) (E:XK),Room k (A.deeper (envOfC qual (dB st) s.heap.objs.size f cdv))→sp vs H Q E→∀ s1,Inv (cxOf (CXX P w) P w K mg base N qual (dB st) f cdv A outer s H E) [] (start N vs) H s1 →
   wpAny (model P w) (cxOf (CXX P w) P w K mg base N qual (dB st) f cdv A outer s H E).A (execs (gC st) (cxOf (CXX P w) P w K mg base N qual (dB st) f cdv A outer s H E).env) (SP (cxOf (CXX P w) P w K mg base N qual (dB st) f cdv A outer s H E) [] { nx:=fun _ H'=>Q .non H',rt:=Q })
    (cxOf (CXX P w) P w K mg base N qual (dB st) f cdv A outer s H E).xe s1):FnOk P w K mg base (CXX P w) (k+1) f fd ps sp:=by
 obtain ⟨oc,od,kV,doc,pm,an,cdv,ct,osl,rfl,lk,hcd⟩:=F.ex
 refine ⟨len,fun A outer s H args us vs Q E hr e0 hb r hsp=>?_⟩
 have hl:=len _ _ _ _ hsp
 have KX:K.In s.heap:=e0.mod.kin.keeps fun b o e=>(e0.bs b o e).1
 have lim:s.heap.NoLimit:=e0.mod.nolimit.keeps fun b o e=>(e0.bs b o e).1
 have hkind:∀ y∈ps.zip us,(dB st).names.lookup y.1=some .local∨((dB st).names.lookup y.1=some .cell∧((cellsFrom (s.heap.objs.size+1) (dB st).names []).lookup y.1).isSome=true):=fun ⟨n,v⟩ hy=>by
  rcases S.par n (List.of_mem_zip hy).1 with q | q
  ·exact .inl q
  ·exact .inr ⟨q,PySem.W.cellsFrom_some _ _ _ (.inl q)⟩
 refine codeAny_call_function hr.depth (KX _ _ lk) rfl S.co S.gen rfl (PySem.W.codeRec_of KX hcd) (hb _ _ _ _ ?_)
 refine wpAny_newFunctionEnv_cells S.kind hkind fun env he s1 x=>?_
 subst he
 refine ⟨lim.keeps x.toInCall.keep,codeAny_func ?_⟩
 have I:Inv (cxOf (CXX P w) P w K mg base N qual (dB st) f cdv A outer s H E) [] (start N vs) H s1:=d43 S hr.hd e0 hl r x
 refine wpAny_mono (hbody cdv A outer s H vs Q E (hr.deeper _) hsp s1 I) (fun fl s' hs=>?_) fun e s' hs=>hs
 have fin:∀ {σ':L2.St}{H':Hp}{v:V}{u:Value},Inv (cxOf (CXX P w) P w K mg base N qual (dB st) f cdv A outer s H E) [] σ' H' s'→RelV v u→Q v H'→CE outer P w H s Q u s':=
  fun {σ' H' v u} J rv q=>⟨v,H',J.os,J.bare,J.base,J.hok,rv,q⟩
 cases fl with
 | ret u=>
  obtain ⟨v,σ',H',J,rv,q⟩:=hs
  exact fin J rv q
 | next=>
  obtain ⟨σ',H',J,q⟩:=hs
  exact fin (v:=V.non) (u:=Value.none) J rfl q
 | brk=>
  obtain ⟨_,_,_,q⟩:=hs
  exact False.elim q
 | cont=>
  obtain ⟨_,_,_,q⟩:=hs
  exact False.elim q
def wk (P:Program) (w:World) (K:PySem.W.Frag) (mg:Str→Option Value) (cs:Cs) (j:Nat) (base:Heap):Sp:=fun vs H Q _=>∃ (ir:Bool) (la f:Addr) (sp:Sp) (bs:List Nat),vs=[.bl ir,.ref la,.ref f]∧dDG P w K mg base j f sp∧SqL K H la (nV bs)∧(∀ b∈bs,b < 256)∧bs.length≤9000 ∧
 (ir=false→∀ l H',H' l=some (.lst [.int (-2)])→Q (.ref l) H')∧(ir=true→∀ v,Rb35.taken bs=.bad v→∀ l H',H' l=some (.lst [.int v])→Q (.ref l) H') ∧
 (ir=true→∀ (G:Rb35.Prog) (b:Addr) (A:BkA) (B:Bk) (H':Hp),Rb35.taken bs=.good G→BookAt cs H' b A G.p B→B.Ok→Sz B→G.people=B.people→G.lets=B.known.lets→Rb35.small G=true→Same H H'→sp [.ref b] H' Q (vT K cs.ref Q))
theorem sc_answered:FnScope ["in_range","text","ask","refusal"] ["in_range","text","ask"] (dB st_answered):=⟨rfl,rfl,rfl,by decide +kernel,rfl,by decide +kernel,by decide +kernel⟩
theorem d8n {f:Addr}{fd:FuncData}{j:Nat} (hj:10≤j) (F:Fun K "answered" "answered" st_answered f fd) (hR:mg "Refusal"=some (.ref cs.ref)) (X:ExcsT K mg cs) (ct:CatT K cs) (BO:DefOk P w K mg base 10 "book_of" ["text"] (yn K cs)) :
  FnOk P w K mg base (CXX P w) (j+1) f fd ["in_range","text","ask"] (wk P w K mg cs j base):=by
 refine okW F sc_answered (fun vs H Q E h=>?_) (fun cdv A outer s H vs Q E hr h s1 I=>?_)
 ·obtain ⟨ir,la,f,sp,bs,rfl,_⟩:=h
  rfl
 ·obtain ⟨ir,la,g,sp,bs,rfl,AO,hla,hbs,hlb,kno,kbad,kgood⟩:=h
  obtain ⟨fC,fdC,hmC,MC,bC,GC⟩:=(jQ (P:=P) (w:=w) (base:=base) X).ex
  have passT:jF (CXX P w) ((cxOf (CXX P w) P w K mg base ["in_range","text","ask","refusal"] "answered" (dB st_answered) f cdv A outer s H E).wish
    (fun e s1=>wpAny (model P w) (cxOf (CXX P w) P w K mg base ["in_range","text","ask","refusal"] "answered" (dB st_answered) f cdv A outer s H E).A (noteFrame e (cxOf (CXX P w) P w K mg base ["in_range","text","ask","refusal"] "answered" (dB st_answered) f cdv A outer s H E).env)
     (fun _ s2=>wpAny (model P w) (cxOf (CXX P w) P w K mg base ["in_range","text","ask","refusal"] "answered" (dB st_answered) f cdv A outer s H E).A (setFlight e none)
      (fun _ s3=>wpAny (model P w) (cxOf (CXX P w) P w K mg base ["in_range","text","ask","refusal"] "answered" (dB st_answered) f cdv A outer s H E).A (handleBy e (cxOf (CXX P w) P w K mg base ["in_range","text","ask","refusal"] "answered" (dB st_answered) f cdv A outer s H E).env
       (match gC st_answered with | [.Try _ hs _ _ _]=>hs | _=>[]))
       (SP (cxOf (CXX P w) P w K mg base ["in_range","text","ask","refusal"] "answered" (dB st_answered) f cdv A outer s H E) [] { nx:=fun _ H'=>Q .non H',rt:=Q }) (cxOf (CXX P w) P w K mg base ["in_range","text","ask","refusal"] "answered" (dB st_answered) f cdv A outer s H E).xe s3) (cxOf (CXX P w) P w K mg base ["in_range","text","ask","refusal"] "answered" (dB st_answered) f cdv A outer s H E).xe s2) (cxOf (CXX P w) P w K mg base ["in_range","text","ask","refusal"] "answered" (dB st_answered) f cdv A outer s H E).xe s1)) (vT K cs.ref Q):=by
   intro pins σ H1 s1 e s' I1 hF
   obtain ⟨a,B',C,dx,a0,H',rfl,Fl⟩:=id hF
   exact dAF (Q:=Q) (D:={ nx:=fun _ H'=>Q .non H',rt:=Q }) (i:=3) ((I1.unwish).pins_of (pins':=[]) (fun p hp=>by simp at hp)) ct.cc hR hF rfl rfl sc_answered.nd rfl rfl
  refine wpAny_execs_cons (thn (Q:=SP (cxOf (CXX P w) P w K mg base ["in_range","text","ask","refusal"] "answered" (dB st_answered) f cdv A outer s H E) [] { nx:=fun _ H'=>Q .non H',rt:=Q }) (wpAny_Try_except ?_) fun fl s2 q=>?_)
  ·have body:PSs ((cxOf (CXX P w) P w K mg base ["in_range","text","ask","refusal"] "answered" (dB st_answered) f cdv A outer s H E).wish _) (match gC st_answered with | [.Try b _ _ _ _]=>b | _=>[]) _:=
    dA (gv (dB3 (uF (pv 0))) (dE (dAV (E':=vT K cs.ref Q) MC (GC.mono (Nat.le_trans (by decide:2≤9) (Nat.sub_le_sub_right hj 1))) (by rw [Nat.sub_add_cancel (Nat.le_trans (by decide) hj)];exact hr) bC rfl hmC fun pins' σ' H2 s2 a dx I2 ha hE=>d8x (D:={ nx:=fun _ H'=>Q .non H',rt:=Q }) (i:=3) I2 ct.cc hR ha hE rfl rfl sc_answered.nd rfl rfl)) dq) (dE (dZ (dFO (j:=2) rfl (Or.inl rfl) hr AO passT (dj (BO.mono hj) hr rfl passT (d0 (pv 1) dD)))))
   refine wpAny_mono (body [] s1 _ H { nx:=fun _ _=>False,rt:=Q } (I.wish _) ?_) (fun fl s2 q=>?_) fun e s2 q=>q
   ·refine ⟨_,rfl,ir,rfl,?_⟩
    cases ir with
    | false=>exact iteT (ja (k8 ct.soor ct.goor X.noor (kno rfl)) _)
    | true=>
     refine iteF ⟨rfl,_,rfl,la,bs,rfl,hla,hbs,hlb,fun G b Ab B H' e1 e2 e3 e4 e5 e6 e7 e8=>?_,fun v hv=>?_⟩
     ·exact kgood rfl G b Ab B H' e1 e2 e3 e4 e5 e6 e7 e8
     ·exact ⟨k8 ct.scst ct.gcst X.ncst (kbad rfl v hv),k8 ct.sovl ct.govl X.novl (kbad rfl v hv)⟩
   ·replace q:=q.unwish
    cases fl with
    | next=>obtain ⟨_,_,_,z⟩:=q;exact z.elim
    | brk=>obtain ⟨_,_,_,z⟩:=q;exact z.elim
    | cont=>obtain ⟨_,_,_,z⟩:=q;exact z.elim
    | ret u=>exact q
  ·cases fl with
   | next=>exact wpAny_execs_nil q
   | ret v=>exact q
   | brk=>exact q
   | cont=>exact q
end
end Pg
end
section
set_option linter.all false
set_option maxRecDepth 100000
set_option maxHeartbeats 4000000
namespace Pg
open PySem L2 Xc Sp Rb35
def dDl (cs:Cs):Sp:=fun vs H Q E=>∃ (b:Addr) (A:BkA) (p:Nat) (B:Bk) (i:Int),vs=[.ref b,.int i]∧BookAt cs H b A p B ∧
 (∀ k:Nat,0≤i→(B.ls.map (·.2))[i.toNat]?=some k→Q (.int (k:Int)) H)∧(¬ (0≤i∧i.toNat < B.ls.length)→Thr E cs.oor (-2))
section
variable {P:Program}{w:World}{K:PySem.W.Frag}{mg:Str→Option Value}{base:Heap}{cs:Cs}
theorem dF3:FnScope ["book","form"] ["book","form"] (dB st_formula_of):=⟨rfl,rfl,rfl,by decide +kernel,rfl,by decide +kernel,by decide +kernel⟩
theorem dF0 (T:FunT K mg "formula_of" st_formula_of) (clB:Cls K cs.boo) (naB:NoAt K cs.boo ["prime","people","nodes","lets","names"]) (hlen:mg "len"=none) (OR:ExcOk P w K mg base 2 "OutOfRange" cs.oor ["self"] (uH K cs.oor (-2))) :
  DefOk P w K mg base 4 "formula_of" ["book","form"] (dDl cs):=by
 obtain ⟨f,fd,F,hm⟩:=T.ex
 obtain ⟨fC,fdC,hmC,MC,bC,GC⟩:=OR.ex
 refine ⟨f,fd,hm,F.kp,F.binds (fun _ _ _ _ _ _ us hl=>match us,hl with | [_,_],_=>rfl),okX F dF3 (fun vs H Q E h=>?_) (fun cdv A outer s H vs Q E hr h=>?_)⟩
 ·obtain ⟨b,A,p,B,i,rfl,_⟩:=h
  rfl
 ·obtain ⟨b,Ad,p,B,i,rfl,R,kq,kx⟩:=h
  obtain ⟨dx,ob⟩:=R.ob
  refine ⟨_,dA (gv (dA0 (dQ d8C (pv 1) dS (dW _)) (yD (dQ dCA (pv 1) (dP dJ (by rfl) hlen PySem.boot_len (d0 (dM (pv 0) rfl) dD)) (dW _)))).pt (dE (jf MC GC hr bC rfl hmC)) dq)
   (dE (dZ (je gj (dM (pv 0) rfl) (pv 1) (fun _ _=>rfl)))),?_⟩
  refine ⟨_,rfl,_,_,rfl,rfl,_,rfl,ite2 (fun hc=>?_) fun hc=>?_⟩
  ·have h1:=of_decide_eq_true hc
   refine iteT (ja (kx fun z=>?_) _)
   omega
  have h1:¬ i < 0:=fun z=>hc (decide_eq_true z)
  refine ⟨_,rfl,_,rfl,b,cs.boo,dx,_,_,rfl,ob,clB,naB _ (by simp),ul _ _ _ _ _,_,_,rfl,.inl (SqL.of R.lets),_,_,rfl,rfl,_,rfl,ite2 (fun hc=>?_) fun hc=>?_⟩
  ·have h2:=of_decide_eq_true hc
   rw [dH,List.length_map] at h2
   exact ja (kx fun z=>by omega) _
  have h2:¬ ((nV (B.ls.map (·.2))).length:Int)≤i:=fun z=>hc (decide_eq_true z)
  rw [dH,List.length_map] at h2
  have hi:i.toNat < (B.ls.map (·.2)).length:=by rw [List.length_map];omega
  have hk:=List.getElem?_eq_getElem hi
  refine ⟨_,rfl,b,cs.boo,dx,_,_,rfl,ob,clB,naB _ (by simp),ul _ _ _ _ _,_,rfl,Ad.la,_,_,V.int (((B.ls.map (·.2))[i.toNat]:Nat):Int),rfl,rfl,SqL.of R.lets,uP (j:=i.toNat) (by omega) ?_,kq _ (by omega) hk⟩
  unfold nV
  rw [List.getElem?_map,hk]
  rfl
end
end Pg
end
section
set_option linter.all false
set_option maxRecDepth 100000
set_option maxHeartbeats 4000000
namespace Pg
open PySem PySem.Spec PyProof.Rows L2 Xc Sp
structure OwnT (K:PySem.W.Frag) (mg:Str→Option Value) (x qual:Str) (st:Stmt) (tm:Addr):Prop where
 exc:ExcT K mg x tm qual st
 nn:PySem.W.findIn K (.ref tm) "number"=some none
 su:∃ r,mg "Refusal"=some (.ref r)∧PySem.W.subIn K (.ref tm) (.ref r)=some true
 gx:GetX K tm
theorem OwnT.sub {K:PySem.W.Frag}{mg:Str→Option Value}{x qual:Str}{st:Stmt}{tm:Addr}{cs:Cs} (X:OwnT K mg x qual st tm) (T:ExcsT K mg cs):PySem.W.subIn K (.ref tm) (.ref cs.ref)=some true:=by
 obtain ⟨r,h1,h2⟩:=X.su
 rw [T.mref] at h1
 cases h1
 exact h2
end Pg
end
section
set_option linter.all false
set_option maxRecDepth 100000
set_option maxHeartbeats 4000000
namespace Pg
open PySem PySem.Spec PyProof.Rows L2 Xc Sp
theorem d4r {K:PySem.W.Frag}{H H':Hp}{a:Addr}{xs:List V} (s:Same H H') (h:SqL K H a xs):SqL K H' a xs:=by
 rcases h with (h | ⟨o,h⟩) | h
 ·exact .inl (.inl (s _ _ h))
 ·exact .inl (.inr ⟨o,s _ _ h⟩)
 ·exact .inr h
def dCD (K:PySem.W.Frag) (cs:Cs) (tm:Addr):Sp:=fun vs H Q E=>∃ (b:Addr) (A:BkA) (p:Nat) (B:Bk) (n:Addr) (r:List Nat) (c:Nat),vs=[.ref b,.ref n,.int (c:Int)]∧BookAt cs H b A p B∧SqL K H n (nV r)∧r.length≤600 ∧
 (Rb35.fits p c r=true→∀ H',Same H H'→Q .non H')∧(¬ Rb35.fits p c r=true→Thr E tm (-3))
def dD3 (cs:Cs):Sp:=fun vs H Q _=>∃ (b:Addr) (A:BkA) (p:Nat) (B:Bk) (i:Nat),vs=[.ref b,.int (i:Int)]∧BookAt cs H b A p B∧Q (.bl (decide (i < B.P))) H
def yk (cs:Cs):Sp:=fun vs H Q _=>∃ (b:Addr) (A:BkA) (p:Nat) (B:Bk) (j:Nat) (nd:Addr×Addr),vs=[.ref b,.int ((B.P+j:Nat):Int)]∧BookAt cs H b A p B∧A.nds[j]?=some nd∧Q (.ref nd.1) H
section
variable {P:Program}{w:World}{K:PySem.W.Frag}{mg:Str→Option Value}{base:Heap}{cs:Cs}{tm:Addr}
theorem dCU:FnScope ["self"] ["self"] (dB st_WrongNumbers_init):=⟨rfl,rfl,rfl,by decide +kernel,rfl,by decide +kernel,by decide +kernel⟩
theorem dDH (T:ExcsT K mg cs) (X:OwnT K mg "WrongNumbers" "WrongNumbers.__init__" st_WrongNumbers_init tm):ExcOk P w K mg base 2 "WrongNumbers" tm ["self"] (uH K tm (-3)):=by
 obtain ⟨fR,fdR,FR,cm⟩:=T.ref
 obtain ⟨f,fd,F,M,hm⟩:=X.exc.ex
 refine ⟨f,fd,hm,M,F.binds (fun _ _ _ _ _ _ us hl=>match us,hl with | [_],_=>rfl),okN F dCU (fun vs H Q E h=>?_) (fun cdv A outer s H vs Q E hr h=>?_)⟩
 ·obtain ⟨x,rfl,_⟩:=h
  rfl
 ·obtain ⟨x,rfl,hx,kq⟩:=h
  refine ⟨_,dE (dN (u9 rfl T.mref cm (uD FR) hr (jP FR) dG (d0 (pv 0) (d0 (d8U vt dS) dD)))),?_⟩
  refine ⟨_,rfl,_,rfl,x,tm,-3,rfl,hx,X.exc.cls,X.nn,fun dx H' h1 h2 h3 h4=>kq dx H' h1 h2 h3 h4⟩
theorem sc_keepN:FnScope ["book","numbers","count","number"] ["book","numbers","count"] (dB st_keep_numbers):=⟨rfl,rfl,rfl,by decide +kernel,rfl,by decide +kernel,by decide +kernel⟩
theorem dCv (T:FunT K mg "keep_numbers" st_keep_numbers) (clB:Cls K cs.boo) (naB:NoAt K cs.boo ["prime","people","nodes","lets","names"]) (hlen:mg "len"=none) (hany:mg "any"=none) (WN:ExcOk P w K mg base 2 "WrongNumbers" tm ["self"] (uH K tm (-3))) :
  DefOk P w K mg base 4 "keep_numbers" ["book","numbers","count"] (dCD K cs tm):=by
 obtain ⟨f,fd,F,hm⟩:=T.ex
 obtain ⟨fC,fdC,hmC,MC,bC,GC⟩:=WN.ex
 refine ⟨f,fd,hm,F.kp,F.binds (fun _ _ _ _ _ _ us hl=>match us,hl with | [_,_,_],_=>rfl),okX F sc_keepN (fun vs H Q E h=>?_) (fun cdv A outer s H vs Q E hr h=>?_)⟩
 ·obtain ⟨b,A,p,B,n,r,c,rfl,_⟩:=h
  rfl
 ·obtain ⟨b,Ad,p,B,n,r,c,rfl,R,hn,hz,kq,kx⟩:=h
  obtain ⟨dx,ob⟩:=R.ob
  refine ⟨_,dE (gv (dA0 (dQ d5B (dP dJ (by rfl) hlen PySem.boot_len (d0 (pv 1) dD)) (pv 2) (dW _)) (yD (uF (dP (d9O rfl) (by rfl) hany PyProof.Rows.boot_any (d0 (vU rfl sc_keepN.nd (gR (pv 1)) (gJ (own:=[("number",3)]) (by show blkC ["book","numbers","count","number"] (dB st_keep_numbers) _ [("number",3)]=true;decide +kernel))
    (fun _ _ _ _ _=>du (i:=3) sc_keepN.nd rfl (Or.inl rfl)) (fun _ _ _ _ _=>jh) (fun _ _ _ _ _=>gi dCA (pv 3) (d8w (K:=K) rfl (pv 0)) (dW _))) dD))))).pt (dE (jf MC GC hr bC rfl hmC)) dq),?_⟩
  refine ⟨_,rfl,_,_,rfl,.inl hn,_,rfl,rfl,_,rfl,ite2 (fun hc=>?_) fun hc=>?_⟩
  ·refine iteT (ja (kx fun z=>?_) _)
   rw [dH,jj] at hc
   unfold Rb35.fits at z
   have h1:=of_decide_eq_true (Bool.and_eq_true_iff.mp z).1
   simp [h1] at hc
  rw [dH,jj] at hc
  have h1:(r.length:Int)=(c:Int):=by simpa using hc
  replace h1:r.length=c:=by omega
  refine ⟨_,rfl,n,rfl,⟨_,hn⟩,fun D hD=>?_⟩
  have s0:∀ xs,Same H (upd H D (.lst xs)):=fun xs c o q=>by rw [d8 (dC q hD)];exact q
  refine jN (xs:=nV r) (fun j H'=>H'=upd H D (.lst (((r.take j).map fun x=>decide (p≤x)).map V.bl))) rfl ?_ ?_ ?_
  ·rintro j H' _ rfl
   exact d4r (s0 _) hn
  ·rintro j y H' hy rfl
   unfold nV at hy
   rw [List.getElem?_map] at hy
   cases hk:r[j]? with
   | none=>rw [hk] at hy;cases hy
   | some x=>
    rw [hk] at hy
    cases hy
    have hj:=(List.getElem?_eq_some_iff.mp hk).1
    refine ⟨rfl,_,rfl,_,rfl,b,cs.boo,dx,_,_,rfl,s0 _ _ _ ob,clB,naB _ (by simp),wH _ _ _ _ _,_,_,rfl,rfl,_,d9,?_,?_⟩
    ·rw [List.length_map,List.length_map,List.length_take]
     exact Nat.lt_of_le_of_lt (Nat.min_le_left _ _) (Nat.lt_of_lt_of_le hj (Nat.le_trans hz (by decide)))
    ·rw [jL,List.take_succ,hk]
     show _=upd H D (.lst (((r.take j++[x]).map _).map V.bl))
     rw [List.map_append,List.map_append]
     show upd H D (.lst (_++[V.bl (decide ((p:Int)≤(x:Int)))]))=_
     congr 4
     simp
  ·rintro H' rfl
   rw [dH,List.take_length]
   refine ⟨D,_,rfl,SqL.of d9,_,rfl,ite2 (fun hc2=>?_) fun hc2=>?_⟩
   ·refine ja (kx fun z=>?_) _
    obtain ⟨x,hx,hx2⟩:=List.any_eq_true.mp hc2
    obtain ⟨y,hy,rfl⟩:=List.mem_map.mp hx
    unfold Rb35.fits at z
    have h2:=List.all_eq_true.mp (Bool.and_eq_true_iff.mp z).2 y hy
    have h3:p≤y:=of_decide_eq_true hx2
    have h4:=of_decide_eq_true h2
    omega
   ·refine kq ?_ _ (s0 _)
    unfold Rb35.fits
    rw [decide_eq_true h1,Bool.true_and,List.all_eq_true]
    intro y hy
    refine decide_eq_true (Nat.lt_of_not_le fun z=>hc2 (List.any_eq_true.mpr ⟨_,List.mem_map.mpr ⟨y,hy,rfl⟩,decide_eq_true z⟩))
theorem dFR:FnScope ["self","formula"] ["self","formula"] (dB st_Book_is_person):=⟨rfl,rfl,rfl,by decide +kernel,rfl,by decide +kernel,by decide +kernel⟩
theorem dFq (T:MetT K cs.boo "is_person" "Book.is_person" st_Book_is_person) (clB:Cls K cs.boo) (naB:NoAt K cs.boo ["prime","people","nodes","lets","names"]) (hlen:mg "len"=none):MetOk P w K mg base 1 cs.boo "is_person" ["self","formula"] (dD3 cs):=by
 obtain ⟨f,fd,F,M⟩:=T.ex
 refine ⟨f,fd,M,F.binds (fun _ _ _ _ _ _ us hl=>match us,hl with | [_,_],_=>rfl),okN F dFR (fun vs H Q E h=>?_) (fun cdv A outer s H vs Q E hr h=>?_)⟩
 ·obtain ⟨b,A,p,B,i,rfl,_⟩:=h
  rfl
 ·obtain ⟨b,Ad,p,B,i,rfl,R,kq⟩:=h
  obtain ⟨dx,ob⟩:=R.ob
  refine ⟨_,dE (dZ (gi d8C (pv 1) (dP dJ (by rfl) hlen PySem.boot_len (d0 (dM (pv 0) rfl) dD)) (dW _))),?_⟩
  refine ⟨_,rfl,_,rfl,b,cs.boo,dx,_,_,rfl,ob,clB,naB _ (by simp),gm _ _ _ _ _,_,_,rfl,.inl (SqL.of R.people),_,_,rfl,rfl,?_⟩
  rw [List.length_map]
  have:decide ((i:Int) < ((B.people.length:Nat):Int))=decide (i < B.P):=by
   show _=decide (i < B.people.length)
   simp
  show Q (.bl (decide ((i:Int) < ((B.people.length:Nat):Int)))) H
  rw [this]
  exact kq
theorem dBf:FnScope ["self","formula"] ["self","formula"] (dB st_Book_node_of):=⟨rfl,rfl,rfl,by decide +kernel,rfl,by decide +kernel,by decide +kernel⟩
theorem dC7 (T:MetT K cs.boo "node_of" "Book.node_of" st_Book_node_of) (clB:Cls K cs.boo) (naB:NoAt K cs.boo ["prime","people","nodes","lets","names"]) (hlen:mg "len"=none):MetOk P w K mg base 1 cs.boo "node_of" ["self","formula"] (yk cs):=by
 obtain ⟨f,fd,F,M⟩:=T.ex
 refine ⟨f,fd,M,F.binds (fun _ _ _ _ _ _ us hl=>match us,hl with | [_,_],_=>rfl),okN F dBf (fun vs H Q E h=>?_) (fun cdv A outer s H vs Q E hr h=>?_)⟩
 ·obtain ⟨b,A,p,B,j,nd,rfl,_⟩:=h
  rfl
 ·obtain ⟨b,Ad,p,B,j,nd,rfl,R,hj,kq⟩:=h
  obtain ⟨dx,ob⟩:=R.ob
  refine ⟨_,dE (dZ (je gj (dM (pv 0) rfl) (jT wq (pv 1) (dP dJ (by rfl) hlen PySem.boot_len (d0 (dM (pv 0) rfl) dD))) (fun _ _=>rfl))),?_⟩
  refine ⟨_,rfl,b,cs.boo,dx,_,_,rfl,ob,clB,naB _ (by simp),kh _ _ _ _ _,_,rfl,_,rfl,b,cs.boo,dx,_,_,rfl,ob,clB,naB _ (by simp),gm _ _ _ _ _,_,_,rfl,.inl (SqL.of R.people),_,_,rfl,rfl,Ad.na,_,_,V.ref nd.1,rfl,rfl,SqL.of R.nodes,uP (j:=j) ?_ (by rw [List.getElem?_map,hj];rfl),kq⟩
  show ((B.P+j:Nat):Int)-(((B.people.map fun x=>V.str (mkS x)).length:Nat):Int)=_
  rw [List.length_map]
  have:B.P=B.people.length:=rfl
  omega
end
end Pg
end
section
set_option linter.all false
namespace Sp
open Rb35
theorem d8i {t:Toks}{x:Nat×Toks} (h:field t=.ok x):x.1≤251∧prime x.1=true:=by
 unfold field at h
 split at h
 ·cases h
 ·split at h
  ·rename_i p k r _
   split at h
   ·rename_i hc
    cases e:take_ 59 r with
    | error k=>rw [e] at h;cases h
    | ok u=>
     rw [e] at h
     cases h
     rw [Bool.and_eq_true,decide_eq_true_iff] at hc
     exact hc
   ·cases h
  ·cases h
theorem vj {bs:List Nat}{G:Prog} (h:taken bs=.good G):G.p≤251∧prime G.p=true:=by
 unfold taken at h
 cases q:program (toks bs) with
 | error k=>rw [q] at h;cases h
 | ok P=>
  rw [q] at h
  dsimp only at h
  split at h
  ·cases h
   unfold program at q
   cases f:field (toks bs) with
   | error k=>rw [f] at q;cases q
   | ok x=>
    have hx:=d8i f
    rw [f] at q
    simp only [Except.bind] at q
    split at q
    ·cases q
    ·cases e1:people (x.2.length+1) ⟨[],[]⟩ (x.2.drop 1) with
     | error k=>rw [e1] at q;cases q
     | ok y=>
      rw [e1] at q
      dsimp only at q
      cases e2:take_ 59 y.2 with
      | error k=>rw [e2] at q;cases q
      | ok r=>
       rw [e2] at q
       dsimp only at q
       cases e3:lets (r.length+1) y.1 r with
       | error k=>rw [e3] at q;cases q
       | ok e=>
        rw [e3] at q
        cases q
        exact hx
  ·cases h
theorem gF {p:Nat} (h:prime p=true):2≤p:=by
 unfold prime at h
 rw [Bool.and_eq_true,decide_eq_true_iff] at h
 exact h.1
end Sp
end
section
set_option linter.all false
namespace Sp
open Rb35
def ev (cs:List Int) (x:Int):Int:=cs.foldr (fun c v=>c+x*v) 0
theorem d2Y (x:Int):ev [] x=0:=rfl
theorem ji (c:Int) (cs:List Int) (x:Int):ev (c::cs) x=c+x*ev cs x:=rfl
def addP:List Int→List Int→List Int
 | [],ds=>ds
 | c::cs,[]=>c::cs
 | c::cs,d::ds=>(c+d)::addP cs ds
theorem vG:∀ (cs ds:List Int) (x:Int),ev (addP cs ds) x=ev cs x+ev ds x
 | [],ds,x=>by rw [addP,d2Y,Int.zero_add]
 | c::cs,[],x=>by rw [addP,d2Y,Int.add_zero]
 | c::cs,d::ds,x=>by
  rw [addP,ji,ji,ji,vG cs ds,Int.mul_add]
  omega
theorem uj:∀ (cs ds:List Int),(addP cs ds).length=max cs.length ds.length
 | [],ds=>by simp [addP]
 | c::cs,[]=>by simp [addP]
 | c::cs,d::ds=>by
  rw [addP,List.length_cons,uj cs ds,List.length_cons,List.length_cons]
  omega
def mulC (a:Int) (cs:List Int):List Int:=cs.map fun c=>a*c
theorem vB (a:Int):∀ (cs:List Int) (x:Int),ev (mulC a cs) x=a*ev cs x
 | [],x=>by rw [mulC,List.map_nil,d2Y,Int.mul_zero]
 | c::cs,x=>by
  have h:=vB a cs x
  unfold mulC at h ⊢
  rw [List.map_cons,ji,ji,h,Int.mul_add]
  congr 1
  rw [←Int.mul_assoc,←Int.mul_assoc,Int.mul_comm x a]
def mulX (a:Int) (cs:List Int):List Int:=addP (0::cs) (mulC (-a) cs)
theorem dFH (a:Int) (cs:List Int) (x:Int):ev (mulX a cs) x=(x-a)*ev cs x:=by
 unfold mulX
 rw [vG,ji,vB,Int.sub_mul,Int.neg_mul]
 omega
theorem dCw (a:Int) (cs:List Int):(mulX a cs).length=cs.length+1:=by
 unfold mulX mulC
 rw [uj,List.length_map,List.length_cons]
 omega
def quo (a:Int):List Int→List Int
 | []=>[]
 | _::cs=>addP cs (mulC a (quo a cs))
theorem dAi (a:Int):∀ cs:List Int,(quo a cs).length=cs.length-1
 | []=>rfl
 | c::cs=>by
  rw [quo,uj]
  unfold mulC
  rw [List.length_map,dAi a cs,List.length_cons]
  omega
theorem dBR (a x:Int):∀ cs:List Int,ev cs x-ev cs a=(x-a)*ev (quo a cs) x
 | []=>by rw [quo,d2Y,d2Y,Int.mul_zero];rfl
 | c::cs=>by
  have h:=dBR a x cs
  rw [quo,ji,ji,vG,vB,Int.mul_add,←Int.mul_assoc,Int.mul_comm (x-a) a,Int.mul_assoc,←h,Int.mul_sub,Int.sub_mul]
  omega
theorem d9P {p d:Nat} (h:prime p=true) (h2:2≤d) (hd:d < p):p%d≠0:=by
 unfold prime at h
 rw [Bool.and_eq_true,List.all_eq_true] at h
 have:=h.2 d (List.mem_range.mpr hd)
 rw [Bool.or_eq_true,decide_eq_true_iff] at this
 rcases this with z | z
 ·omega
 ·simpa using z
theorem dBK {p a:Nat} (h:prime p=true) (ha:¬ p∣a):Nat.Coprime p a:=by
 have h2:=gF h
 have g1:Nat.gcd p a∣p:=Nat.gcd_dvd_left p a
 have gp:Nat.gcd p a≠0:=fun z=>by
  have:=Nat.eq_zero_of_gcd_eq_zero_left z
  omega
 have gl:Nat.gcd p a≤p:=Nat.le_of_dvd (by omega) g1
 by_cases g2:Nat.gcd p a=p
 ·exact absurd (by rw [←g2];exact Nat.gcd_dvd_right p a) ha
 ·by_cases g3:Nat.gcd p a=1
  ·exact g3
  ·exact absurd (Nat.mod_eq_zero_of_dvd g1) (d9P h (by omega) (by omega))
theorem vn {p:Nat} (h:prime p=true) {a b:Int} (hab:(p:Int)∣a*b):(p:Int)∣a∨(p:Int)∣b:=by
 have h1:p∣a.natAbs*b.natAbs:=by
  have:=Int.natAbs_dvd_natAbs.mpr hab
  rwa [Int.natAbs_mul,Int.natAbs_natCast] at this
 by_cases ha:p∣a.natAbs
 ·exact .inl (Int.ofNat_dvd_left.mpr ha)
 ·exact .inr (Int.ofNat_dvd_left.mpr ((dBK h ha).dvd_of_dvd_mul_left h1))
theorem dEd {p:Nat} (h:prime p=true):∀ a:Nat,0 < a→a < p→∃ b:Int,(p:Int)∣(a:Int)*b-1:=by
 intro a
 induction a using Nat.strongRecOn with
 | _ a ih=>
  intro h0 hp
  by_cases h1:a=1
  ·subst h1
   exact ⟨1,⟨0,by simp⟩⟩
  ·have hr:p%a≠0:=d9P h (by omega) hp
   obtain ⟨b,k,hk⟩:=ih (p%a) (Nat.mod_lt _ h0) (by omega) (Nat.lt_trans (Nat.mod_lt _ h0) hp)
   have hd:((p:Nat):Int)=(a:Int)*((p / a:Nat):Int)+((p%a:Nat):Int):=by
    have:=Nat.div_add_mod p a
    rw [←Int.natCast_mul,←Int.natCast_add,this]
   refine ⟨-(((p / a:Nat):Int)*b),-b+k,?_⟩
   have e1:(a:Int)*-(((p / a:Nat):Int)*b)=-(((p:Nat):Int)-((p%a:Nat):Int))*b:=by
    have:((p:Nat):Int)-((p%a:Nat):Int)=(a:Int)*((p / a:Nat):Int):=by omega
    rw [this,Int.mul_neg,Int.neg_mul,Int.mul_assoc]
   rw [e1,Int.neg_mul,Int.sub_mul,Int.mul_add,Int.mul_neg]
   omega
theorem d8m {p:Nat} (h:prime p=true) {n:Int} (hn:¬ (p:Int)∣n):∃ f:Nat,1≤f∧f < p∧(n*(f:Int))%(p:Int)=1:=by
 have h2:=gF h
 have hp:(0:Int) < (p:Int):=by omega
 have m0:=Int.emod_nonneg n (by omega:(p:Int)≠0)
 have m1:=Int.emod_lt_of_pos n hp
 have mz:n%(p:Int)≠0:=fun z=>hn (Int.dvd_of_emod_eq_zero z)
 obtain ⟨b,k,hk⟩:=dEd h (n%(p:Int)).toNat (by omega) (by omega)
 rw [Int.toNat_of_nonneg m0] at hk
 have b0:=Int.emod_nonneg b (by omega:(p:Int)≠0)
 have b1:=Int.emod_lt_of_pos b hp
 have key:(n*(b%(p:Int)))%(p:Int)=1:=by
  have e:(n*(b%(p:Int)))%(p:Int)=((n%(p:Int))*b)%(p:Int):=by
   rw [Int.mul_emod n (b%(p:Int)),Int.mul_emod (n%(p:Int)) b,Int.emod_emod,Int.emod_emod]
  have e2:(n%(p:Int))*b=1+(p:Int)*k:=by omega
  rw [e,e2,Int.add_mul_emod_self_left,Int.emod_eq_of_lt (by omega) (by omega)]
 refine ⟨(b%(p:Int)).toNat,?_,by omega,by rw [Int.toNat_of_nonneg b0];exact key⟩
 by_cases z:b%(p:Int)=0
 ·rw [z,Int.mul_zero] at key
  simp at key
 ·omega
theorem dFm {p:Nat} (h:prime p=true):∀ (k:Nat) (cs:List Int) (xs:List Int),cs.length≤k→xs.length=k→xs.Pairwise (fun a b=>¬ (p:Int)∣b-a)→(∀ a∈xs,(p:Int)∣ev cs a)→∀ x,(p:Int)∣ev cs x
 | 0,cs,xs,hl,_,_,_,x=>by
  match cs,hl with
  | [],_=>exact ⟨0,by simp [ev]⟩
 | k+1,cs,[],_,hx,_,_,x=>by simp at hx
 | k+1,cs,a::xs,hl,hx,hd,hr,x=>by
  rw [List.pairwise_cons] at hd
  have ha:=hr a (by simp)
  have hq:=dFm h k (quo a cs) xs (by rw [dAi];omega) (by simpa using hx) hd.2 fun b hb=>by
   have hb':=hr b (by simp [hb])
   have:(p:Int)∣(b-a)*ev (quo a cs) b:=by rw [←dBR];exact Int.dvd_sub hb' ha
   exact (vn h this).resolve_left (hd.1 b hb)
  have h1:(p:Int)∣ev cs x-ev cs a:=by rw [dBR];exact Int.dvd_mul_of_dvd_right (hq x)
  have h2:=Int.dvd_add h1 ha
  rwa [Int.sub_add_cancel] at h2
theorem u0 {p:Nat} (hp:0 < p) (x:Nat):∀ cs:List Nat,((worth p cs x:Nat):Int)=ev (cs.map fun (c:Nat)=>(c:Int)) (x:Int)%(p:Int)
 | []=>by show ((0:Nat):Int)=(0:Int)%_;simp
 | c::cs=>by
  have ih:=u0 hp x cs
  show (((c+x*worth p cs x)%p:Nat):Int)=_
  rw [List.map_cons,ji,Int.natCast_emod,Int.natCast_add,Int.natCast_mul,ih]
  rw [Int.add_emod (c:Int) ((x:Int)*(_%_)),Int.mul_emod (x:Int) (_%_),Int.emod_emod,←Int.mul_emod,←Int.add_emod]
def low (p:Nat) (cs:List Int):List Nat:=cs.map fun c=>(c%(p:Int)).toNat
theorem dFj {p:Nat} (hp:0 < p) (cs:List Int):∀ c∈low p cs,c < p:=fun c hc=>by
 obtain ⟨d,_,rfl⟩:=List.mem_map.mp hc
 have:=Int.emod_nonneg d (by omega:(p:Int)≠0)
 have:=Int.emod_lt_of_pos d (by omega:(0:Int) < (p:Int))
 omega
theorem dFG (p:Nat) (cs:List Int):(low p cs).length=cs.length:=List.length_map _
theorem dDn {p:Nat} (hp:0 < p) (x:Int):∀ cs:List Int,ev ((low p cs).map fun (c:Nat)=>(c:Int)) x%(p:Int)=ev cs x%(p:Int)
 | []=>rfl
 | c::cs=>by
  have ih:=dDn hp x cs
  show ev (((c%(p:Int)).toNat:Int)::(low p cs).map fun (c:Nat)=>(c:Int)) x%_=_
  rw [ji,ji,Int.toNat_of_nonneg (Int.emod_nonneg c (by omega)),Int.add_emod,Int.mul_emod,ih,←Int.mul_emod,Int.emod_emod,←Int.add_emod]
theorem dBa {p:Nat} (hp:0 < p) (x:Nat) (cs:List Int):((worth p (low p cs) x:Nat):Int)=ev cs (x:Int)%(p:Int):=by rw [u0 hp,dDn hp]
theorem wJ {p:Nat} (hp:0 < p) {a b:Int} (h:a%(p:Int)=b%(p:Int)):(p:Int)∣a-b:=Int.dvd_of_emod_eq_zero (by rw [Int.sub_emod,h,Int.sub_self,Int.zero_emod])
theorem d84 {p:Nat}{a b:Int} (h:(p:Int)∣a-b):a%(p:Int)=b%(p:Int):=by
 obtain ⟨k,hk⟩:=h
 have:a=b+(p:Int)*k:=by omega
 rw [this,Int.add_mul_emod_self_left]
theorem d4M {p:Nat} (h:prime p=true) {cs ds:List Nat}{xs:List Nat}{k:Nat} (hc:cs.length≤k) (hd:ds.length≤k) (hk:xs.length=k) (hx:xs.Pairwise (fun (a b:Nat)=>¬ (p:Int)∣(b:Int)-(a:Int)))
  (he:∀ x∈xs,worth p cs x=worth p ds x) (x:Nat):worth p cs x=worth p ds x:=by
 have hp:0 < p:=by have:=gF h;omega
 have hr:=dFm h k (addP (cs.map fun (c:Nat)=>(c:Int)) (mulC (-1) (ds.map fun (c:Nat)=>(c:Int)))) (xs.map fun (x:Nat)=>(x:Int)) (by
  rw [uj];unfold mulC;rw [List.length_map,List.length_map,List.length_map];omega) (by rw [List.length_map];exact hk) (by rw [List.pairwise_map];exact hx) (fun a ha=>by
  obtain ⟨y,hy,rfl⟩:=List.mem_map.mp ha
  have e:((worth p cs y:Nat):Int)=((worth p ds y:Nat):Int):=by rw [he y hy]
  rw [u0 hp,u0 hp] at e
  rw [vG,vB]
  have:=wJ hp e
  have e2:ev (cs.map fun (c:Nat)=>(c:Int)) (y:Int)+-1*ev (ds.map fun (c:Nat)=>(c:Int)) (y:Int)=ev (cs.map fun (c:Nat)=>(c:Int)) (y:Int)-ev (ds.map fun (c:Nat)=>(c:Int)) (y:Int):=by omega
  rw [e2]
  exact this) (x:Int)
 rw [vG,vB] at hr
 have e2:ev (cs.map fun (c:Nat)=>(c:Int)) (x:Int)+-1*ev (ds.map fun (c:Nat)=>(c:Int)) (x:Int)=ev (cs.map fun (c:Nat)=>(c:Int)) (x:Int)-ev (ds.map fun (c:Nat)=>(c:Int)) (x:Int):=by omega
 rw [e2] at hr
 have e3:=d84 hr
 rw [←u0 hp,←u0 hp] at e3
 exact Int.ofNat.inj e3
end Sp
end
section
set_option linter.all false
namespace Sp
open Rb35
def gk (l:List Int):Int:=l.foldr (fun a b=>a*b) 1
theorem dAD (l:List Int) (a:Int):gk (l++[a])=gk l*a:=by
 induction l with
 | nil=>show a*1=1*a;omega
 | cons b l ih=>
  show b*gk (l++[a])=b*gk l*a
  rw [ih,Int.mul_assoc]
theorem wt:∀ {l:List Int},(0:Int)∈l→gk l=0
 | a::l,h=>by
  show a*gk l=0
  rcases List.mem_cons.mp h with h | h
  ·rw [←h,Int.zero_mul]
  ·rw [wt h,Int.mul_zero]
theorem d7A {p:Nat} (h:prime p=true):∀ {l:List Int},(∀ a∈l,¬ (p:Int)∣a)→¬ (p:Int)∣gk l
 | [],_=>fun z=>by
  have h2:=gF h
  have:=Int.le_of_dvd (by decide) z
  have:(p:Int)≤1:=this
  omega
 | a::l,ha=>fun z=>by
  rcases vn h (show (p:Int)∣a*gk l from z) with y | y
  ·exact ha a (by simp) y
  ·exact d7A h (fun b hb=>ha b (by simp [hb])) y
def dBF (l:List Int):List Int:=l.foldr mulX [1]
theorem d9R (x:Int):∀ l:List Int,ev (dBF l) x=gk (l.map fun a=>x-a)
 | []=>by show 1+x*0=1;omega
 | a::l=>by
  show ev (mulX a (dBF l)) x=(x-a)*_
  rw [dFH,d9R x l]
  rfl
theorem d55:∀ l:List Int,(dBF l).length=l.length+1
 | []=>rfl
 | a::l=>by
  show (mulX a (dBF l)).length=_
  rw [dCw,d55 l]
  rfl
def invN (p:Nat) (n:Int):Nat:=((List.range p).find? fun (f:Nat)=>(n*(f:Int))%(p:Int)==1).getD 1
theorem dC5 {p:Nat} (h:prime p=true) {n:Int}{f g:Nat} (hf:f < p) (hg:g < p) (e1:(n*(f:Int))%(p:Int)=1) (e2:(n*(g:Int))%(p:Int)=1):f=g:=by
 have hp:0 < p:=by have:=gF h;omega
 have hd:(p:Int)∣n*((f:Int)-(g:Int)):=by
  rw [Int.mul_sub]
  exact wJ hp (e1.trans e2.symm)
 rcases vn h hd with z | z
 ·have:(n*(f:Int))%(p:Int)=0:=Int.emod_eq_zero_of_dvd (Int.dvd_mul_of_dvd_left z)
  omega
 ·obtain ⟨k,hk⟩:=z
  by_cases k0:f=g
  ·exact k0
  ·have:(p:Int)≤((f:Int)-(g:Int)).natAbs:=by
    have:=Nat.le_of_dvd (by omega:0 < ((f:Int)-(g:Int)).natAbs) (Int.natAbs_dvd_natAbs.mpr ⟨k,hk⟩)
    rw [Int.natAbs_natCast] at this
    omega
   omega
theorem d8E {p:Nat} (h:prime p=true) {n:Int}{f:Nat} (hf:f < p) (e:(n*(f:Int))%(p:Int)=1):invN p n=f:=by
 unfold invN
 cases q:(List.range p).find? fun (f:Nat)=>(n*(f:Int))%(p:Int)==1 with
 | none=>
  have:=List.find?_eq_none.mp q f (List.mem_range.mpr hf)
  simp [e] at this
 | some g=>
  have h1:=List.find?_some q
  have h2:=List.mem_range.mp (List.mem_of_find?_eq_some q)
  exact dC5 h h2 hf (by simpa using h1) e
theorem dCb (p:Nat) (n:Int):invN p (n%(p:Int))=invN p n:=by
 unfold invN
 congr 2
 funext f
 rw [Int.mul_emod,Int.emod_emod,←Int.mul_emod]
def oth (pts:List (Nat×Nat)) (a:Nat):List Int:=(pts.filter fun q=>q.1 != a).map fun q=>(q.1:Int)
def term (p:Nat) (pts:List (Nat×Nat)) (x:Int) (q:Nat×Nat):Int:=
 (q.2:Int)*gk ((oth pts q.1).map fun a=>x-a)*(invN p (gk ((oth pts q.1).map fun a=>(q.1:Int)-a)):Int)
def thrV (p:Nat) (pts:List (Nat×Nat)) (x:Int):Int:=(pts.map (term p pts x)).sum
structure Pts (p:Nat) (pts:List (Nat×Nat)):Prop where
 nd:(pts.map (·.1)).Nodup
 lt:∀ q∈pts,q.1 < p∧q.2 < p
theorem dBU {p a b:Nat} (ha:a < p) (hb:b < p) (h:a≠b):¬ (p:Int)∣(a:Int)-(b:Int):=fun ⟨k,hk⟩=>by
 have:=Nat.le_of_dvd (by omega:0 < ((a:Int)-(b:Int)).natAbs) (Int.natAbs_dvd_natAbs.mpr ⟨k,hk⟩)
 rw [Int.natAbs_natCast] at this
 omega
section
variable {p:Nat}{pts:List (Nat×Nat)}
theorem Pts.below (h:prime p=true) (P:Pts p pts) {q:Nat×Nat} (hq:q∈pts):¬ (p:Int)∣gk ((oth pts q.1).map fun a=>(q.1:Int)-a):=by
 refine d7A h fun a ha=>?_
 obtain ⟨b,hb,rfl⟩:=List.mem_map.mp ha
 obtain ⟨r,hr,rfl⟩:=List.mem_map.mp hb
 obtain ⟨h1,h2⟩:=List.mem_filter.mp hr
 exact dBU (P.lt q hq).1 (P.lt r h1).1 (by simpa using Ne.symm (by simpa using h2))
theorem Pts.inv (h:prime p=true) (P:Pts p pts) {q:Nat×Nat} (hq:q∈pts):(gk ((oth pts q.1).map fun a=>(q.1:Int)-a)*(invN p (gk ((oth pts q.1).map fun a=>(q.1:Int)-a)):Int))%(p:Int)=1:=by
 obtain ⟨f,h1,h2,h3⟩:=d8m h (P.below h hq)
 rw [d8E h h2 h3]
 exact h3
theorem dAQ {q r:Nat×Nat} (hq:q∈pts) (hn:r.1≠q.1):term p pts (q.1:Int) r=0:=by
 unfold term
 have:gk ((oth pts r.1).map fun a=>(q.1:Int)-a)=0:=wt (List.mem_map.mpr ⟨(q.1:Int),List.mem_map.mpr ⟨q,List.mem_filter.mpr ⟨hq,by simpa using Ne.symm hn⟩,rfl⟩,by omega⟩)
 rw [this,Int.mul_zero,Int.zero_mul]
theorem dBQ {α:Type} (f:α→Int) {x:α}:∀ {l:List α},x∈l→l.Pairwise (fun a b=>a≠b)→(∀ y∈l,y≠x→f y=0)→(l.map f).sum=f x
 | a::l,hx,hd,h0=>by
  rw [List.pairwise_cons] at hd
  rw [List.map_cons,List.sum_cons]
  by_cases e:x=a
  ·subst e
   have:∀ m:List α,(∀ y∈m,f y=0)→(m.map f).sum=0:=fun m=>by
    induction m with
    | nil=>intro _;rfl
    | cons b m ih=>intro hm;rw [List.map_cons,List.sum_cons,hm b (by simp),ih fun y hy=>hm y (by simp [hy])];rfl
   rw [this l fun y hy=>h0 y (by simp [hy]) (hd.1 y hy).symm,Int.add_zero]
  ·have hx':x∈l:=by rcases List.mem_cons.mp hx with z | z;exact absurd z e;exact z
   rw [h0 a (by simp) (fun z=>e z.symm),Int.zero_add,dBQ f hx' hd.2 fun y hy=>h0 y (by simp [hy])]
theorem Pts.eq_of (P:Pts p pts) {q r:Nat×Nat} (hq:q∈pts) (hr:r∈pts) (e:q.1=r.1):q=r:=by
 have nd:=P.nd
 clear P
 induction pts with
 | nil=>simp at hq
 | cons a l ih=>
  rw [List.map_cons,List.nodup_cons] at nd
  rcases List.mem_cons.mp hq with y | y <;> rcases List.mem_cons.mp hr with z | z
  ·rw [y,z]
  ·exact absurd (List.mem_map.mpr ⟨r,z,by rw [←e,y]⟩) nd.1
  ·exact absurd (List.mem_map.mpr ⟨q,y,by rw [e,z]⟩) nd.1
  ·exact ih y z nd.2
theorem Pts.pw (P:Pts p pts):pts.Pairwise (fun a b=>a≠b):=by
 have nd:=P.nd
 rw [List.nodup_iff_pairwise_ne,List.pairwise_map] at nd
 exact nd.imp fun h e=>h (by rw [e])
theorem dCN (h:prime p=true) (P:Pts p pts) {q:Nat×Nat} (hq:q∈pts):thrV p pts (q.1:Int)%(p:Int)=(q.2:Int):=by
 unfold thrV
 rw [dBQ _ hq P.pw fun r hr hn=>dAQ hq fun e=>hn (P.eq_of hr hq e)]
 unfold term
 rw [Int.mul_assoc,Int.mul_emod,P.inv h hq,Int.mul_one,Int.emod_emod]
 have:=(P.lt q hq).2
 exact Int.emod_eq_of_lt (by omega) (by omega)
theorem dEG (P:Pts p pts) {q:Nat×Nat} (hq:q∈pts):(oth pts q.1).length+1=pts.length:=by
 unfold oth
 rw [List.length_map]
 have nd:=P.nd
 clear P
 induction pts with
 | nil=>simp at hq
 | cons a l ih=>
  rw [List.map_cons,List.nodup_cons] at nd
  rcases List.mem_cons.mp hq with rfl | hq
  ·have:∀ m:List (Nat×Nat),(∀ r∈m,r.1≠q.1)→m.filter (fun r=>r.1 != q.1)=m:=fun m hm=>List.filter_eq_self.mpr fun r hr=>by simpa using hm r hr
   rw [List.filter_cons_of_neg (by simp),this l fun r hr e=>nd.1 (List.mem_map.mpr ⟨r,hr,e⟩),List.length_cons]
  ·have hne:a.1≠q.1:=fun e=>nd.1 (List.mem_map.mpr ⟨q,hq,e.symm⟩)
   rw [List.filter_cons_of_pos (by simpa using hne),List.length_cons,ih hq nd.2,List.length_cons]
def lagP (p:Nat) (pts:List (Nat×Nat)):List (Nat×Nat)→List Int
 | []=>[]
 | q::l=>addP (mulC ((q.2:Int)*(invN p (gk ((oth pts q.1).map fun a=>(q.1:Int)-a)):Int)) (dBF (oth pts q.1))) (lagP p pts l)
theorem dBu (x:Int):∀ l:List (Nat×Nat),ev (lagP p pts l) x=(l.map (term p pts x)).sum
 | []=>rfl
 | q::l=>by
  rw [lagP,vG,vB,d9R,dBu x l,List.map_cons,List.sum_cons]
  congr 1
  unfold term
  rw [Int.mul_assoc,Int.mul_assoc,Int.mul_comm (invN p _:Int)]
theorem d95 (P:Pts p pts):∀ l:List (Nat×Nat),(∀ q∈l,q∈pts)→(lagP p pts l).length≤pts.length
 | [],_=>Nat.zero_le _
 | q::l,h=>by
  rw [lagP,uj]
  unfold mulC
  rw [List.length_map,d55]
  have:=dEG P (h q (by simp))
  have:=d95 P l fun r hr=>h r (by simp [hr])
  omega
theorem d5C (p:Nat) (n x:Nat):∀ cs:List Nat,worth p (cs++List.replicate n 0) x=worth p cs x
 | []=>by
  rw [List.nil_append]
  induction n with
  | zero=>rfl
  | succ n ih=>
   rw [List.replicate_succ]
   show (0+x*worth p (List.replicate n 0) x)%p=0
   rw [ih]
   show (0+x*0)%p=0
   simp
 | c::cs=>by
  show (c+x*worth p (cs++List.replicate n 0) x)%p=(c+x*worth p cs x)%p
  rw [d5C p n x cs]
theorem d8u (h:prime p=true) (P:Pts p pts) {k:Nat} (hk:pts.length≤k):∃ cs:List Nat,cs.length=k∧(∀ c∈cs,c < p)∧∀ x:Nat,((worth p cs x:Nat):Int)=thrV p pts (x:Int)%(p:Int):=by
 have hp:0 < p:=by have:=gF h;omega
 have hl:=d95 P pts fun q hq=>hq
 refine ⟨low p (lagP p pts pts)++List.replicate (k-(lagP p pts pts).length) 0,?_,fun c hc=>?_,fun x=>?_⟩
 ·rw [List.length_append,dFG,List.length_replicate]
  omega
 ·rcases List.mem_append.mp hc with z | z
  ·exact dFj hp _ c z
  ·rw [List.mem_replicate] at z
   omega
 ·rw [d5C,dBa hp,dBu]
  rfl
theorem d9o (h:prime p=true) (P:Pts p pts) {cs:List Nat} (hc:cs.length≤pts.length) (he:∀ q∈pts,worth p cs q.1=q.2) (x:Nat):((worth p cs x:Nat):Int)=thrV p pts (x:Int)%(p:Int):=by
 obtain ⟨ds,d1,d2,d3⟩:=d8u h P (Nat.le_refl _)
 rw [←d3]
 congr 1
 refine d4M h (xs:=pts.map (·.1)) hc (by omega) (by rw [List.length_map]) ?_ (fun y hy=>?_) x
 ·rw [List.pairwise_map]
  have nd:=P.nd
  rw [List.nodup_iff_pairwise_ne,List.pairwise_map] at nd
  refine nd.imp_of_mem fun {a b} ha hb hn=>dBU (P.lt b hb).1 (P.lt a ha).1 (Ne.symm hn)
 ·obtain ⟨q,hq,rfl⟩:=List.mem_map.mp hy
  have h1:=d3 q.1
  rw [dCN h P hq] at h1
  rw [he q hq]
  omega
end
end Sp
end
section
set_option linter.all false
namespace Sp
open Rb35
def Sv (v:Int) (s:Nat):Prop:=v≠-4∧(v=-6∨v=(s:Int))
instance (v:Int) (s:Nat):Decidable (Sv v s):=by unfold Sv;exact inferInstance
def Vd (p:Nat) (v:Int):Prop:=v=-4∨v=-6∨(0≤v∧v < (p:Int))
def df:List Int→Nat→List (Nat×Nat)
 | [],_=>[]
 | v::l,x=>if v=-6 then df l (x+1) else (x,v.toNat)::df l (x+1)
theorem mem_ptsOf {q:Nat×Nat}:∀ {l:List Int}{x:Nat},q∈df l x↔∃ i v,l[i]?=some v∧v≠-6∧q=(x+i,v.toNat)
 | [],x=>by simp [df]
 | v::l,x=>by
  rw [df]
  have ih:=@mem_ptsOf q l (x+1)
  constructor
  ·intro h
   split at h
   ·obtain ⟨i,u,h1,h2,h3⟩:=ih.mp h
    exact ⟨i+1,u,h1,h2,by rw [h3];congr 1;omega⟩
   ·rename_i hv
    rcases List.mem_cons.mp h with h | h
    ·exact ⟨0,v,rfl,hv,h⟩
    ·obtain ⟨i,u,h1,h2,h3⟩:=ih.mp h
     exact ⟨i+1,u,h1,h2,by rw [h3];congr 1;omega⟩
  ·rintro ⟨i,u,h1,h2,h3⟩
   cases i with
   | zero=>
    cases h1
    rw [if_neg h2,h3]
    exact List.mem_cons_self ..
   | succ i=>
    have:q∈df l (x+1):=ih.mpr ⟨i,u,h1,h2,by rw [h3];congr 1;omega⟩
    split
    ·exact this
    ·exact List.mem_cons_of_mem _ this
theorem d96 {l:List Int}{x:Nat}{q:Nat×Nat} (h:q∈df l x):x≤q.1:=by
 obtain ⟨i,v,_,_,rfl⟩:=mem_ptsOf.mp h
 exact Nat.le_add_right _ _
theorem yp:∀ (l:List Int) (x:Nat),((df l x).map (·.1)).Nodup
 | [],x=>by simp [df]
 | v::l,x=>by
  rw [df]
  split
  ·exact yp l (x+1)
  ·rw [List.map_cons,List.nodup_cons]
   refine ⟨fun h=>?_,yp l (x+1)⟩
   obtain ⟨q,hq,e⟩:=List.mem_map.mp h
   have:=d96 hq
   omega
theorem d9F {p:Nat}{l:List Int} (hl:l.length < p) (hv:∀ v∈l,Vd p v) (hn:¬ (-4:Int)∈l):Pts p (df l 1):=by
 refine ⟨yp l 1,fun q hq=>?_⟩
 obtain ⟨i,v,h1,h2,rfl⟩:=mem_ptsOf.mp hq
 have hi:=(List.getElem?_eq_some_iff.mp h1).1
 have hm:=List.mem_of_getElem? h1
 refine ⟨by show 1+i < p;omega,?_⟩
 show v.toNat < p
 rcases hv v hm with z | z | z
 ·rw [z] at hm;exact absurd hm hn
 ·exact absurd z h2
 ·omega
theorem Pts.take {p:Nat}{pts:List (Nat×Nat)} (P:Pts p pts) (k:Nat):Pts p (pts.take k):=
 ⟨by rw [List.map_take];exact P.nd.sublist (List.take_sublist _ _),fun q hq=>P.lt q (List.mem_of_mem_take hq)⟩
def jx (p k:Nat) (vals:List Int):Int:=if (-4:Int)∈vals then -4 else if (df vals 1).length < k then -6
 else if ((df vals 1).drop k).any (fun q=>!decide (thrV p ((df vals 1).take k) (q.1:Int)%(p:Int)=(q.2:Int)))=true then -4
 else thrV p ((df vals 1).take k) 0%(p:Int)
theorem vN {p:Nat}{c:Nat}{cs:List Nat} (h:c < p):worth p (c::cs) 0=c:=by
 show (c+0*worth p cs 0)%p=c
 rw [Nat.zero_mul,Nat.add_zero,Nat.mod_eq_of_lt h]
section
variable {p k:Nat}{vals:List Int}
theorem d9E (hp:0 < p):Vd p (jx p k vals):=by
 unfold jx
 split
 ·exact .inl rfl
 ·split
  ·exact .inr (.inl rfl)
  ·split
   ·exact .inl rfl
   ·exact .inr (.inr ⟨Int.emod_nonneg _ (by omega),Int.emod_lt_of_pos _ (by omega)⟩)
theorem dDD (h:prime p=true) (hk:1≤k) (hl:vals.length < p) (hv:∀ v∈vals,Vd p v) {s:Nat} (hs:s < p) :
  (∃ c:List Nat,c.length=k-1∧(∀ y∈c,y < p)∧∀ i v,vals[i]?=some v→Sv v (worth p (s::c) (1+i)))↔Sv (jx p k vals) s:=by
 have hp:0 < p:=by have:=gF h;omega
 unfold jx
 by_cases h4:(-4:Int)∈vals
 ·rw [if_pos h4]
  constructor
  ·rintro ⟨c,_,_,h1⟩
   obtain ⟨i,hi,e⟩:=List.mem_iff_getElem.mp h4
   exact absurd rfl (h1 i (-4) (by rw [List.getElem?_eq_getElem hi,e])).1
  ·exact fun z=>absurd rfl z.1
 rw [if_neg h4]
 have P:=d9F hl hv h4
 have A:∀ cs:List Nat,(∀ i v,vals[i]?=some v→Sv v (worth p cs (1+i)))↔∀ q∈df vals 1,worth p cs q.1=q.2:=fun cs=>by
  constructor
  ·intro h1 q hq
   obtain ⟨i,v,g1,g2,rfl⟩:=mem_ptsOf.mp hq
   rcases (h1 i v g1).2 with z | z
   ·exact absurd z g2
   ·show worth p cs (1+i)=v.toNat
    omega
  ·intro h1 i v g1
   have hm:=List.mem_of_getElem? g1
   refine ⟨fun z=>h4 (z▸hm),?_⟩
   by_cases g2:v=-6
   ·exact .inl g2
   ·have:=h1 _ (mem_ptsOf.mpr ⟨i,v,g1,g2,rfl⟩)
    have this:worth p cs (1+i)=v.toNat:=this
    rcases hv v hm with z | z | z
    ·exact absurd (z▸hm) h4
    ·exact .inl z
    ·exact .inr (by omega)
 by_cases hlt:(df vals 1).length < k
 ·rw [if_pos hlt]
  refine ⟨fun _=>⟨by decide,.inl rfl⟩,fun _=>?_⟩
  have P0:Pts p ((0,s)::df vals 1):=by
   refine ⟨?_,fun q hq=>?_⟩
   ·rw [List.map_cons,List.nodup_cons]
    refine ⟨fun z=>?_,P.nd⟩
    obtain ⟨q,hq,e⟩:=List.mem_map.mp z
    have:=d96 hq
    have e:q.1=0:=e
    omega
   ·rcases List.mem_cons.mp hq with rfl | hq
    ·exact ⟨hp,hs⟩
    ·exact P.lt q hq
  obtain ⟨cs,c1,c2,c3⟩:=d8u h P0 (k:=k) (by rw [List.length_cons];omega)
  have at_:∀ q∈(0,s)::df vals 1,worth p cs q.1=q.2:=fun q hq=>by
   have:=c3 q.1
   rw [dCN h P0 hq] at this
   omega
  match cs,c1,c2,at_ with
  | [],c1,_,_=>simp at c1;omega
  | c0::c,c1,c2,at_=>
   have e0:=at_ (0,s) (by simp)
   have e0:worth p (c0::c) 0=s:=e0
   rw [vN (c2 c0 (by simp))] at e0
   subst e0
   exact ⟨c,by rw [List.length_cons] at c1;omega,fun y hy=>c2 y (by simp [hy]),(A _).mpr fun q hq=>at_ q (by simp [hq])⟩
 rw [if_neg hlt]
 have P1:=P.take k
 have hk1:((df vals 1).take k).length=k:=by rw [List.length_take];omega
 constructor
 ·rintro ⟨c,c1,c2,c3⟩
  rw [A] at c3
  have hu:=d9o h P1 (cs:=s::c) (by rw [hk1,List.length_cons];omega) (fun q hq=>c3 q (List.mem_of_mem_take hq))
  have hno:¬ ((df vals 1).drop k).any (fun q=>!decide (thrV p ((df vals 1).take k) (q.1:Int)%(p:Int)=(q.2:Int)))=true:=fun z=>by
   obtain ⟨q,hq,hq2⟩:=List.any_eq_true.mp z
   have h1:=hu q.1
   rw [c3 q (List.mem_of_mem_drop hq)] at h1
   rw [←h1] at hq2
   simp at hq2
  rw [if_neg hno]
  have h0:=hu 0
  rw [vN hs] at h0
  have h0:(s:Int)=thrV p ((df vals 1).take k) 0%(p:Int):=h0
  rw [←h0]
  exact ⟨by omega,.inr rfl⟩
 ·intro z
  by_cases hno:((df vals 1).drop k).any (fun q=>!decide (thrV p ((df vals 1).take k) (q.1:Int)%(p:Int)=(q.2:Int)))=true
  ·rw [if_pos hno] at z
   exact absurd rfl z.1
  rw [if_neg hno] at z
  have v0:=Int.emod_nonneg (thrV p ((df vals 1).take k) 0) (by omega:(p:Int)≠0)
  have e:thrV p ((df vals 1).take k) 0%(p:Int)=(s:Int):=by
   rcases z.2 with y | y
   ·omega
   ·exact y
  obtain ⟨cs,c1,c2,c3⟩:=d8u h P1 (k:=k) (by omega)
  have c0:worth p cs 0=s:=by
   have:=c3 0
   have this:((worth p cs 0:Nat):Int)=thrV p ((df vals 1).take k) 0%(p:Int):=this
   omega
  have at_:∀ q∈df vals 1,worth p cs q.1=q.2:=fun q hq=>by
   have h1:=c3 q.1
   rw [←List.take_append_drop k (df vals 1)] at hq
   rcases List.mem_append.mp hq with y | y
   ·rw [dCN h P1 y] at h1
    omega
   ·have:thrV p ((df vals 1).take k) (q.1:Int)%(p:Int)=(q.2:Int):=by
     by_cases e2:thrV p ((df vals 1).take k) (q.1:Int)%(p:Int)=(q.2:Int)
     ·exact e2
     ·exact absurd (List.any_eq_true.mpr ⟨q,y,by simp [e2]⟩) hno
    omega
  match cs,c1,c2,c0,at_ with
  | [],c1,_,_,_=>simp at c1;omega
  | d::c,c1,c2,c0,at_=>
   rw [vN (c2 d (by simp))] at c0
   subst c0
   exact ⟨c,by rw [List.length_cons] at c1;omega,fun y hy=>c2 y (by simp [hy]),(A _).mpr at_⟩
end
mutual
def fnd (p:Nat):Form→List Int→Int
 | .one _,h=>h.headD (-6)
 | .some_ k l,h=>jx p k (k9 p l h)
def k9 (p:Nat):Forms→List Int→List Int
 | .nil,_=>[]
 | .cons f l,h=>fnd p f (h.take (leaves f).length)::k9 p l (h.drop (leaves f).length)
end
def agr:List Int→List Nat→Prop
 | [],[]=>True
 | h::hs,v::vs=>(h=-6∨h=(v:Int))∧agr hs vs
 | _,_=>False
theorem yL:∀ {h1 h2:List Int}{v1 v2:List Nat},h1.length=v1.length→(agr (h1++h2) (v1++v2)↔agr h1 v1∧agr h2 v2)
 | [],h2,[],v2,_=>by simp [agr]
 | [],h2,v::v1,v2,e=>by simp at e
 | h::h1,h2,[],v2,e=>by simp at e
 | h::h1,h2,v::v1,v2,e=>by
  have ih:=@yL h1 h2 v1 v2 (by simpa using e)
  show (_∧agr (h1++h2) (v1++v2))↔(_∧agr h1 v1)∧agr h2 v2
  rw [ih,and_assoc]
mutual
theorem d9V (p:Nat):∀ (f:Form) (s:Nat) (r:List Nat),(deal p f s r).length=(leaves f).length
 | .one _,s,r=>rfl
 | .some_ k l,s,r=>by rw [deal,leaves];exact d93 p l _ _ _
theorem d93 (p:Nat):∀ (l:Forms) (cs:List Nat) (x:Nat) (r:List Nat),(dealIn p l cs x r).length=(leavesIn l).length
 | .nil,cs,x,r=>rfl
 | .cons f l,cs,x,r=>by rw [dealIn,leavesIn,List.length_append,List.length_append,d9V p f,d93 p l]
end
def Hd (p:Nat) (h:Int):Prop:=h=-6∨(0≤h∧h < (p:Int))
mutual
theorem dB8 {p:Nat} (hP:prime p=true):∀ (f:Form) (held:List Int),sound p f=true→held.length=(leaves f).length→(∀ h∈held,Hd p h)→Vd p (fnd p f held)∧∀ s,s < p→((∃ r:List Nat,r.length=needs f∧(∀ c∈r,c < p)∧agr held (deal p f s r))↔Sv (fnd p f held) s)
 | .one i,held,_,hl,hh=>by
  match held,hl with
  | [h],_=>
   have h1:=hh h (by simp)
   refine ⟨?_,fun s hs=>?_⟩
   ·show Vd p h
    rcases h1 with z | z
    ·exact .inr (.inl z)
    ·exact .inr (.inr z)
   ·show _↔Sv h s
    constructor
    ·rintro ⟨r,_,_,hr⟩
     have hr:(h=-6∨h=(s:Int))∧True:=hr
     refine ⟨?_,hr.1⟩
     rcases h1 with z | z <;> omega
    ·intro z
     exact ⟨[],rfl,fun c hc=>by simp at hc,z.2,trivial⟩
 | .some_ k l,held,hs0,hl,hh=>by
  rw [sound,Bool.and_eq_true,Bool.and_eq_true,Bool.and_eq_true,decide_eq_true_iff,decide_eq_true_iff,decide_eq_true_iff] at hs0
  obtain ⟨k1,k2,k3,k4⟩:=hs0
  have hp:0 < p:=by have:=gF hP;omega
  obtain ⟨i1,i2,i3⟩:=d9J hP l held k4 hl hh
  refine ⟨d9E hp,fun s hs=>?_⟩
  show _↔Sv (jx p k (k9 p l held)) s
  rw [←dDD hP k1 (by omega) i1 hs]
  constructor
  ·rintro ⟨r,r1,r2,r3⟩
   rw [needs] at r1
   rw [deal] at r3
   refine ⟨r.take (k-1),by rw [List.length_take];omega,fun y hy=>r2 y (List.mem_of_mem_take hy),(i3 _ 1).mp ⟨r.drop (k-1),by rw [List.length_drop];omega,fun y hy=>r2 y (List.mem_of_mem_drop hy),r3⟩⟩
  ·rintro ⟨c,c1,c2,c3⟩
   obtain ⟨r,r1,r2,r3⟩:=(i3 _ 1).mpr c3
   refine ⟨c++r,by rw [List.length_append,needs];omega,fun y hy=>?_,?_⟩
   ·rcases List.mem_append.mp hy with z | z
    ·exact c2 y z
    ·exact r2 y z
   ·rw [deal,List.take_append_of_le_length (by omega),List.take_of_length_le (by omega),List.drop_append_of_le_length (by omega),List.drop_of_length_le (by omega),List.nil_append]
    exact r3
theorem d9J {p:Nat} (hP:prime p=true):∀ (l:Forms) (held:List Int),soundIn p l=true→held.length=(leavesIn l).length→(∀ h∈held,Hd p h)→(∀ v∈k9 p l held,Vd p v)∧(k9 p l held).length=countOf l ∧
  ∀ (cs:List Nat) (x:Nat),((∃ r:List Nat,r.length=needsIn l∧(∀ c∈r,c < p)∧agr held (dealIn p l cs x r))↔∀ i v,(k9 p l held)[i]?=some v→Sv v (worth p cs (x+i)))
 | .nil,held,_,hl,hh=>by
  match held,hl with
  | [],_=>
   refine ⟨fun v hv=>by simp [k9] at hv,rfl,fun cs x=>⟨fun _ i v hv=>by simp [k9] at hv,fun _=>⟨[],rfl,fun c hc=>by simp at hc,trivial⟩⟩⟩
 | .cons f l,held,hs0,hl,hh=>by
  rw [soundIn,Bool.and_eq_true] at hs0
  rw [leavesIn,List.length_append] at hl
  have hp:0 < p:=by have:=gF hP;omega
  obtain ⟨a1,a2⟩:=dB8 hP f (held.take (leaves f).length) hs0.1 (by rw [List.length_take];omega) fun h hm=>hh h (List.mem_of_mem_take hm)
  obtain ⟨b1,b2,b3⟩:=d9J hP l (held.drop (leaves f).length) hs0.2 (by rw [List.length_drop];omega) fun h hm=>hh h (List.mem_of_mem_drop hm)
  have wl:∀ (cs:List Nat) (x:Nat),worth p cs x < p:=fun cs x=>by
   cases cs with
   | nil=>exact hp
   | cons c cs=>exact Nat.mod_lt _ hp
  rw [k9]
  refine ⟨fun v hv=>?_,by rw [List.length_cons,b2];rfl,fun cs x=>?_⟩
  ·rcases List.mem_cons.mp hv with rfl | hv
   ·exact a1
   ·exact b1 v hv
  ·have hsp:held=held.take (leaves f).length++held.drop (leaves f).length:=(List.take_append_drop _ _).symm
   have key:∀ r:List Nat,agr held (dealIn p (.cons f l) cs x r)↔agr (held.take (leaves f).length) (deal p f (worth p cs x) (r.take (needs f)))∧agr (held.drop (leaves f).length) (dealIn p l cs (x+1) (r.drop (needs f))):=fun r=>by
    rw [dealIn]
    conv=>lhs;rw [hsp]
    exact yL (by rw [d9V,List.length_take];omega)
   constructor
   ·rintro ⟨r,r1,r2,r3⟩ i v hv
    rw [needsIn] at r1
    rw [key] at r3
    cases i with
    | zero=>
     cases hv
     exact (a2 _ (wl cs x)).mp ⟨r.take (needs f),by rw [List.length_take];omega,fun y hy=>r2 y (List.mem_of_mem_take hy),r3.1⟩
    | succ i=>
     have:=(b3 cs (x+1)).mp ⟨r.drop (needs f),by rw [List.length_drop];omega,fun y hy=>r2 y (List.mem_of_mem_drop hy),r3.2⟩ i v hv
     have e:x+(i+1)=x+1+i:=by omega
     rw [e]
     exact this
   ·intro z
    obtain ⟨r,r1,r2,r3⟩:=(a2 _ (wl cs x)).mpr (z 0 _ rfl)
    obtain ⟨u,u1,u2,u3⟩:=(b3 cs (x+1)).mpr fun i v hv=>by
     have:=z (i+1) v hv
     have e:x+(i+1)=x+1+i:=by omega
     rw [e] at this
     exact this
    refine ⟨r++u,by rw [List.length_append,needsIn];omega,fun y hy=>?_,(key _).mpr ?_⟩
    ·rcases List.mem_append.mp hy with z | z
     ·exact r2 y z
     ·exact u2 y z
    ·have e1:(r++u).take (needs f)=r:=by rw [List.take_append_of_le_length (by omega),List.take_of_length_le (by omega)]
     have e2:(r++u).drop (needs f)=u:=by rw [List.drop_append_of_le_length (by omega),List.drop_of_length_le (by omega),List.nil_append]
     rw [e1,e2]
     exact ⟨r3,u3⟩
end
def gu (m:Nat):List Nat→List Nat→List Int
 | [],_=>[]
 | o::os,w=>if m.testBit o=true then ((w.headD 0:Nat):Int)::gu m os w.tail else -6::gu m os w
def g0 (m:Nat) (os:List Nat):List Nat:=os.filter fun o=>m.testBit o
def d8h (m:Nat) (os v:List Nat):List Nat:=(os.zip v).filterMap fun (x:Nat×Nat)=>if m.testBit x.1=true then some x.2 else none
theorem vX (m:Nat):∀ (os v w:List Nat),os.length=v.length→w.length=(g0 m os).length→(d8h m os v=w↔agr (gu m os w) v)
 | [],[],w,_,hw=>by
  have:w=[]:=List.eq_nil_of_length_eq_zero hw
  subst this
  simp [d8h,gu,agr]
 | [],b::v,w,hv,_=>by simp at hv
 | o::os,[],w,hv,_=>by simp at hv
 | o::os,b::v,w,hv,hw=>by
  have hv':os.length=v.length:=by simpa using hv
  unfold d8h g0 at *
  by_cases hb:m.testBit o=true
  ·rw [List.filter_cons_of_pos hb,List.length_cons] at hw
   match w,hw with
   | a::w,hw=>
    have ih:=vX m os v w hv' (Nat.succ.inj hw)
    rw [gu,if_pos hb,List.zip_cons_cons,List.filterMap_cons]
    simp only [if_pos hb]
    show b::d8h m os v=a::w↔(((a:Nat):Int)=-6∨((a:Nat):Int)=(b:Int))∧agr (gu m os w) v
    rw [←ih,List.cons.injEq]
    constructor
    ·rintro ⟨e1,e2⟩;exact ⟨.inr (by omega),e2⟩
    ·rintro ⟨e1,e2⟩;exact ⟨by omega,e2⟩
  ·rw [List.filter_cons_of_neg hb] at hw
   have ih:=vX m os v w hv' hw
   rw [gu,if_neg hb,List.zip_cons_cons,List.filterMap_cons]
   simp only [if_neg hb]
   show d8h m os v=w↔((-6:Int)=-6∨(-6:Int)=(b:Int))∧agr (gu m os w) v
   rw [←ih]
   exact ⟨fun z=>⟨.inl rfl,z⟩,fun z=>z.2⟩
theorem ud (m:Nat):∀ (os w:List Nat),(gu m os w).length=os.length
 | [],w=>rfl
 | o::os,w=>by
  rw [gu]
  split <;> rw [List.length_cons,ud m os,List.length_cons]
theorem uy (m p:Nat):∀ (os w:List Nat),w.length=(g0 m os).length→(∀ c∈w,c < p)→∀ h∈gu m os w,Hd p h
 | [],w,_,_=>fun h hh=>by simp [gu] at hh
 | o::os,w,hw,hc=>fun h hh=>by
  unfold g0 at hw
  rw [gu] at hh
  by_cases hb:m.testBit o=true
  ·rw [List.filter_cons_of_pos hb,List.length_cons] at hw
   rw [if_pos hb] at hh
   match w,hw,hc,hh with
   | a::w,hw,hc,hh=>
    rcases List.mem_cons.mp hh with rfl | hh
    ·have:=hc a (by simp)
     exact .inr ⟨by show (0:Int)≤(a:Int);omega,by show (a:Int) < (p:Int);omega⟩
    ·exact uy m p os w (Nat.succ.inj hw) (fun c z=>hc c (by simp [z])) h hh
  ·rw [List.filter_cons_of_neg hb] at hw
   rw [if_neg hb] at hh
   rcases List.mem_cons.mp hh with rfl | hh
   ·exact .inl rfl
   ·exact uy m p os w hw hc h hh
theorem kS (p:Nat):∀ (n:Nat) (r:List Nat),r∈choices p n↔r.length=n∧∀ c∈r,c < p
 | 0,r=>by
  show r∈[[]]↔_
  rw [List.mem_singleton]
  constructor
  ·rintro rfl;exact ⟨rfl,fun c hc=>by simp at hc⟩
  ·exact fun h=>List.eq_nil_of_length_eq_zero h.1
 | n+1,r=>by
  rw [choices,List.mem_flatMap]
  constructor
  ·rintro ⟨c,hc,h⟩
   obtain ⟨l,hl,rfl⟩:=List.mem_map.mp h
   obtain ⟨h1,h2⟩:=(kS p n l).mp hl
   refine ⟨by rw [List.length_cons,h1],fun d hd=>?_⟩
   rcases List.mem_cons.mp hd with rfl | hd
   ·exact List.mem_range.mp hc
   ·exact h2 d hd
  ·rintro ⟨h1,h2⟩
   match r,h1,h2 with
   | c::l,h1,h2=>exact ⟨c,List.mem_range.mpr (h2 c (by simp)),List.mem_map.mpr ⟨l,(kS p n l).mpr ⟨by simpa using h1,fun d hd=>h2 d (by simp [hd])⟩,rfl⟩⟩
theorem d9v {a:Nat}:∀ {p:Nat},p≤a→(List.range p).filter (fun s=>s==a)=[]
 | p,h=>List.filter_eq_nil_iff.mpr fun s hs=>by
  have:=List.mem_range.mp hs
  simp
  omega
theorem d2x {a:Nat}:∀ {p:Nat},a < p→(List.range p).filter (fun s=>s==a)=[a]
 | p+1,h=>by
  rw [List.range_succ,List.filter_append]
  by_cases e:a=p
  ·subst e
   rw [d9v (Nat.le_refl _)]
   simp
  ·rw [d2x (by omega:a < p),List.filter_cons_of_neg (by simp;omega)]
   rfl
section
variable {p:Nat} (hP:prime p=true) {f:Form} (hs:sound p f=true) {m:Nat}{w:List Nat} (hw:w.length=(g0 m (leaves f)).length) (hc:∀ c∈w,c < p)
include hP hs hw hc
theorem d8k (s:Nat):s∈secrets p f m w↔s < p∧Sv (fnd p f (gu m (leaves f) w)) s:=by
 unfold secrets
 rw [List.mem_filter,List.mem_range,List.any_eq_true]
 refine and_congr_right fun h=>?_
 rw [←(dB8 hP f (gu m (leaves f) w) hs (ud _ _ _) (uy m p _ _ hw hc)).2 s h]
 constructor
 ·rintro ⟨r,hr,e⟩
  obtain ⟨r1,r2⟩:=(kS p _ r).mp hr
  exact ⟨r,r1,r2,(vX m (leaves f) _ w (d9V p f s r).symm hw).mp (beq_iff_eq.mp e)⟩
 ·rintro ⟨r,r1,r2,r3⟩
  exact ⟨r,(kS p _ r).mpr ⟨r1,r2⟩,beq_iff_eq.mpr ((vX m (leaves f) _ w (d9V p f s r).symm hw).mpr r3)⟩
theorem dA6:secrets p f m w=(List.range p).filter fun s=>decide (Sv (fnd p f (gu m (leaves f) w)) s):=by
 unfold secrets
 refine List.filter_congr fun s hs'=>?_
 have h:=d8k hP hs hw hc s
 unfold secrets at h
 rw [List.mem_filter] at h
 rw [Bool.eq_iff_iff,decide_eq_true_iff]
 have h2:=List.mem_range.mp hs'
 exact ⟨fun z=>(h.mp ⟨hs',z⟩).2,fun z=>(h.mpr ⟨h2,z⟩).2⟩
theorem d3W:secretOf (secrets p f m w) (-4)=fnd p f (gu m (leaves f) w):=by
 have h2:=gF hP
 have hv:=(dB8 hP f (gu m (leaves f) w) hs (ud _ _ _) (uy m p _ _ hw hc)).1
 rw [dA6 hP hs hw hc]
 generalize fnd p f (gu m (leaves f) w)=v at hv
 rcases hv with rfl | rfl | ⟨h0,h1⟩
 ·have:(List.range p).filter (fun s=>decide (Sv (-4) s))=[]:=List.filter_eq_nil_iff.mpr fun s _=>by
   rw [decide_eq_true_iff];exact fun z=>z.1 rfl
  rw [this]
  rfl
 ·have:(List.range p).filter (fun s=>decide (Sv (-6) s))=List.range p:=List.filter_eq_self.mpr fun s _=>by
   rw [decide_eq_true_iff];exact ⟨by decide,.inl rfl⟩
  rw [this]
  match p,h2 with
  | q+2,_=>
   rw [List.range_succ_eq_map,List.range_succ_eq_map]
   rfl
 ·have:(List.range p).filter (fun s=>decide (Sv v s))=[v.toNat]:=by
   have e:∀ s,s∈List.range p→(decide (Sv v s)=(s==v.toNat)):=fun s _=>by
    rw [Bool.eq_iff_iff,decide_eq_true_iff,beq_iff_eq]
    unfold Sv
    omega
   rw [List.filter_congr e]
   exact d2x (by omega)
  rw [this]
  show ((v.toNat:Nat):Int)=v
  omega
end
end Sp
end
section
set_option linter.all false
set_option maxRecDepth 100000
set_option maxHeartbeats 4000000
namespace Xc
open PySem PySem.Spec PyProof.Rows L2
open AutoSeq1 (wpAny_loadPart')
theorem dBY (l:Addr) (items:Array Value) (n:Nat) (dct:Option Addr) (sl:Array (Option Value)) (t:PySem.Tok) :
  Meets (Builtin.«enumerate.__new__» ⟨[.type "enumerate",.ref l],[("start",.int 1 t)]⟩) (fun _ R s=>s.heap.get? l=some { cls:=.type "list",dict:=dct,data:=.seq items n,slots:=sl } ∧
   R (.ok (.ret (.ref (s.heap.objs.size+1)))) { s with heap:=(s.heap.push { cls:=.type "list_iterator",data:=.fields #[.ref l,.int 0 0] }).push { cls:=.type "enumerate",data:=.fields #[.none,.bool false,.ref s.heap.objs.size,rawInt 1,.none,.none] } }):=
 .of_wp fun prog w A R s h=>by
  obtain ⟨hp,g,d,tk,os⟩:=s
  obtain ⟨hl,h⟩:=h
  have hz:(hp.push { cls:=.type "list_iterator",data:=.fields #[.ref l,.int 0 0] }).objs.size=hp.objs.size+1:=Heap.size_push ..
  have hsub:=sub_enumerate
  have fin:∀ {S:Shared},R (.ok (.ret (.ref (hp.objs.size+1)))) S→R (.ok (.ret (.ref (hp.push { cls:=.type "list_iterator",data:=.fields #[.ref l,.int 0 0] }).objs.size))) S:=fun z=>by rw [hz];exact z
  have hL:Heap.IsList (Shared.heap ⟨hp,g,d,tk,os⟩) l items:=⟨_,hl,rfl,n,rfl⟩
  wp_walk using wpAny_loadPart' hl
  refine wpAny_stack_any fun st=>wpAny_pure ?_
  split
  ·rename_i c _ _ _ _ _
   cases (c==Value.type "enumerate")
   ·wp_walk using wpAny_loadPart' hl,wpAny_pyIter_list hL
    exact ⟨_,rfl,fin h⟩
   ·wp_walk using wpAny_loadPart' hl,wpAny_pyIter_list hL
    exact ⟨_,rfl,fin h⟩
  ·wp_walk using wpAny_loadPart' hl,wpAny_pyIter_list hL
   exact ⟨_,rfl,fin h⟩
theorem dAY {self:Value}{rest:List Value}{kw:List (Str×Value)}:Meets (Builtin.«object.__init__» ⟨self::rest,kw⟩) (fun _ R s=>s.TypeIs self "enumerate"∧R (.ok (.ret .none)) s):=by
 have hl:=(F.called_enumerate).init.lookup
 have hm:=(F.called_enumerate).made
 have hne:(some "enumerate.__new__" != some "object.__new__")=true:=by decide
 refine Meets.of_wp fun prog w A R s ⟨hT,hq⟩=>?_
 cases hb:(!rest.isEmpty||!kw.isEmpty) with
 | false=>
  unfold Builtin.«object.__init__»
  simp only [hb]
  exact wpAny_pure ⟨_,rfl,hq⟩
 | true=>
  unfold Builtin.«object.__init__»
  simp only [hb]
  repeat (any_goals (first | assumption | wp_step))
  exact ⟨_,rfl,hq⟩
section
variable {prog:Program}{w:World}{A:Around}{E:Value→Shared→Prop}{s:Shared}
theorem d9q {l:Addr}{items:Array Value}{t:PySem.Tok}{Q:Value→Shared→Prop} (hL:s.heap.IsList l items)
  (h:∀ h',IsEnum h' (s.heap.objs.size+1) s.heap.objs.size 1 .none→h'.IsListIter s.heap.objs.size l 0→(∀ b o,s.heap.get? b=some o→h'.get? b=some o)→Q (.ref (s.heap.objs.size+1)) { s with heap:=h' }) :
  wpAny (model prog w) A (call (.type "enumerate") [.ref l] [("start",.int 1 t)]) Q E s:=by
 obtain ⟨⟨c,dct,dt,sl⟩,hl,hc,n,hd⟩:=hL
 obtain rfl:c=.type "list":=hc
 obtain rfl:dt=.seq items n:=hd
 have ft:=F.called_enumerate
 obtain ⟨c0,tl,hmro⟩:=ft.mro
 have hmade:=ft.made;have hsub:=ft.sub;have h1:=ft.notType;have h2:=ft.canCreate
 have hct:checkTypeCall "enumerate" ⟨[.ref l],[("start",.int 1 t)]⟩=pure ():=by kernel_rfl
 have hcn:checkBuiltinCall "enumerate.__new__" ⟨[.type "enumerate",.ref l],[("start",.int 1 t)]⟩=pure ():=by kernel_rfl
 refine wpAny_call (codeAny_of_tree (show wpAny _ _ (callAny (.type "enumerate") _) _ _ _ from wpAny_pure ⟨Code.quiet_builtin _ (by decide +kernel),codeAny_builtin F.entry_type_call ?_⟩))
 rw [Around.under_plain (weight_type_call_type "enumerate" [.ref l] [("start",.int 1 t)]) (units_type_call_type "enumerate" [.ref l] [("start",.int 1 t)])]
 repeat (any_goals (first | assumption | wp_step))
 have hz:(s.heap.push { cls:=.type "list_iterator",data:=.fields #[.ref l,.int 0 0] }).objs.size=s.heap.objs.size+1:=Heap.size_push ..
 have he:IsEnum ((s.heap.push { cls:=.type "list_iterator",data:=.fields #[.ref l,.int 0 0] }).push { cls:=.type "enumerate",data:=.fields #[.none,.bool false,.ref s.heap.objs.size,rawInt 1,.none,.none] }) (s.heap.objs.size+1) s.heap.objs.size 1 .none:=by
  rw [←hz];exact Heap.get?_push_size _ rfl
 have hq:=h _ he ⟨_,Heap.get?_push_of_some _ (Heap.get?_push_size _ rfl),rfl,rfl⟩ fun b o x=>Heap.get?_push_of_some _ (Heap.get?_push_of_some _ x)
 have hok:argsOk "object.__init__" ⟨[.ref (s.heap.objs.size+1),.ref l],[("start",.int 1 t)]⟩:=by
  unfold argsOk;rw [signature?_of (id:="object.__init__") (n:=['_','_','t','i','n','i','_','_']) (o:=['t','c','e','j','b','o']) (by kernel_rfl) F.owner_object];kernel_rfl
 generalize hS:({ s with heap:=(s.heap.push { cls:=.type "list_iterator",data:=.fields #[.ref l,.int 0 0] }).push { cls:=.type "enumerate",data:=.fields #[.none,.bool false,.ref s.heap.objs.size,rawInt 1,.none,.none] } }:Shared)=S1 at hq
 have hT:S1.TypeIs (.ref (s.heap.objs.size+1)) "enumerate":=by rw [←hS];exact ⟨_,he,rfl⟩
 refine codeAny_mono (codeAny_call_builtin ft.plain F.entry_enumerate_new (wpAny_of_eq hcn (dBY l items n dct sl t prog w A.in1 (wants (fun v s'=>v=.ref (s.heap.objs.size+1)∧s'=S1) E) s ⟨hl,rfl,hS⟩))) fun r s1 hr=>?_
 match r,hr with
 | .error e,hr=>exact hr
 | .ok .next,hr=>exact hr.elim
 | .ok .brk,hr=>exact hr.elim
 | .ok .cont,hr=>exact hr.elim
 | .ok (.ret obj),hr=>
  obtain ⟨rfl,rfl⟩:=hr
  have hli:=ft.init.lookup;have hbi:=ft.init.bind (.ref (s.heap.objs.size+1))
  repeat (any_goals (first | assumption | wp_step))
  refine codeAny_mono (codeAny_call_builtin ft.init.plain F.entry_object_init (ft.init.check _ _ _ _ _ _ _ _ hT hok (dAY prog w A.in1 (wants (fun v s'=>v=.none∧Q (.ref (s.heap.objs.size+1)) s') E) _ ⟨hT,rfl,hq⟩))) fun r2 s2 hr2=>?_
  match r2,hr2 with
  | .error e,hr2=>exact hr2
  | .ok .next,hr2=>exact hr2.elim
  | .ok .brk,hr2=>exact hr2.elim
  | .ok .cont,hr2=>exact hr2.elim
  | .ok (.ret r),hr2=>
   obtain ⟨rfl,hq2⟩:=hr2
   repeat (any_goals (first | assumption | wp_step))
end
theorem dFg {prog:Program}{w:World}{A:Around}{it l:Addr}{items:Array Value} (hh:A.handled=none):Draws prog w A it [it,l] (items.size+1) (fun j v=>items[j-1]?=some v) (fun j h=>1≤j∧h.IsListIter it l (j-1)∧h.IsList l items) where
 live:=fun j h st=>let ⟨_,⟨o,ho,_⟩,_⟩:=st;⟨o,ho⟩
 frame:=fun j h h' st k=>let ⟨j1,⟨o,ho,r⟩,⟨o',ho',r'⟩⟩:=st;⟨j1,⟨o,k it (by simp) o ho,r⟩,⟨o',k l (by simp) o' ho',r'⟩⟩
 item:=fun j s Q E hj st hQ=>by
  obtain ⟨j1,hit,hl⟩:=st
  have hx:items[j-1]?=some (items[j-1]'(by omega)):=Array.getElem?_eq_getElem _
  have hne:l≠it:=fun z=>by
   obtain ⟨o,ho,hc,_⟩:=hit
   obtain ⟨o',ho',hc',_⟩:=hl
   rw [z,ho] at ho'
   cases ho'
   rw [hc] at hc'
   injection hc' with z2
   exact absurd z2 (by decide)
  refine wpAny_nextOf_list_item hit hl hx fun h' hit' sb=>hQ _ h' s.toks hx ⟨by omega,?_,?_⟩ sb
  ·have e:j+1-1=j-1+1:=by omega
   rw [e];exact hit'
  ·obtain ⟨o',ho',r'⟩:=hl
   exact ⟨o',(sb.2 l hne).trans ho',r'⟩
 done:=fun s Q E st hE=>by
  obtain ⟨j1,hit,hl⟩:=st
  exact wpAny_nextOf_list_end hh hit hl (by simp) hE
theorem dAA {prog:Program}{w:World}{A:Around}{it l:Addr}{items:Array Value}{i:Nat} (hh:A.handled=none) (hx:items[i]?=none):Draws prog w A it [it,l] (i+1) (fun _ _=>False) (fun j h=>j=i+1∧h.IsListIter it l i∧h.IsList l items) where
 live:=fun j h st=>let ⟨_,⟨o,ho,_⟩,_⟩:=st;⟨o,ho⟩
 frame:=fun j h h' st k=>let ⟨j1,⟨o,ho,r⟩,⟨o',ho',r'⟩⟩:=st;⟨j1,⟨o,k it (by simp) o ho,r⟩,⟨o',k l (by simp) o' ho',r'⟩⟩
 item:=fun j s Q E hj st hQ=>absurd st.1 (by omega)
 done:=fun s Q E st hE=>wpAny_nextOf_list_end hh st.2.1 st.2.2 hx hE
def Ite1 (K:PySem.W.Frag) (a:Addr):It:=
 ⟨fun i H=>∃ (xs:List V) (x:V),SqL K H a xs∧xs[i]?=some x,fun i H v H'=>∃ T x,v=.ref T∧H T=none∧H'=upd H T (.tup [.int ((i+1:Nat):Int),x])∧∀ xs,SqL K H a xs→xs[i]?=some x,fun i H=>∃ xs:List V,SqL K H a xs∧xs.length≤i⟩
theorem dAH {P:Program}{w:World}{K:PySem.W.Frag}{elts:List Expr}{kk:Nat}{tpos:Pos} (a e it:Addr) :
  Turn P w K (.Tuple elts kk tpos) (Ite1 K a) [e,it] e (fun i h=>(∃ old,IsEnum h e it ((i+1:Nat):Int) old)∧h.IsListIter it a i∧e≠it) where
 mem:=by simp
 obj:=fun i h st b hb=>by
  obtain ⟨⟨old,he⟩,⟨o,ho,hc,hd⟩,_⟩:=st
  have e':b=e∨b=it:=by simpa using hb
  rcases e' with z | z
  ·rw [z];exact ⟨_,he,fun v q=>nomatch q⟩
  ·rw [z];exact ⟨o,ho,fun v q=>by rw [hd] at q;cases q⟩
 keep:=fun i h h' st k=>let ⟨⟨old,he⟩,hi,hne⟩:=st;⟨⟨old,k e (by simp) _ he⟩,hi.at fun o q=>k it (by simp) o q,hne⟩
 item:=by
  intro X hP hw hK hc i pins s σ H E I hf st hg
  subst hP hw hK
  obtain ⟨⟨old,he⟩,hit,hne⟩:=st
  obtain ⟨xs,x,hq,hx⟩:=hg
  obtain ⟨its,rv,p,hz⟩:=I.list hq
  obtain ⟨u,hu,ru⟩:=rv.get hx
  have hel:e < s.heap.objs.size:=Heap.lt_size he
  have hil:it < s.heap.objs.size:=by obtain ⟨_,q,_⟩:=hit;exact Heap.lt_size q
  have hul:=(List.getElem?_eq_some_iff.mp hu).1
  have hea:e≠a:=fun z=>by
   obtain ⟨o',ho',hc',_⟩:=p.isList
   rw [←z,he] at ho'
   cases ho'
   injection hc' with z2
   exact absurd z2 (by decide)
  refine wpAny_pyNext_enum_itemD (i:=i+1) (n:=its.toArray.size+1) (dFg (A:=X.A.in1) (items:=its.toArray) (I.ok.hd hc)) he ⟨by omega,hit,p.isList⟩ (by simp;omega) hne (by simp;exact ⟨hne,hea⟩) fun y h' tk hy ho hst hT hsz hk=>?_
  have ey:y=u:=by
   have hy':its.toArray[i]?=some y:=hy
   have:its[i]?=some y:=by simpa using hy'
   rw [hu] at this
   cases this
   rfl
  subst ey
  refine ⟨_,rfl,wpAny_letOwnedTupleGo_enum (s:={ s with heap:=h',toks:=tk+1 }) ho fun h'' he' sb=>?_⟩
  have hT2:h''.get? s.heap.objs.size=some { cls:=.type "tuple",data:=.seq #[.int ((i+1:Nat):Int) tk,y] }:=(sb.2 _ (Nat.ne_of_gt hel)).trans hT
  have new:ObjOk X.prog X.w (upd H s.heap.objs.size (.tup [.int ((i+1:Nat):Int),x])) h'' s.heap.objs.size (.tup [.int ((i+1:Nat):Int),x]):=
   ⟨by show 2≤sizeLine;decide,[.int ((i+1:Nat):Int) tk,y],.cons ⟨_,rfl⟩ (.cons ru .nil),⟨_,hT2,rfl,_,rfl⟩⟩
  have I1:Inv X pins σ (upd H s.heap.objs.size (.tup [.int ((i+1:Nat):Int),x])) { s with heap:=h'',toks:=tk+1 }:=
   I.turnedNew (ch:=[e,it]) (fun b ob hb q=>(sb.2 b (fun z=>hb (by simp [z]))).trans (hk b ob (fun z=>hb (by simp [z])) (fun z=>hb (by simp [z])) q)) hf (Nat.le_refl _) new
  refine ⟨.ref s.heap.objs.size,_,I1,rfl,⟨_,x,rfl,I.hok.fresh (Nat.le_refl _),rfl,fun ys hy=>by rw [I.list_inj hy hq];exact hx⟩,⟨⟨y,?_⟩,hst.2.1.at fun o q=>(sb.2 it (Ne.symm hne)).trans q,hne⟩,fun b hb=>?_⟩
  ·have e1:((i+1+1:Nat):Int)=((i+1:Nat):Int)+1:=by omega
   rw [e1];exact he'
  ·have hb':b < s.heap.objs.size:=by
    have e':b=e∨b=it:=by simpa using hb
    rcases e' with z | z
    ·rw [z];exact hel
    ·rw [z];exact hil
   rw [d8 (Nat.ne_of_lt hb')]
   exact (hf b hb).1
 done:=by
  intro X hP hw hK hc i pins s σ H E I hf st hg
  subst hP hw hK
  obtain ⟨⟨old,he⟩,hit,hne⟩:=st
  obtain ⟨xs,hq,hx⟩:=hg
  obtain ⟨its,rv,p,hz⟩:=I.list hq
  obtain ⟨f0,f1,f2,f3,f4,f5⟩:=hf it (by simp)
  have hl:=rv.length
  exact wpAny_pyNext_enum_endD (dAA (A:=X.A.in1) (items:=its.toArray) (i:=i) (I.ok.hd hc) (by simp;omega)) he ⟨rfl,hit,p.isList⟩ fun h' eb=>⟨rfl,I.turned (t':=s.toks) (fun b o hb q=>eb b o hb q) f0 f1 f3 f4 f5⟩
 self:=fun A i s Q E st h=>let ⟨⟨_,he⟩,_⟩:=st;wpAny_pyIter_enum he h
def dFs (K:PySem.W.Frag) (ta:TA):TI:=fun σ H R=>ta σ H fun vs H1=>∃ a xs,vs=[.ref a]∧SqL K H1 a xs∧R (Ite1 K a) H1
theorem wT {M:Model}{A:Around}{E:Value→Shared→Prop}{s:Shared}{env:Env}{pos:Pos}{T:String}{e:Expr}{kws:List Keyword}{Q:Value→Shared→Prop}
  (h:wpAny M A (spliced (backTo pos (starEach [e] env))) (fun vs s1=>wpAny M A (evalAll ((backToKw pos (keywordEach kws env)).map (·.2))) (fun kvs s2=>wpAny M A (call (.type T) vs (((backToKw pos (keywordEach kws env)).filterMap (·.1)).zip kvs)) Q E s2) E s1) E s)
  (he:backTo pos (starEach [e] env)=[(false,eval e env)]:=by rfl) (ha:(backToKw pos (keywordEach kws env)).all (·.1.isSome)=true:=by rfl) (hk:(backToKw pos (keywordEach kws env)).any (·.1.isNone)=false:=by rfl) :
  wpAny M A (callWith pos (.type T) [] (backTo pos (starEach [e] env)) (backToKw pos (keywordEach kws env))) Q E s:=by
 rw [he] at h ⊢
 unfold callWith
 refine wpAny_bind (wpAny_holding (wpAny_mono (evalArgs_kwB (Q:=fun a s1=>wpAny M A (call (.type T) a.pos a.kw) Q E s1) ha h) (fun a s1 h1=>wpAny_bind (wpAny_standAt ?_)) fun _ _ x=>x))
 simp only [hk,Bool.or_false,List.any_cons,List.any_nil,Bool.false_eq_true,if_false]
 refine wpAny_bind (wpAny_pure (wpAny_bind (wpAny_mono h1 (fun r s2 hr=>wpAny_bind (wpAny_holding (wpAny_point (wpAny_pure hr)))) fun _ _ x=>x)))
theorem dDV {X:Cx}{e:Expr}{ta:TA}{p pos tpos kp kp2:Pos}{elts:List Expr}{kk j:Nat} (hg:Gl X "enumerate") (hm:X.mg "enumerate"=none) (ha:PA X [e] ta) (hb:backTo pos (starEach [e] X.env)=[(false,eval e X.env)]:=by rfl) :
  PI X (.Tuple elts kk tpos) (.Call (.Name "enumerate" p) [e] [⟨some "start",.Constant (.int 1) j kp,kp2⟩] pos) (dFs X.K ta):=by
 intro pins s σ H R I h
 refine wpAny_Call_Name_kw (d9Z I hg hm boot_enumerate (wT (thn (ha pos pins s σ H _ I h) fun us s1 ⟨vs,H1,I1,r1,q1⟩=>?_) hb))
 obtain ⟨a,xs,ex,hq,q⟩:=q1
 subst ex
 cases r1 with
 | cons r rr=>
  cases rr
  cases r
  refine kws_cons (wpAny_Constant_int (kws_nil ?_))
  have I0:Inv X pins σ H1 { s1 with toks:=s1.toks+1 }:=I1.tok _
  obtain ⟨its,rv,p',hz⟩:=I0.list hq
  refine d9q (s:={ s1 with toks:=s1.toks+1 }) p'.isList fun h' he hit hk=>wpAny_pyIter_enum he ?_
  have I2:Inv X pins σ H1 { s1 with heap:=h',toks:=s1.toks+1 }:=I1.kept (t':=s1.toks+1) hk
  refine ⟨s1.heap.objs.size+1,[s1.heap.objs.size+1,s1.heap.objs.size],_,_,H1,rfl,I2,dAH a (s1.heap.objs.size+1) s1.heap.objs.size,⟨⟨.none,he⟩,hit,Nat.succ_ne_self _⟩,fun b hb=>?_,q⟩
  have e':b=s1.heap.objs.size+1∨b=s1.heap.objs.size:=by simpa using hb
  have hle:s1.heap.objs.size≤b:=by
   rcases e' with z | z
   ·rw [z];exact Nat.le_add_right _ _
   ·rw [z];exact Nat.le_refl _
  exact I1.fpOk hle (I1.hok.fresh hle)
end Xc
end
section
set_option linter.all false
set_option maxRecDepth 100000
set_option maxHeartbeats 4000000
namespace Pg
open PySem PySem.Spec PyProof.Rows L2 Xc Sp
def zV (l:List Int):List V:=l.map V.int
theorem gT (l:List Int):(zV l).length=l.length:=List.length_map _
def dE7:Sp:=fun vs H Q _=>∃ (n:Addr) (l:List Int) (p:Nat),vs=[.ref n,.int (p:Int)]∧H n=some (.lst (zV l))∧2≤p∧p≤1000∧Q (.int (gk l%(p:Int))) H
def dFp:Sp:=fun vs H Q _=>∃ (n:Int) (p:Nat),vs=[.int n,.int (p:Int)]∧Rb35.prime p=true∧p≤1000∧0≤n∧n < (p:Int)∧¬ (p:Int)∣n∧Q (.int (invN p n:Int)) H
section
variable {P:Program}{w:World}{K:PySem.W.Frag}{mg:Str→Option Value}{base:Heap}{cs:Cs}
theorem sc_prod:FnScope ["numbers","prime","result","number"] ["numbers","prime"] (dB st_product):=⟨rfl,rfl,rfl,by decide +kernel,rfl,by decide +kernel,by decide +kernel⟩
theorem dFJ (T:FunT K mg "product" st_product):DefOk P w K mg base 1 "product" ["numbers","prime"] dE7:=by
 obtain ⟨f,fd,F,hm⟩:=T.ex
 refine ⟨f,fd,hm,F.kp,F.binds (fun _ _ _ _ _ _ us hl=>match us,hl with | [_,_],_=>rfl),okN F sc_prod (fun vs H Q E h=>?_) (fun cdv A outer s H vs Q E hr h=>?_)⟩
 ·obtain ⟨n,l,p,rfl,_⟩:=h
  rfl
 ·obtain ⟨n,l,p,rfl,hn,hp,hp2,kq⟩:=h
  refine ⟨_,dA (dX (i:=2) sc_prod.nd rfl (Or.inl rfl) dS) (dA (yK PassesOwn.never rfl (gR (pv 0)) (du (i:=3) sc_prod.nd rfl (Or.inl rfl))
   (dE (dX (i:=2) sc_prod.nd rfl (Or.inl rfl) (jT d94 (jT d9L (pv 2) (pv 3)) (pv 1))))) (dE (dZ (pv 2)))),?_⟩
  refine ⟨_,rfl,n,rfl,⟨_,SqL.of hn⟩,?_⟩
  refine ue (xs:=zV l) (fun i σ H'=>(∃ y,σ=[some (.ref n),some (.int (p:Int)),some (.int (gk (l.take i)%(p:Int))),y])∧H'=H) ⟨⟨none,?_⟩,rfl⟩ ?_ ?_ ?_
  ·rw [List.take_zero]
   have:gk []%(p:Int)=1:=Int.emod_eq_of_lt (by decide) (show (1:Int) < (p:Int) by omega)
   rw [this]
   rfl
  ·rintro i σ H' _ ⟨_,rfl⟩
   exact SqL.of hn
  ·rintro i y σ H' hy ⟨⟨z,rfl⟩,rfl⟩
   unfold zV at hy
   rw [List.getElem?_map] at hy
   cases hk:l[i]? with
   | none=>rw [hk] at hy;cases hy
   | some a=>
    rw [hk] at hy
    cases hy
    have m0:=Int.emod_nonneg (gk (l.take i)) (by omega:(p:Int)≠0)
    have m1:=Int.emod_lt_of_pos (gk (l.take i)) (by omega:(0:Int) < (p:Int))
    refine ⟨_,rfl,_,rfl,_,_,rfl,rfl,.inl ⟨by omega,by omega⟩,_,rfl,_,_,rfl,rfl,by omega,⟨some (V.int a),?_⟩,rfl⟩
    rw [List.take_succ,hk,Option.toList_some,dAD,Int.mul_emod (gk (l.take i)) a]
    show _=[_,_,some (V.int _),_]
    rw [←Int.emod_emod (gk (l.take i)),←Int.mul_emod,Int.emod_emod]
    rfl
  ·rintro σ H' ⟨⟨z,rfl⟩,rfl⟩
   rw [gT,List.take_length]
   exact ⟨_,rfl,kq⟩
theorem sc_inv:FnScope ["number","prime","found"] ["number","prime"] (dB st_inverse):=⟨rfl,rfl,rfl,by decide +kernel,rfl,by decide +kernel,by decide +kernel⟩
theorem dGA (T:FunT K mg "inverse" st_inverse):DefOk P w K mg base 1 "inverse" ["number","prime"] dFp:=by
 obtain ⟨f,fd,F,hm⟩:=T.ex
 refine ⟨f,fd,hm,F.kp,F.binds (fun _ _ _ _ _ _ us hl=>match us,hl with | [_,_],_=>rfl),okN F sc_inv (fun vs H Q E h=>?_) (fun cdv A outer s H vs Q E hr h=>?_)⟩
 ·obtain ⟨n,p,rfl,_⟩:=h
  rfl
 ·obtain ⟨n,p,rfl,hp,hp2,n0,n1,hnd,kq⟩:=h
  have hp3:=gF hp
  obtain ⟨t,t1,t2,t3⟩:=d8m hp hnd
  rw [d8E hp t2 t3] at kq
  refine ⟨_,dA (dX (i:=2) sc_inv.nd rfl (Or.inl rfl) dS) (dA (jS PassesOwn.never (dQ d5B (jT d94 (jT d9L (pv 0) (pv 2)) (pv 1)) dS (dW _))
   (dE (d9B (i:=2) sc_inv.nd rfl (Or.inl rfl) dS d9d))) (dE (dZ (pv 2)))),?_⟩
  refine ⟨fun m σ H'=>∃ f:Nat,σ=[some (.int n),some (.int (p:Int)),some (.int (f:Int))]∧1≤f∧f≤t∧m=t-f∧H'=H,⟨_,1,rfl,Nat.le_refl _,t1,rfl,rfl⟩,?_⟩
  rintro m σ H' ⟨f,rfl,f1,f2,rfl,rfl⟩
  refine ⟨_,rfl,_,rfl,_,_,rfl,rfl,.inl ⟨by omega,by omega⟩,_,rfl,_,_,rfl,rfl,by omega,rfl,_,rfl,ite2 (fun hc=>?_) fun hc=>?_⟩
  ·rw [jj] at hc
   have h1:¬ (n*(f:Int))%(p:Int)=1:=by simpa using hc
   have h2:f≠t:=fun z=>h1 (by rw [z];exact t3)
   refine ⟨fun σ' H2=>∃ m',m' < t-f∧∃ f:Nat,σ'=[some (.int n),some (.int (p:Int)),some (.int (f:Int))]∧1≤f∧f≤t∧m'=t-f∧H2=H',fun _ _ z=>z,?_⟩
   refine ⟨_,rfl,_,_,rfl,rfl,t-(f+1),by omega,f+1,?_,by omega,by omega,rfl,rfl⟩
   show _=[_,_,some (V.int ((f+1:Nat):Int))]
   rw [Int.natCast_add]
   rfl
  ·rw [jj] at hc
   have h1:(n*(f:Int))%(p:Int)=1:=by simpa using hc
   have h2:f=t:=dC5 hp (by omega) t2 h1 t3
   subst h2
   exact ⟨_,rfl,kq⟩
end
def PtAt (H:Hp) (as:List Addr) (pts:List (Nat×Nat)):Prop:=as.length=pts.length∧∀ (i:Nat) (a:Addr) (q:Nat×Nat),as[i]?=some a→pts[i]?=some q→H a=some (.tup [.int (q.1:Int),.int (q.2:Int)])
theorem PtAt.same {H H':Hp}{as:List Addr}{pts:List (Nat×Nat)} (h:PtAt H as pts) (s:Same H H'):PtAt H' as pts:=⟨h.1,fun i a q e e'=>s _ _ (h.2 i a q e e')⟩
theorem PtAt.take {H:Hp}{as:List Addr}{pts:List (Nat×Nat)} (h:PtAt H as pts) (k:Nat):PtAt H (as.take k) (pts.take k):=⟨by rw [List.length_take,List.length_take,h.1],fun i a q e e'=>by
 have hi:i < k:=by
  have:=(List.getElem?_eq_some_iff.mp e).1
  rw [List.length_take] at this
  omega
 rw [List.getElem?_take_of_lt hi] at e e'
 exact h.2 i a q e e'⟩
theorem PtAt.drop {H:Hp}{as:List Addr}{pts:List (Nat×Nat)} (h:PtAt H as pts) (k:Nat):PtAt H (as.drop k) (pts.drop k):=⟨by rw [List.length_drop,List.length_drop,h.1],fun i a q e e'=>by
 rw [List.getElem?_drop] at e e'
 exact h.2 _ a q e e'⟩
theorem PtAt.snoc {H:Hp}{as:List Addr}{pts:List (Nat×Nat)} (h:PtAt H as pts) {a:Addr}{q:Nat×Nat} (ha:H a=some (.tup [.int (q.1:Int),.int (q.2:Int)])):PtAt H (as++[a]) (pts++[q]):=by
 refine ⟨by rw [List.length_append,List.length_append,h.1];rfl,fun i b r e e'=>?_⟩
 by_cases hi:i < as.length
 ·rw [List.getElem?_append_left hi] at e
  rw [List.getElem?_append_left (by rw [←h.1];exact hi)] at e'
  exact h.2 i b r e e'
 ·rw [List.getElem?_append_right (by omega)] at e
  rw [List.getElem?_append_right (by rw [←h.1];omega),←h.1] at e'
  cases hj:i-as.length with
  | zero=>
   rw [hj] at e e'
   cases e
   cases e'
   exact ha
  | succ n=>rw [hj] at e;simp at e
theorem PtAt.get {H:Hp}{as:List Addr}{pts:List (Nat×Nat)} (h:PtAt H as pts) {i:Nat}{a:Addr} (e:as[i]?=some a):∃ q,pts[i]?=some q∧H a=some (.tup [.int (q.1:Int),.int (q.2:Int)]):=by
 have hi:=(List.getElem?_eq_some_iff.mp e).1
 have hi':i < pts.length:=by rw [←h.1];exact hi
 exact ⟨pts[i],List.getElem?_eq_getElem hi',h.2 i a _ e (List.getElem?_eq_getElem hi')⟩
end Pg
end
section
set_option linter.all false
set_option maxRecDepth 100000
set_option maxHeartbeats 4000000
namespace Pg
open PySem PySem.Spec PyProof.Rows L2 Xc Sp
theorem dBp {X:Cx}{K:PySem.W.Frag} (hK:X.K=K):IxR X (rIxT K):=hK▸dFb
theorem dCz (S h A v m:Int):(S%m+h*(A%m)*v)%m=(S+h*A*v)%m:=by
 have hS:S=m*(S / m)+S%m:=(Int.mul_ediv_add_emod S m).symm
 have hA:A=m*(A / m)+A%m:=(Int.mul_ediv_add_emod A m).symm
 have e:S+h*A*v=(S%m+h*(A%m)*v)+m*(S / m+h*(A / m)*v):=by
  have e1:h*A*v=m*(h*(A / m)*v)+h*(A%m)*v:=by
   conv=>lhs;rw [hA]
   rw [Int.mul_add,Int.add_mul,Int.mul_left_comm,Int.mul_assoc m]
  rw [e1,Int.mul_add]
  omega
 rw [e,Int.add_mul_emod_self_left]
def dG7:Sp:=fun vs H Q _=>∃ (pl:Addr) (as:List Addr) (pts:List (Nat×Nat)) (x:Int) (p:Nat),vs=[.ref pl,.int x,.int (p:Int)]∧H pl=some (.lst (as.map V.ref))∧PtAt H as pts∧Pts p pts∧Rb35.prime p=true∧p≤1000∧as.length≤600∧∀ H',Same H H'→Q (.int (thrV p pts x%(p:Int))) H'
section
variable {P:Program}{w:World}{K:PySem.W.Frag}{mg:Str→Option Value}{base:Heap}{cs:Cs}
theorem sc_thr:FnScope ["points","x","prime","value","place","height","others","above","below","point","other"] ["points","x","prime"] (dB st_value_through):=⟨rfl,rfl,rfl,by decide +kernel,rfl,by decide +kernel,by decide +kernel⟩
theorem dFe (T:FunT K mg "value_through" st_value_through) (PR:DefOk P w K mg base 1 "product" ["numbers","prime"] dE7) (IV:DefOk P w K mg base 1 "inverse" ["number","prime"] dFp):DefOk P w K mg base 2 "value_through" ["points","x","prime"] dG7:=by
 obtain ⟨f,fd,F,hm⟩:=T.ex
 refine ⟨f,fd,hm,F.kp,F.binds (fun _ _ _ _ _ _ us hl=>match us,hl with | [_,_,_],_=>rfl),okN F sc_thr (fun vs H Q E h=>?_) (fun cdv A outer s H vs Q E hr h=>?_)⟩
 ·obtain ⟨pl,as,pts,x,p,rfl,_⟩:=h
  rfl
 ·obtain ⟨pl,as,pts,x,p,rfl,hpl,hat,hP,hp,hp2,hz,kq⟩:=h
  have hp3:=gF hp
  have hpp:(p:Int)≠0:=by omega
  have hp0:(0:Int) < (p:Int):=by omega
  refine ⟨_,dA (dX (i:=3) sc_thr.nd rfl (Or.inl rfl) dS)
   (dA (yK PassesOwn.never rfl (gR (pv 0)) (dDz rfl (uB (du (i:=4) sc_thr.nd rfl (Or.inr rfl)) (uB (du (i:=5) sc_thr.nd rfl (Or.inl rfl)) d8B)))
    (dA (yR (i:=6) rfl sc_thr.nd rfl rfl (d83 rfl rfl rfl (by decide +kernel)) (gR (pv 0)) (gJ (own:=[("point",9)]) (by show blkC ["points","x","prime","value","place","height","others","above","below","point","other"] (dB st_value_through) _ [("point",9)]=true;decide +kernel))
     (fun _ _ _ _ _=>du (i:=9) sc_thr.nd rfl (Or.inl rfl)) (fun _ _ _ _ _=>yz (dQ d5B (je (dBp (K:=K) rfl) (pv 9) dS (fun _ _=>rfl)) (pv 4) (dW _))) (fun _ _ _ _ _=>je (dBp (K:=K) rfl) (pv 9) dS (fun _ _=>rfl)))
    (dA (dX (i:=7) sc_thr.nd rfl (Or.inl rfl) (dj PR hr rfl dG (d0 (vU rfl sc_thr.nd (gR (pv 6)) (gJ (own:=[("other",10)]) (by show blkC ["points","x","prime","value","place","height","others","above","below","point","other"] (dB st_value_through) _ [("other",10)]=true;decide +kernel))
     (fun _ _ _ _ _=>du (i:=10) sc_thr.nd rfl (Or.inl rfl)) (fun _ _ _ _ _=>jh) (fun _ _ _ _ _=>jT wq (pv 1) (pv 10))) (d0 (pv 2) dD))))
    (dA (dX (i:=8) sc_thr.nd rfl (Or.inl rfl) (dj PR hr rfl dG (d0 (vU rfl sc_thr.nd (gR (pv 6)) (gJ (own:=[("other",10)]) (by show blkC ["points","x","prime","value","place","height","others","above","below","point","other"] (dB st_value_through) _ [("other",10)]=true;decide +kernel))
     (fun _ _ _ _ _=>du (i:=10) sc_thr.nd rfl (Or.inl rfl)) (fun _ _ _ _ _=>jh) (fun _ _ _ _ _=>jT wq (pv 4) (pv 10))) (d0 (pv 2) dD))))
    (dE (dX (i:=3) sc_thr.nd rfl (Or.inl rfl) (jT d94 (jT dBw (pv 3) (jT d9L (jT d9L (pv 5) (pv 7)) (dj IV hr rfl dG (d0 (pv 8) (d0 (pv 2) dD))))) (pv 2))))))))
   (dE (dZ (pv 3)))),?_⟩
  refine ⟨_,rfl,pl,rfl,⟨_,SqL.of hpl⟩,?_⟩
  refine ue (xs:=as.map V.ref) (fun i σ H'=>(∃ y4 y5 y6 y7 y8 y9 y10,σ=[some (.ref pl),some (.int x),some (.int (p:Int)),some (.int (((pts.take i).map (term p pts x)).sum%(p:Int))),y4,y5,y6,y7,y8,y9,y10])∧Same H H') ⟨⟨none,none,none,none,none,none,none,?_⟩,Same.refl _⟩ ?_ ?_ ?_
  ·rw [List.take_zero]
   have:(([]:List (Nat×Nat)).map (term p pts x)).sum%(p:Int)=0:=Int.zero_emod _
   rw [this]
   rfl
  ·rintro i σ H' _ ⟨_,s1⟩
   exact SqL.of (s1 _ _ hpl)
  ·rintro i y σ H' hy ⟨⟨y4,y5,y6,y7,y8,y9,y10,rfl⟩,s1⟩
   rw [List.getElem?_map] at hy
   cases hk:as[i]? with
   | none=>rw [hk] at hy;cases hy
   | some a=>
    rw [hk] at hy
    cases hy
    obtain ⟨q,hq,ha⟩:=hat.get hk
    have hqm:=List.mem_of_getElem? hq
    have hlt:=hP.lt q hqm
    refine ⟨a,_,rfl,SqT.of (s1 _ _ ha),rfl,_,_,rfl,_,_,rfl,rfl,?_⟩
    refine ⟨_,rfl,pl,rfl,⟨_,SqL.of (s1 _ _ hpl)⟩,fun D1 hD1=>?_⟩
    refine jN (xs:=as.map V.ref) (fun j H2=>H2=upd H' D1 (.lst (zV (((pts.take j).filter fun r=>r.1 != q.1).map fun r=>(r.1:Int))))) rfl ?_ ?_ ?_
    ·rintro j H2 _ rfl
     exact SqL.of (by rw [d8 (dC (s1 _ _ hpl) hD1)];exact s1 _ _ hpl)
    ·rintro j u H2 hu rfl
     rw [List.getElem?_map] at hu
     cases hk2:as[j]? with
     | none=>rw [hk2] at hu;cases hu
     | some b=>
      rw [hk2] at hu
      cases hu
      obtain ⟨r,hr2,hb⟩:=hat.get hk2
      have hj:=(List.getElem?_eq_some_iff.mp hk2).1
      have hb2:(upd H' D1 (.lst (zV (((pts.take j).filter fun r=>r.1 != q.1).map fun r=>(r.1:Int))))) b=some (.tup [.int (r.1:Int),.int (r.2:Int)]):=by rw [d8 (dC (s1 _ _ hb) hD1)];exact s1 _ _ hb
      refine ⟨rfl,_,rfl,b,_,0,_,rfl,rfl,SqT.of hb2,uP (j:=0) rfl rfl,_,rfl,rfl,_,rfl,ite2 (fun hc=>?_) fun hc=>?_⟩
      ·rw [jj] at hc
       have hne:r.1≠q.1:=fun z=>by simp [z] at hc
       refine ⟨_,rfl,b,_,0,_,rfl,rfl,SqT.of hb2,uP (j:=0) rfl rfl,_,d9,?_,?_⟩
       ·rw [gT,List.length_map]
        refine Nat.lt_of_le_of_lt (List.length_filter_le _ _) ?_
        rw [List.length_take]
        exact Nat.lt_of_le_of_lt (Nat.min_le_left _ _) (Nat.lt_of_lt_of_le hj (Nat.le_trans hz (by decide)))
       ·rw [jL,List.take_succ,hr2,Option.toList_some,List.filter_append,List.filter_cons_of_pos (by simpa using hne),List.map_append]
        unfold zV
        rw [List.map_append]
        rfl
      ·rw [jj] at hc
       have he:r.1=q.1:=by
        have:((r.1:Nat):Int)=((q.1:Nat):Int):=by simpa using hc
        omega
       show _=_
       rw [List.take_succ,hr2,Option.toList_some,List.filter_append,List.filter_cons_of_neg (by simp [he])]
       simp
    ·rintro H2 rfl
     have eo:zV (((pts.take (as.map V.ref).length).filter fun r=>r.1 != q.1).map fun r=>(r.1:Int))=zV (oth pts q.1):=by
      rw [List.length_map,hat.1,List.take_length]
      rfl
     rw [eo]
     have s2:Same H' (upd H' D1 (.lst (zV (oth pts q.1)))):=fun c o z=>by rw [d8 (dC z hD1)];exact z
     have hD1':(upd H' D1 (.lst (zV (oth pts q.1)))) D1=some (.lst (zV (oth pts q.1))):=d9
     generalize upd H' D1 (.lst (zV (oth pts q.1)))=H2 at s2 hD1'
     have hol:(oth pts q.1).length≤600:=by
      unfold oth
      rw [List.length_map]
      exact Nat.le_trans (List.length_filter_le _ _) (by rw [←hat.1];exact hz)
     refine ⟨_,rfl,D1,rfl,⟨_,SqL.of hD1'⟩,fun D2 hD2=>?_⟩
     refine jN (xs:=zV (oth pts q.1)) (fun j H3=>H3=upd H2 D2 (.lst (zV (((oth pts q.1).take j).map fun a=>x-a)))) rfl ?_ ?_ ?_
     ·rintro j H3 _ rfl
      exact SqL.of (by rw [d8 (dC hD1' hD2)];exact hD1')
     ·rintro j u H3 hu rfl
      unfold zV at hu
      rw [List.getElem?_map] at hu
      cases hk2:(oth pts q.1)[j]? with
      | none=>rw [hk2] at hu;cases hu
      | some o=>
       rw [hk2] at hu
       cases hu
       have hj:=(List.getElem?_eq_some_iff.mp hk2).1
       refine ⟨rfl,_,rfl,_,rfl,_,_,rfl,rfl,_,d9,?_,?_⟩
       ·rw [gT,List.length_map,List.length_take]
        exact Nat.lt_of_le_of_lt (Nat.min_le_left _ _) (Nat.lt_of_lt_of_le hj (Nat.le_trans hol (by decide)))
       ·rw [jL,List.take_succ,hk2,Option.toList_some,List.map_append]
        unfold zV
        rw [List.map_append]
        rfl
     ·rintro H3 rfl
      rw [gT,List.take_length]
      have s3:Same H2 (upd H2 D2 (.lst (zV ((oth pts q.1).map fun a=>x-a)))):=fun c o z=>by rw [d8 (dC z hD2)];exact z
      refine ⟨_,rfl,D2,_,p,rfl,d9,hp3,hp2,?_⟩
      generalize upd H2 D2 (.lst (zV ((oth pts q.1).map fun a=>x-a)))=H4 at s3
      refine ⟨_,rfl,D1,rfl,⟨_,SqL.of (s3 _ _ hD1')⟩,fun D5 hD5=>?_⟩
      refine jN (xs:=zV (oth pts q.1)) (fun j H3=>H3=upd H4 D5 (.lst (zV (((oth pts q.1).take j).map fun a=>(q.1:Int)-a)))) rfl ?_ ?_ ?_
      ·rintro j H3 _ rfl
       exact SqL.of (by rw [d8 (dC (s3 _ _ hD1') hD5)];exact s3 _ _ hD1')
      ·rintro j u H3 hu rfl
       unfold zV at hu
       rw [List.getElem?_map] at hu
       cases hk2:(oth pts q.1)[j]? with
       | none=>rw [hk2] at hu;cases hu
       | some o=>
        rw [hk2] at hu
        cases hu
        have hj:=(List.getElem?_eq_some_iff.mp hk2).1
        refine ⟨rfl,_,rfl,_,rfl,_,_,rfl,rfl,_,d9,?_,?_⟩
        ·rw [gT,List.length_map,List.length_take]
         exact Nat.lt_of_le_of_lt (Nat.min_le_left _ _) (Nat.lt_of_lt_of_le hj (Nat.le_trans hol (by decide)))
        ·rw [jL,List.take_succ,hk2,Option.toList_some,List.map_append]
         unfold zV
         rw [List.map_append]
         rfl
      ·rintro H3 rfl
       rw [gT,List.take_length]
       have s4:Same H4 (upd H4 D5 (.lst (zV ((oth pts q.1).map fun a=>(q.1:Int)-a)))):=fun c o z=>by rw [d8 (dC z hD5)];exact z
       refine ⟨_,rfl,D5,_,p,rfl,d9,hp3,hp2,?_⟩
       have hbel:=hP.below hp hqm
       have b0:=Int.emod_nonneg (gk ((oth pts q.1).map fun a=>(q.1:Int)-a)) hpp
       have b1:=Int.emod_lt_of_pos (gk ((oth pts q.1).map fun a=>(q.1:Int)-a)) hp0
       have hnd:¬ (p:Int)∣gk ((oth pts q.1).map fun a=>(q.1:Int)-a)%(p:Int):=fun z=>hbel (Int.dvd_of_emod_eq_zero (by
        have:=Int.emod_eq_zero_of_dvd z
        rwa [Int.emod_emod] at this))
       refine ⟨_,rfl,_,rfl,_,rfl,_,_,rfl,rfl,.inl ⟨by omega,by omega⟩,_,rfl,_,rfl,_,p,rfl,hp,hp2,b0,b1,hnd,?_⟩
       rw [dCb]
       have hiv:(invN p (gk ((oth pts q.1).map fun a=>(q.1:Int)-a)):Int) < (p:Int):=by
        obtain ⟨f,f1,f2,f3⟩:=d8m hp hbel
        rw [d8E hp f2 f3]
        omega
       refine ⟨_,_,rfl,rfl,.inr ⟨by omega,by omega⟩,_,_,rfl,rfl,_,rfl,_,_,rfl,rfl,hp0,⟨some (.int (q.1:Int)),some (.int (q.2:Int)),some (.ref D1),some (.int (gk ((oth pts q.1).map fun a=>x-a)%(p:Int))),some (.int (gk ((oth pts q.1).map fun a=>(q.1:Int)-a)%(p:Int))),y9,y10,?_⟩,fun c o z=>s4 _ _ (s3 _ _ (s2 _ _ (s1 _ _ z)))⟩
       have key:((((pts.take i).map (term p pts x)).sum%(p:Int))+(q.2:Int)*(gk ((oth pts q.1).map fun a=>x-a)%(p:Int))*(invN p (gk ((oth pts q.1).map fun a=>(q.1:Int)-a)):Int))%(p:Int)=((pts.take (i+1)).map (term p pts x)).sum%(p:Int):=by
        rw [List.take_succ,hq,Option.toList_some,List.map_append,List.sum_append]
        show _=(_+(term p pts x q+0))%(p:Int)
        rw [Int.add_zero]
        exact dCz _ _ _ _ _
       rw [←key]
       rfl
  ·rintro σ H' ⟨⟨y4,y5,y6,y7,y8,y9,y10,rfl⟩,s1⟩
   rw [List.length_map,hat.1,List.take_length]
   exact ⟨_,rfl,kq H' s1⟩
end
end Pg
end
section
set_option linter.all false
set_option maxRecDepth 100000
set_option maxHeartbeats 4000000
namespace Pg
open PySem PySem.Spec PyProof.Rows L2 Xc Sp
theorem dBB {X:Cx}{K:PySem.W.Frag}{pos:Pos}{es:List Expr}{k:Nat}{t:TGs}{n:Nat} (hK:X.K=K) (hc:X.calm=true) (h:PGs X es t) (hn:(assignEach es X.env).length=n:=by rfl) (hst:(assignEach es X.env).findIdx? (·.1)=none:=by rfl):PG X (.Tuple es k pos) (gTup K n t):=hK▸dDz hc h hn hst
theorem dDK {K:PySem.W.Frag}{a:Addr}{xs:List V}{g:TG}{tt:TT}{te:TE}{vs:List Nat}{σ:L2.St}{H1:Hp}{D:Addr}{Qd:Hp→Prop} (Pv:Nat→Hp→Prop) (h0:Pv 0 (upd H1 D (.lst []))) (hl:∀ i H,i≤xs.length→Pv i H→SqL K H a xs)
  (hs:∀ i x T H,xs[i]?=some x→H T=none→Pv i H→g (.ref T) (wipe σ vs) (upd H T (.tup [.int ((i+1:Nat):Int),x])) fun σ2 H2=>wipe σ2 vs=wipe σ vs∧tt σ2 H2 fun b H3=>
   if b=true then te σ2 H3 fun y H4=>∃ acc,H4 D=some (.lst acc)∧acc.length < sizeLine∧Pv (i+1) (upd H4 D (.lst (acc++[y]))) else Pv (i+1) H3) (hd:∀ H,Pv xs.length H→Qd H) :
  ∃ W:Nat→Nat→Hp→Prop,(∃ m,W 0 m (upd H1 D (.lst [])))∧∀ i m H,W i m H →
   ((Ite1 K a).stop i H∧Qd H)∨((Ite1 K a).go i H∧∃ Nx:Hp→Prop,(∀ H',Nx H'→∃ m',m' < m∧W (i+1) m' H')∧∀ x H',(Ite1 K a).yld i H x H'→g x (wipe σ vs) H' fun σ2 H2=>wipe σ2 vs=wipe σ vs∧tt σ2 H2 fun b H3=>
    if b=true then te σ2 H3 fun y H4=>∃ acc,H4 D=some (.lst acc)∧acc.length < sizeLine∧Nx (upd H4 D (.lst (acc++[y]))) else Nx H3):=by
 refine ⟨fun i m H=>m=xs.length-i∧i≤xs.length∧Pv i H,⟨xs.length,by simp,Nat.zero_le _,h0⟩,?_⟩
 rintro i m H ⟨rfl,hi,p⟩
 have q:=hl i H hi p
 by_cases hlt:i < xs.length
 ·refine .inr ⟨⟨xs,xs[i],q,List.getElem?_eq_getElem hlt⟩,Pv (i+1),fun H' p'=>⟨xs.length-(i+1),by omega,rfl,hlt,p'⟩,fun x H' y=>?_⟩
  obtain ⟨T,v,e1,hT,e2,hv⟩:=y
  subst e1 e2
  exact hs i v T H (hv xs q) hT p
 ·have e:i=xs.length:=by omega
  subst e
  exact .inl ⟨⟨xs,q,Nat.le_refl _⟩,hd H p⟩
theorem dDi (xs:List V) (k:Nat):cutV xs none (some (k:Int))=xs.take k:=by
 unfold cutV
 rw [HT.sIx_none,HT.sIx_nat,List.drop_zero,Nat.sub_zero,List.take_eq_take_iff]
 omega
theorem d9b (xs:List V) (k:Nat):cutV xs (some (k:Int)) none=xs.drop k:=by
 unfold cutV
 rw [HT.sIx_none,HT.sIx_nat]
 by_cases h:k≤xs.length
 ·rw [Nat.min_eq_left h,List.take_of_length_le (by rw [List.length_drop];omega)]
 ·rw [List.drop_eq_nil_of_le (by omega),List.drop_eq_nil_of_le (by omega)]
  simp
theorem yN (v:Int):∀ (l:List Int) (x:Nat),df (l++[v]) x=df l x++(if v=-6 then [] else [(x+l.length,v.toNat)])
 | [],x=>by
  show (if v=-6 then df [] (x+1) else (x,v.toNat)::df [] (x+1))=_
  split <;> simp [df]
 | u::l,x=>by
  rw [List.cons_append,df,df,yN v l (x+1),List.length_cons]
  have e:x+1+l.length=x+(l.length+1):=by omega
  rw [e]
  split
  ·rfl
  ·rw [List.cons_append]
theorem dGv (a:Int) (l:List Int):inV (V.int a) (zV l)=decide (a∈l):=by
 unfold inV zV
 rw [Bool.eq_iff_iff,List.any_eq_true,decide_eq_true_iff]
 constructor
 ·rintro ⟨x,hx,e⟩
  obtain ⟨b,hb,rfl⟩:=List.mem_map.mp hx
  have:b=a:=by simpa [eqV] using e
  rw [←this];exact hb
 ·intro h
  exact ⟨_,List.mem_map.mpr ⟨a,h,rfl⟩,by simp [eqV]⟩
theorem dFM (l:List Int):(zV l).all yo=true:=by
 unfold zV
 rw [List.all_eq_true]
 intro x hx
 obtain ⟨b,_,rfl⟩:=List.mem_map.mp hx
 rfl
def dAf:Sp:=fun vs H Q _=>∃ (fl:Addr) (vals:List Int) (k p:Nat),vs=[.ref fl,.int (k:Int),.int (p:Int)]∧H fl=some (.lst (zV vals))∧Rb35.prime p=true∧p≤1000∧(∀ v∈vals,Vd p v)∧vals.length < p∧vals.length≤600∧∀ H',Same H H'→Q (.int (jx p k vals)) H'
section
variable {P:Program}{w:World}{K:PySem.W.Frag}{mg:Str→Option Value}{base:Heap}{cs:Cs}
theorem sc_fnode:FnScope ["found","asked","prime","points","first","x","value"] ["found","asked","prime"] (dB st_found_of_node):=⟨rfl,rfl,rfl,by decide +kernel,rfl,by decide +kernel,by decide +kernel⟩
theorem dDE (T:FunT K mg "found_of_node" st_found_of_node) (hNO:∃ t,mg "NO_SECRET"=some (.int (-4) t)) (hMA:∃ t,mg "MANY_SECRETS"=some (.int (-6) t)) (hen:mg "enumerate"=none) (hlen:mg "len"=none) (hany:mg "any"=none) (VT:DefOk P w K mg base 2 "value_through" ["points","x","prime"] dG7):DefOk P w K mg base 3 "found_of_node" ["found","asked","prime"] dAf:=by
 obtain ⟨f,fd,F,hm⟩:=T.ex
 obtain ⟨tn,hNO⟩:=hNO
 obtain ⟨tm,hMA⟩:=hMA
 refine ⟨f,fd,hm,F.kp,F.binds (fun _ _ _ _ _ _ us hl=>match us,hl with | [_,_,_],_=>rfl),okN F sc_fnode (fun vs H Q E h=>?_) (fun cdv A outer s H vs Q E hr h=>?_)⟩
 ·obtain ⟨fl,vals,k,p,rfl,_⟩:=h
  rfl
 ·obtain ⟨fl,vals,k,p,rfl,hfl,hp,hp2,hv,hlp,hz,kq⟩:=h
  refine ⟨_,dA (gv (dQ dAw (da (v:=.int (-4)) (by rfl) hNO ⟨tn,rfl⟩) (pv 0) (by rfl)) (dE (dZ (da (v:=.int (-4)) (by rfl) hNO ⟨tn,rfl⟩))) dq)
   (dA (yR (i:=3) rfl sc_fnode.nd rfl rfl (d83 rfl rfl rfl (by decide +kernel)) (dDV (by rfl) hen (d0 (pv 0) dD)) (gJ (own:=[("x",5),("value",6)]) (by show blkC ["found","asked","prime","points","first","x","value"] (dB st_found_of_node) _ [("x",5),("value",6)]=true;decide +kernel))
    (fun _ _ _ _ _=>dBB (K:=K) (n:=2) rfl rfl (uB (du (i:=5) sc_fnode.nd rfl (Or.inl rfl)) (uB (du (i:=6) sc_fnode.nd rfl (Or.inl rfl)) d8B))) (fun _ _ _ _ _=>yz (dQ d5B (pv 6) (da (v:=.int (-6)) (by rfl) hMA ⟨tm,rfl⟩) (dW _))) (fun _ _ _ _ _=>dEA (d0 (pv 5) (d0 (pv 6) dD))))
   (dA (gv (dQ d8C (dP dJ (by rfl) hlen PySem.boot_len (d0 (pv 3) dD)) (pv 1) (dW _)) (dE (dZ (da (v:=.int (-6)) (by rfl) hMA ⟨tm,rfl⟩))) dq)
   (dA (dX (i:=4) sc_fnode.nd rfl (Or.inr rfl) (uu z3 (pv 3) yh (vE (pv 1))))
   (dA (gv (uF (dP (d9O rfl) (by rfl) hany PyProof.Rows.boot_any (d0 (vU rfl sc_fnode.nd (gR (uu z3 (pv 3) (vE (pv 1)) yh)) (gJ (own:=[("x",5),("value",6)]) (by show blkC ["found","asked","prime","points","first","x","value"] (dB st_found_of_node) _ [("x",5),("value",6)]=true;decide +kernel))
    (fun _ _ _ _ _=>dBB (K:=K) (n:=2) rfl rfl (uB (du (i:=5) sc_fnode.nd rfl (Or.inl rfl)) (uB (du (i:=6) sc_fnode.nd rfl (Or.inl rfl)) d8B))) (fun _ _ _ _ _=>jh) (fun _ _ _ _ _=>gi d5B (dj (k:=2) VT hr (by rfl) dG (d0 (pv 4) (d0 (pv 5) (d0 (pv 2) dD)))) (pv 6) (dW _))) dD))) (dE (dZ (da (v:=.int (-4)) (by rfl) hNO ⟨tn,rfl⟩))) dq)
   (dE (dZ (dj VT hr rfl dG (d0 (pv 4) (d0 dS (d0 (pv 2) dD)))))))))),?_⟩
  refine ⟨_,rfl,fl,_,rfl,.inl (SqL.of hfl),rfl,dFM _,_,rfl,?_⟩
  show if inV (V.int (-4)) (zV vals)=true then _ else _
  rw [dGv]
  refine ite2 (fun hc=>?_) fun hc=>?_
  ·have h1:=of_decide_eq_true hc
   have e:jx p k vals=-4:=by unfold jx;rw [if_pos h1]
   have:=kq H (Same.refl _)
   rw [e] at this
   exact this
  have h4:¬ (-4:Int)∈vals:=fun z=>hc (decide_eq_true z)
  have hP:=d9F hlp hv h4
  refine ⟨_,rfl,fl,_,rfl,SqL.of hfl,fun D hD=>?_⟩
  refine dDK (xs:=zV vals) (fun i H'=>∃ as,H' D=some (.lst (as.map V.ref))∧PtAt H' as (df (vals.take i) 1)∧(∀ a∈as,a≠D)∧Same H H') ⟨[],d9,⟨rfl,fun i a q e=>by simp at e⟩,fun a ha=>by simp at ha,fun c o q=>by rw [d8 (dC q hD)];exact q⟩ ?_ ?_ ?_
  ·rintro i H' _ ⟨as,_,_,_,s1⟩
   exact SqL.of (s1 _ _ hfl)
  ·rintro i x T H' hx hT ⟨as,h1,h2,h3,s1⟩
   unfold zV at hx
   rw [List.getElem?_map] at hx
   cases hk:vals[i]? with
   | none=>rw [hk] at hx;cases hx
   | some v=>
    rw [hk] at hx
    cases hx
    have hi:=(List.getElem?_eq_some_iff.mp hk).1
    have hvm:=List.mem_of_getElem? hk
    have hsn:df (vals.take (i+1)) 1=df (vals.take i) 1++(if v=-6 then [] else [(1+i,v.toNat)]):=by
     rw [List.take_succ,hk,Option.toList_some,yN,List.length_take,Nat.min_eq_left (Nat.le_of_lt hi)]
    have s2:Same H' (upd H' T (.tup [.int ((i+1:Nat):Int),.int v])):=fun c o q=>by rw [d8 (dC q hT)];exact q
    refine ⟨T,_,rfl,SqT.of d9,rfl,_,_,rfl,_,_,rfl,rfl,rfl,_,rfl,rfl,_,rfl,?_⟩
    generalize upd H' T (.tup [.int ((i+1:Nat):Int),.int v])=H2 at s2
    rw [jj]
    refine ite2 (fun hc2=>?_) fun hc2=>?_
    ·have h6:¬ v=-6:=by simpa using hc2
     rw [if_neg h6] at hsn
     have hv0:((v.toNat:Nat):Int)=v:=by
      rcases hv v hvm with z | z | z
      ·exact absurd (z▸hvm) h4
      ·exact absurd z h6
      ·omega
     refine ⟨_,rfl,_,rfl,by show 2≤sizeLine;decide,fun t ht=>?_⟩
     have nD:D≠t:=dC (s2 _ _ h1) ht
     refine ⟨_,by rw [d8 nD];exact s2 _ _ h1,?_,as++[t],?_,?_,?_,?_⟩
     ·rw [List.length_map,h2.1]
      have:(df (vals.take i) 1).length≤600:=by
       have:∀ (l:List Int) (x:Nat),(df l x).length≤l.length:=fun l=>by
        induction l with
        | nil=>intro x;exact Nat.le_refl _
        | cons a l ih=>
         intro x
         rw [df]
         split
         ·exact Nat.le_succ_of_le (ih _)
         ·exact Nat.succ_le_succ (ih _)
       refine Nat.le_trans (this _ _) ?_
       rw [List.length_take]
       omega
      exact Nat.lt_of_le_of_lt this (by decide)
     ·rw [d9,List.map_append]
      rfl
     ·rw [hsn]
      have hk2:PtAt (upd (upd H2 t (.tup [.int ((i+1:Nat):Int),.int v])) D (.lst (as.map V.ref++[.ref t]))) as (df (vals.take i) 1):=⟨h2.1,fun j b q e e'=>by
       have hb:=h2.2 j b q e e'
       rw [d8 (h3 b (List.mem_of_getElem? e)),d8 (dC (s2 _ _ hb) ht)]
       exact s2 _ _ hb⟩
      refine hk2.snoc ?_
      rw [d8 nD.symm,d9]
      show some (HO.tup [.int ((i+1:Nat):Int),.int v])=some (HO.tup [.int ((1+i:Nat):Int),.int ((v.toNat:Nat):Int)])
      rw [hv0,Nat.add_comm]
     ·intro b hb
      rcases List.mem_append.mp hb with z | z
      ·exact h3 b z
      ·simp at z;rw [z];exact nD.symm
     ·intro c o q
      rw [d8 (dC q hD),d8 (dC (s2 _ _ (s1 _ _ q)) ht)]
      exact s2 _ _ (s1 _ _ q)
    ·have h6:v=-6:=by simpa using hc2
     rw [if_pos h6,List.append_nil] at hsn
     exact ⟨as,s2 _ _ h1,by rw [hsn];exact h2.same s2,h3,s1.trans s2⟩
  rintro H1 ⟨as,h1,h2,h3,s1⟩
  rw [gT,List.take_length] at h2
  have has:as.length≤600:=by
   rw [h2.1]
   have:∀ (l:List Int) (x:Nat),(df l x).length≤l.length:=fun l=>by
    induction l with
    | nil=>intro x;exact Nat.le_refl _
    | cons a l ih=>
     intro x
     rw [df]
     split
     ·exact Nat.le_succ_of_le (ih _)
     ·exact Nat.succ_le_succ (ih _)
   exact Nat.le_trans (this _ _) hz
  refine ⟨_,rfl,_,_,rfl,.inl (SqL.of h1),_,rfl,_,_,rfl,rfl,_,rfl,ite2 (fun hc2=>?_) fun hc2=>?_⟩
  ·have hlt:=of_decide_eq_true hc2
   rw [List.length_map,h2.1] at hlt
   have e:jx p k vals=-6:=by unfold jx;rw [if_neg h4,if_pos (by omega)]
   have:=kq H1 s1
   rw [e] at this
   exact this
  have hge:¬ (df vals 1).length < k:=fun z=>hc2 (decide_eq_true (by rw [List.length_map,h2.1];omega))
  refine ⟨_,rfl,_,rfl,_,rfl,D,_,rfl,SqL.of h1,fun F1 hF1=>?_⟩
  rw [dDi,←List.map_take]
  have s2:Same H1 (upd H1 F1 (.lst ((as.take k).map V.ref))):=fun c o q=>by rw [d8 (dC q hF1)];exact q
  have hF:(upd H1 F1 (.lst ((as.take k).map V.ref))) F1=some (.lst ((as.take k).map V.ref)):=d9
  generalize upd H1 F1 (.lst ((as.take k).map V.ref))=H2 at s2 hF
  have P1:=hP.take k
  have hat:=(h2.take k).same s2
  have htl:(as.take k).length≤600:=by rw [List.length_take];omega
  refine ⟨_,rfl,_,rfl,_,rfl,D,_,rfl,SqL.of (s2 _ _ h1),fun F2 hF2=>?_⟩
  rw [d9b,←List.map_drop]
  have s3:Same H2 (upd H2 F2 (.lst ((as.drop k).map V.ref))):=fun c o q=>by rw [d8 (dC q hF2)];exact q
  have hG:(upd H2 F2 (.lst ((as.drop k).map V.ref))) F2=some (.lst ((as.drop k).map V.ref)):=d9
  refine ⟨F2,rfl,⟨_,SqL.of hG⟩,fun D3 hD3=>?_⟩
  generalize upd H2 F2 (.lst ((as.drop k).map V.ref))=H3 at s3 hG hD3
  have hdr:=((h2.drop k).same s2).same s3
  refine jN (xs:=(as.drop k).map V.ref) (fun j H'=>H' D3=some (.lst (((((df vals 1).drop k).take j).map fun q=>!decide (thrV p ((df vals 1).take k) (q.1:Int)%(p:Int)=(q.2:Int))).map V.bl))∧Same H3 H') ⟨d9,fun c o q=>by rw [d8 (dC q hD3)];exact q⟩ ?_ ?_ ?_
  ·rintro j H' _ ⟨_,s4⟩
   exact SqL.of (s4 _ _ hG)
  ·rintro j y H' hy ⟨hl,s4⟩
   rw [List.getElem?_map] at hy
   cases hk:(as.drop k)[j]? with
   | none=>rw [hk] at hy;cases hy
   | some a=>
    rw [hk] at hy
    cases hy
    obtain ⟨q,hq,ha⟩:=hdr.get hk
    have hj:=(List.getElem?_eq_some_iff.mp hk).1
    rw [List.length_drop] at hj
    refine ⟨a,_,rfl,SqT.of (s4 _ _ ha),rfl,_,_,rfl,_,_,rfl,rfl,rfl,?_⟩
    refine ⟨_,rfl,_,rfl,_,rfl,F1,as.take k,(df vals 1).take k,(q.1:Int),p,rfl,s4 _ _ (s3 _ _ hF),(hat.same s3).same s4,P1,hp,hp2,htl,fun H5 s5=>?_⟩
    refine ⟨_,rfl,rfl,_,s5 _ _ hl,?_,?_,fun c o z=>?_⟩
    ·rw [List.length_map,List.length_map,List.length_take]
     exact Nat.lt_of_le_of_lt (Nat.min_le_left _ _) (Nat.lt_trans (show j < 601 by omega) (by decide))
    ·rw [d9,List.take_succ,hq,Option.toList_some,List.map_append,List.map_append]
     show some (HO.lst (_++[V.bl (!decide (V.int _=V.int _))]))=_
     rw [jj]
     rfl
    ·rw [d8 (dC z hD3)]
     exact s5 _ _ (s4 _ _ z)
  ·rintro H' ⟨hl,s4⟩
   have el:((df vals 1).drop k).take ((as.drop k).map V.ref).length=(df vals 1).drop k:=List.take_of_length_le (by rw [List.length_map,hdr.1];exact Nat.le_refl _)
   rw [el] at hl
   have s5:Same H H':=s1.trans (s2.trans (s3.trans s4))
   refine ⟨D3,_,rfl,SqL.of hl,_,rfl,ite2 (fun hc3=>?_) fun hc3=>?_⟩
   ·have ha:((df vals 1).drop k).any (fun q=>!decide (thrV p ((df vals 1).take k) (q.1:Int)%(p:Int)=(q.2:Int)))=true:=by
     obtain ⟨b,hb,hb2⟩:=List.any_eq_true.mp hc3
     obtain ⟨q,hq,rfl⟩:=List.mem_map.mp hb
     exact List.any_eq_true.mpr ⟨q,hq,hb2⟩
    have e:jx p k vals=-4:=by unfold jx;rw [if_neg h4,if_neg hge,if_pos ha]
    have:=kq H' s5
    rw [e] at this
    exact this
   ·have ha:¬ ((df vals 1).drop k).any (fun q=>!decide (thrV p ((df vals 1).take k) (q.1:Int)%(p:Int)=(q.2:Int)))=true:=fun z=>by
     obtain ⟨q,hq,hq2⟩:=List.any_eq_true.mp z
     exact hc3 (List.any_eq_true.mpr ⟨_,List.mem_map.mpr ⟨q,hq,rfl⟩,hq2⟩)
    have e:jx p k vals=thrV p ((df vals 1).take k) 0%(p:Int):=by unfold jx;rw [if_neg h4,if_neg hge,if_neg ha]
    refine ⟨_,rfl,_,rfl,F1,as.take k,(df vals 1).take k,0,p,rfl,s4 _ _ (s3 _ _ hF),(hat.same s3).same s4,P1,hp,hp2,htl,fun H6 s6=>?_⟩
    have:=kq H6 (s5.trans s6)
    rw [e] at this
    exact this
end
end Pg
end
section
set_option linter.all false
namespace Sp
open Rb35
def fsz:Form→Nat
 | .one _=>1
 | .some_ _ l=>1+fszIn l
where fszIn:Forms→Nat
 | .nil=>0
 | .cons f l=>fsz f+fszIn l
theorem uh:∀ l:List Form,fsz.fszIn (ofL l)=(l.map fsz).sum
 | []=>rfl
 | f::l=>by rw [ofL,fsz.fszIn,uh l];rfl
theorem wr {P:Nat} (ns:List dI) (ok:Good P ns):∀ i,i < P+ns.length→1≤(leaves (den P ns i)).length:=by
 induction ns using kI with
 | h0=>
  intro i hi
  rw [gU [] (by simpa using hi)]
  exact Nat.le_refl _
 | h1 l a ih=>
  obtain ⟨g1,g2,g3,g4⟩:=ok.init
  intro i hi
  by_cases hl:i < P+l.length
  ·rw [den_ext [a] hl];exact ih g1 i hl
  ·have e:i=P+l.length:=by rw [List.length_append] at hi;simp at hi;omega
   subst e
   rw [uN]
   show 1≤(leavesIn (ofL _)).length
   rw [g9,List.map_map]
   cases h:a.2 with
   | nil=>rw [h] at g4;simp at g4;omega
   | cons x t=>
    rw [List.map_cons,List.sum_cons]
    have:=ih g1 x (g2 x (by rw [h];simp))
    show 1≤(leaves (den P l x)).length+_
    omega
end Sp
end
section
set_option linter.all false
namespace Sp
open Rb35
theorem d9e {α:Type} (f g:α→Nat):∀ l:List α,(∀ x∈l,f x≤g x)→(l.map f).sum≤(l.map g).sum
 | [],_=>Nat.le_refl _
 | a::l,h=>by
  rw [List.map_cons,List.map_cons,List.sum_cons,List.sum_cons]
  have h1:=h a (by simp)
  have h2:=d9e f g l fun x hx=>h x (by simp [hx])
  omega
theorem dBb {α:Type} (f g:α→Nat) (a b:Nat):∀ l:List α,(l.map fun x=>a*f x+b*g x).sum=a*(l.map f).sum+b*(l.map g).sum
 | []=>by simp
 | x::l=>by
  rw [List.map_cons,List.map_cons,List.map_cons,List.sum_cons,List.sum_cons,List.sum_cons,dBb f g a b l,Nat.mul_add,Nat.mul_add]
  omega
section
variable {P:Nat} (names:List Bytes) (tu:Bool)
theorem dFr (ns:List dI) (ok:Good P ns):∀ i,i < P+ns.length→fsz (den P ns i)≤(leaves (den P ns i)).length*(ns.length+1):=by
 induction ns using kI with
 | h0=>
  intro i hi
  rw [gU [] (by simpa using hi)]
  exact Nat.le_refl _
 | h1 l a ih=>
  obtain ⟨g1,g2,g3,g4⟩:=ok.init
  intro i hi
  have hle:(l++[a]).length+1=(l.length+1)+1:=by simp
  by_cases hl:i < P+l.length
  ·rw [den_ext [a] hl,hle]
   exact Nat.le_trans (ih g1 i hl) (Nat.mul_le_mul_left _ (Nat.le_succ _))
  ·have e:i=P+l.length:=by rw [List.length_append] at hi;simp at hi;omega
   subst e
   have hp:=wr _ ok (P+l.length) hi
   rw [hle,Nat.mul_succ]
   rw [uN] at hp ⊢
   have e1:fsz (.some_ a.1 (ofL (a.2.map (den P l))))=1+((a.2.map (den P l)).map fsz).sum:=by rw [fsz,uh]
   have e2:(leaves (.some_ a.1 (ofL (a.2.map (den P l))))).length=((a.2.map (den P l)).map fun f=>(leaves f).length).sum:=g9 _
   have h1:=d9e fsz (fun f=>(l.length+1)*(leaves f).length+0*0) (a.2.map (den P l)) fun f hf=>by
    obtain ⟨j,hj,rfl⟩:=List.mem_map.mp hf
    have:=ih g1 j (g2 j hj)
    rw [Nat.mul_comm] at this
    show _≤(l.length+1)*(leaves (den P l j)).length+0*0
    omega
   rw [dBb (fun f=>(leaves f).length) (fun _=>0) (l.length+1) 0,Nat.zero_mul,Nat.add_zero] at h1
   rw [e2] at hp
   rw [e1,e2,Nat.mul_comm]
   omega
end
end Sp
end
section
set_option linter.all false
namespace Sp
open Rb35
def sdp (P:Nat) (ns:List dI):List (List Nat):=ns.foldl (fun d n=>d++[n.2.flatMap (fun i=>d.getD i [])++[d.length]]) ((List.range P).map fun i=>[i])
def so (P:Nat) (ns:List dI) (i:Nat):List Nat:=(sdp P ns).getD i []
theorem fmc {α β:Type}{f g:α→List β}:∀ {l:List α},(∀ x∈l,f x=g x)→l.flatMap f=l.flatMap g
 | [],_=>rfl
 | a::l,h=>by rw [List.flatMap_cons,List.flatMap_cons,h a (by simp),fmc fun x hx=>h x (by simp [hx])]
theorem yb (P:Nat) (ns:List dI) (n:dI):sdp P (ns++[n])=sdp P ns++[n.2.flatMap (so P ns)++[(sdp P ns).length]]:=by
 unfold sdp
 rw [List.foldl_append]
 rfl
theorem yI (P:Nat) (ns:List dI):(sdp P ns).length=P+ns.length:=by
 induction ns using kI with
 | h0=>simp [sdp]
 | h1 l a ih=>rw [yb,List.length_append,ih,List.length_append];simp;omega
theorem dEm (P:Nat) (ns more:List dI):∃ e,sdp P (ns++more)=sdp P ns++e:=by
 induction more using kI with
 | h0=>exact ⟨[],by simp⟩
 | h1 l a ih=>
  obtain ⟨e,he⟩:=ih
  refine ⟨e++[a.2.flatMap (so P (ns++l))++[(sdp P (ns++l)).length]],?_⟩
  rw [←List.append_assoc,yb,he,List.append_assoc]
theorem dBk {P:Nat}{ns:List dI} (more:List dI) {i:Nat} (hi:i < P+ns.length):so P (ns++more) i=so P ns i:=by
 obtain ⟨e,he⟩:=dEm P ns more
 unfold so
 rw [he,List.getD_eq_getElem?_getD,List.getD_eq_getElem?_getD,List.getElem?_append_left (by rw [yI];exact hi)]
theorem kY {P:Nat} (ns:List dI) {i:Nat} (hi:i < P):so P ns i=[i]:=by
 have h:=dBk (P:=P) (ns:=[]) ns (i:=i) (by simpa using hi)
 rw [List.nil_append] at h
 rw [h]
 unfold so sdp
 rw [List.foldl_nil,List.getD_eq_getElem?_getD,List.getElem?_map,List.getElem?_range hi]
 rfl
theorem wA {P:Nat}{ns:List dI} (ok:Good P ns) {j:Nat}{n:dI} (h:ns[j]?=some n):so P ns (P+j)=n.2.flatMap (so P ns)++[P+j]:=by
 obtain ⟨hj,e⟩:=List.getElem?_eq_some_iff.mp h
 have hs:ns=(ns.take j++[n])++ns.drop (j+1):=by
  rw [←e,List.append_assoc,List.singleton_append,List.getElem_cons_drop,List.take_append_drop]
 have hl:(ns.take j).length=j:=by rw [List.length_take,Nat.min_eq_left (Nat.le_of_lt hj)]
 have g:=(ok j n h).1
 have h1:so P ((ns.take j++[n])++ns.drop (j+1)) (P+j)=so P (ns.take j++[n]) (P+j):=dBk _ (by rw [List.length_append,hl];simp)
 rw [←hs] at h1
 rw [h1]
 have h2:so P (ns.take j++[n]) (P+j)=n.2.flatMap (so P (ns.take j))++[P+j]:=by
  have hz:(sdp P (ns.take j)).length=P+j:=by rw [yI,hl]
  show (sdp P (ns.take j++[n])).getD (P+j) []=_
  rw [yb,List.getD_eq_getElem?_getD,List.getElem?_append_right (by omega),hz,Nat.sub_self]
  rfl
 rw [h2]
 congr 1
 refine fmc fun i hi=>?_
 have:=dBk (P:=P) (ns:=ns.take j) ([n]++ns.drop (j+1)) (i:=i) (by rw [hl];exact g i hi)
 rw [←List.append_assoc,←hs] at this
 exact this.symm
theorem ua:∀ l:List Form,leavesIn (ofL l)=l.flatMap leaves
 | []=>rfl
 | f::l=>by rw [ofL,leavesIn,ua l,List.flatMap_cons]
theorem wM {α β:Type} (q:β→Bool) (f:α→List β):∀ l:List α,(l.flatMap f).filter q=l.flatMap fun x=>(f x).filter q
 | []=>rfl
 | a::l=>by rw [List.flatMap_cons,List.filter_append,wM q f l,List.flatMap_cons]
section
variable {P:Nat}{ns:List dI} (ok:Good P ns)
include ok
theorem yc {Pr:Nat→Prop} (h1:∀ i,i < P→Pr i) (h2:∀ j n,ns[j]?=some n→(∀ i∈n.2,Pr i)→Pr (P+j)):∀ i,i < P+ns.length→Pr i:=by
 intro i
 induction i using Nat.strongRecOn with
 | _ i ih=>
  intro hi
  by_cases hp:i < P
  ·exact h1 i hp
  ·obtain ⟨j,rfl⟩:∃ j,i=P+j:=⟨i-P,by omega⟩
   have hj:j < ns.length:=by omega
   have hn:ns[j]?=some ns[j]:=List.getElem?_eq_getElem hj
   refine h2 j _ hn fun k hk=>?_
   have:=(ok j _ hn).1 k hk
   exact ih k this (by omega)
theorem dBV:∀ i,i < P+ns.length→(so P ns i).filter (fun t=>decide (t < P))=leaves (den P ns i):=by
 refine yc ok (fun i hi=>?_) fun j n hn ih=>?_
 ·rw [kY ns hi,gU ns hi,List.filter_cons_of_pos (by simpa using hi)]
  rfl
 ·rw [wA ok hn,js ok hn,List.filter_append,List.filter_cons_of_neg (by simp),wM]
  show _++[]=leavesIn _
  rw [List.append_nil,ua,List.flatMap_map]
  exact fmc fun i hi=>ih i hi
def stp (P:Nat) (ns:List dI) (p:Nat) (x:List Int×List Int) (t:Nat):List Int×List Int:=
 if t < P then (x.1++[x.2.headD (-6)],x.2.tail) else (x.1.take (x.1.length-(ns.getD (t-P) (0,[])).2.length)++[jx p (ns.getD (t-P) (0,[])).1 (x.1.drop (x.1.length-(ns.getD (t-P) (0,[])).2.length))],x.2)
omit ok in
theorem d5d (p:Nat):∀ (l:List Form) (h:List Int),(k9 p (ofL l) h).length=l.length
 | [],h=>rfl
 | f::l,h=>by rw [ofL,k9,List.length_cons,d5d p l,List.length_cons]
omit ok in
theorem y0 (p:Nat):∀ (l:List Form) (h:List Int),k9 p (ofL l) (h.take (l.map fun f=>(leaves f).length).sum)=k9 p (ofL l) h
 | [],h=>rfl
 | f::l,h=>by
  rw [ofL,k9,k9,List.map_cons,List.sum_cons,List.take_take,Nat.min_eq_left (Nat.le_add_right _ _),List.drop_take,Nat.add_sub_cancel_left,y0 p l]
theorem d9i (p:Nat):∀ (l:List Nat),(∀ i∈l,∀ st h,(so P ns i).foldl (stp P ns p) (st,h)=(st++[fnd p (den P ns i) (h.take (leaves (den P ns i)).length)],h.drop (leaves (den P ns i)).length)) →
  ∀ st h,(l.flatMap (so P ns)).foldl (stp P ns p) (st,h)=(st++k9 p (ofL (l.map (den P ns))) h,h.drop (l.map fun i=>(leaves (den P ns i)).length).sum)
 | [],_,st,h=>by simp [k9,ofL]
 | i::l,hl,st,h=>by
  rw [List.flatMap_cons,List.foldl_append,hl i (by simp),d9i p l (fun k hk=>hl k (by simp [hk])),List.map_cons,ofL,k9,List.map_cons,List.sum_cons,List.drop_drop,List.append_assoc]
  rfl
theorem dFZ (p:Nat):∀ i,i < P+ns.length→∀ st h,(so P ns i).foldl (stp P ns p) (st,h)=(st++[fnd p (den P ns i) (h.take (leaves (den P ns i)).length)],h.drop (leaves (den P ns i)).length):=by
 refine yc ok (fun i hi st h=>?_) fun j n hn ih st h=>?_
 ·rw [kY ns hi,gU ns hi]
  show stp P ns p (st,h) i=_
  unfold stp
  rw [if_pos hi]
  show (st++[h.headD (-6)],h.tail)=(st++[(h.take 1).headD (-6)],h.drop 1)
  cases h <;> rfl
 ·rw [wA ok hn,List.foldl_append,d9i ok p n.2 ih,js ok hn]
  show stp P ns p _ (P+j)=_
  have hd:ns.getD (P+j-P) (0,[])=n:=by rw [Nat.add_sub_cancel_left,List.getD_eq_getElem?_getD,hn];rfl
  have hl:(k9 p (ofL (n.2.map (den P ns))) h).length=n.2.length:=by rw [d5d,List.length_map]
  have e2:(leaves (.some_ n.1 (ofL (n.2.map (den P ns))))).length=(n.2.map fun i=>(leaves (den P ns i)).length).sum:=by
   show (leavesIn _).length=_
   rw [g9,List.map_map]
   rfl
  unfold stp
  rw [if_neg (by omega),hd,e2]
  have e3:(st++k9 p (ofL (n.2.map (den P ns))) h).length-n.2.length=st.length:=by rw [List.length_append,hl];omega
  dsimp only
  rw [e3,List.take_left,List.drop_left]
  congr 3
  show jx p n.1 _=jx p n.1 _
  have e4:(n.2.map fun i=>(leaves (den P ns i)).length).sum=((n.2.map (den P ns)).map fun f=>(leaves f).length).sum:=by rw [List.map_map];rfl
  rw [e4,y0]
def Sf (P:Nat) (ns:List dI):List Nat→Nat→Nat→Prop
 | [],_,_=>True
 | t::r,a,b=>if t < P then 1≤b∧Sf P ns r (a+1) (b-1) else t < P+ns.length∧(ns.getD (t-P) (0,[])).2.length≤a∧Sf P ns r (a-(ns.getD (t-P) (0,[])).2.length+1) b
theorem dBm:∀ (l:List Nat),(∀ i∈l,∀ r a b,(leaves (den P ns i)).length≤b→Sf P ns r (a+1) (b-(leaves (den P ns i)).length)→Sf P ns (so P ns i++r) a b) →
  ∀ r a b,(l.map fun i=>(leaves (den P ns i)).length).sum≤b→Sf P ns r (a+l.length) (b-(l.map fun i=>(leaves (den P ns i)).length).sum)→Sf P ns (l.flatMap (so P ns)++r) a b
 | [],_,r,a,b,_,h=>h
 | i::l,hl,r,a,b,hb,h=>by
  rw [List.map_cons,List.sum_cons] at hb h
  rw [List.flatMap_cons,List.append_assoc]
  refine hl i (by simp) _ a b (by omega) (dBm l (fun k hk=>hl k (by simp [hk])) r (a+1) _ (by omega) ?_)
  have e1:a+1+l.length=a+(i::l).length:=by rw [List.length_cons];omega
  have e2:b-(leaves (den P ns i)).length-(l.map fun i=>(leaves (den P ns i)).length).sum=b-((leaves (den P ns i)).length+(l.map fun i=>(leaves (den P ns i)).length).sum):=by omega
  rw [e1,e2]
  exact h
theorem dGo:∀ i,i < P+ns.length→∀ r a b,(leaves (den P ns i)).length≤b→Sf P ns r (a+1) (b-(leaves (den P ns i)).length)→Sf P ns (so P ns i++r) a b:=by
 refine yc ok (fun i hi r a b hb h=>?_) fun j n hn ih r a b hb h=>?_
 ·rw [gU ns hi] at hb h
  rw [kY ns hi]
  show Sf P ns (i::r) a b
  rw [Sf,if_pos hi]
  exact ⟨hb,h⟩
 ·have e2:(leaves (den P ns (P+j))).length=(n.2.map fun i=>(leaves (den P ns i)).length).sum:=by
   rw [js ok hn]
   show (leavesIn _).length=_
   rw [g9,List.map_map]
   rfl
  rw [e2] at hb h
  rw [wA ok hn,List.append_assoc]
  refine dBm ok n.2 ih _ a b hb ?_
  show Sf P ns ((P+j)::r) _ _
  have hj:=(List.getElem?_eq_some_iff.mp hn).1
  have hd:ns.getD (P+j-P) (0,[])=n:=by rw [Nat.add_sub_cancel_left,List.getD_eq_getElem?_getD,hn];rfl
  rw [Sf,if_neg (by omega),hd,Nat.add_sub_cancel]
  exact ⟨by omega,by omega,h⟩
end
end Sp
end
section
set_option linter.all false
set_option maxRecDepth 100000
set_option maxHeartbeats 4000000
namespace Pg
open PySem PySem.Spec PyProof.Rows L2 Xc Sp
theorem dFi {P:Nat}{ns:List dI} (ok:Good P ns):∀ i,i < P+ns.length→(so P ns i).length=fsz (den P ns i):=by
 refine yc ok (fun i hi=>?_) fun j n hn ih=>?_
 ·rw [kY ns hi,gU ns hi]
  rfl
 ·rw [wA ok hn,js ok hn,List.length_append,fsz,uh,List.length_flatMap,List.map_map,Nat.add_comm]
  congr 1
  exact congrArg List.sum (List.map_congr_left fun i hi=>ih i hi)
theorem dB4 {B:Bk} (good:Good B.P B.ns) (sz:Sz B) {i:Nat} (hi:i < B.P+B.ns.length) (hl:(Rb35.leaves (den B.P B.ns i)).length≤24):(so B.P B.ns i).length≤1200000:=by
 rw [dFi good i hi]
 have h1:=dFr B.ns good i hi
 have h3:=sz.nd
 have h4:(Rb35.leaves (den B.P B.ns i)).length*(B.ns.length+1)≤24*50000:=Nat.mul_le_mul hl (by omega)
 omega
def lvS (P:Nat) (ns:List dI) (W:List Nat):Nat:=(W.map fun i=>(Rb35.leaves (den P ns i)).length).sum
def fzS (P:Nat) (ns:List dI) (W:List Nat):Nat:=(W.map fun i=>fsz (den P ns i)).sum
theorem yx {P:Nat}{ns:List dI} (good:Good P ns):∀ W:List Nat,(∀ y∈W,y < P+ns.length)→W.length≤lvS P ns W
 | [],_=>Nat.le_refl _
 | y::t,h=>by
  have h1:=yx good t fun z hz=>h z (by simp [hz])
  have h2:=wr ns good y (h y (by simp))
  unfold lvS at h1 ⊢
  rw [List.map_cons,List.sum_cons,List.length_cons]
  omega
def d8H (cs:Cs):Sp:=fun vs H Q _=>∃ (b:Addr) (A:BkA) (p:Nat) (B:Bk) (k:Nat),vs=[.ref b,.int (k:Int)]∧BookAt cs H b A p B∧Good B.P B.ns∧Sz B∧k < B.P+B.ns.length∧(Rb35.leaves (den B.P B.ns k)).length≤24 ∧
 ∀ (D:Addr) (H':Hp),H' D=some (.lst (nV (so B.P B.ns k)))→H D=none→Same H H'→Q (.ref D) H'
def d9W (cs:Cs):Sp:=fun vs H Q _=>∃ (b:Addr) (A:BkA) (p:Nat) (B:Bk) (k:Nat),vs=[.ref b,.int (k:Int)]∧BookAt cs H b A p B∧Good B.P B.ns∧Sz B∧k < B.P+B.ns.length∧(Rb35.leaves (den B.P B.ns k)).length≤24 ∧
 ∀ (D:Addr) (H':Hp),H' D=some (.lst (nV (Rb35.leaves (den B.P B.ns k))))→Same H H'→Q (.ref D) H'
def StW (H:Hp) (b sl wl:Addr) (k:Nat) (B:Bk) (m:Nat) (σ:L2.St) (H':Hp):Prop:=
 ∃ (W st:List Nat) (x4:Option V),σ=[some (.ref b),some (.int (k:Int)),some (.ref sl),some (.ref wl),x4]∧H' sl=some (.lst (nV st))∧H' wl=some (.lst (nV W))∧Same H H'∧(∀ y∈W,y < B.P+B.ns.length)∧W.flatMap (so B.P B.ns)++st.reverse=so B.P B.ns k∧lvS B.P B.ns W≤24∧m=fzS B.P B.ns W
section
variable {P:Program}{w:World}{K:PySem.W.Frag}{mg:Str→Option Value}{base:Heap}{cs:Cs}
theorem sc_steps:FnScope ["book","formula","steps","waiting","step"] ["book","formula"] (dB st_steps_of):=⟨rfl,rfl,rfl,by decide +kernel,rfl,by decide +kernel,by decide +kernel⟩
theorem dCe (T:FunT K mg "steps_of" st_steps_of) (clB:Cls K cs.boo) (naB:NoAt K cs.boo ["prime","people","nodes","lets","names"]) (clN:Cls K cs.nod) (naN:NoAt K cs.nod ["asked","within"]) (hlen:mg "len"=none)
  (IP:MetOk P w K mg base 1 cs.boo "is_person" ["self","formula"] (dD3 cs)) (NO:MetOk P w K mg base 1 cs.boo "node_of" ["self","formula"] (yk cs)):DefOk P w K mg base 2 "steps_of" ["book","formula"] (d8H cs):=by
 obtain ⟨f,fd,F,hm⟩:=T.ex
 refine ⟨f,fd,hm,F.kp,F.binds (fun _ _ _ _ _ _ us hl=>match us,hl with | [_,_],_=>rfl),okN F sc_steps (fun vs H Q E h=>?_) (fun cdv A outer s0 H vs Q E hr h=>?_)⟩
 ·obtain ⟨b,A,p,B,k,rfl,_⟩:=h
  rfl
 ·obtain ⟨b,Ad,p,B,k,rfl,R,good,sz,hk,hl24,kq⟩:=h
  obtain ⟨dx,ob⟩:=R.ob
  have hsf:=dB4 good sz hk hl24
  refine ⟨_,dA (dX (i:=2) sc_steps.nd rfl (Or.inl rfl) (jJ dD))
   (dA (dX (i:=3) sc_steps.nd rfl (Or.inl rfl) (jJ (d0 (pv 1) dD)))
   (dA (jS PassesOwn.never (dQ yq (dP dJ (by rfl) hlen PySem.boot_len (d0 (pv 3) dD)) dS (dW _))
    (dA (dX (i:=4) sc_steps.nd rfl (Or.inl rfl) (dBH PySem.F.plainAttrs_list PySem.F.slot_list_pop PySem.F.type_list_pop dE5 (pv 3)))
    (dA (dN (kZ PySem.F.plainAttrs_list PySem.F.slot_list_append PySem.F.type_list_append g7 (pv 2) (d0 (pv 4) dD)))
    (dE (gv (dB3 (uF (di (pv 0) clB IP hr dG (d0 (pv 4) dD)))) (dE (dN (kZ PySem.F.plainAttrs_list PySem.F.slot_list_extend PySem.F.type_list_extend dC3 (pv 3) (d0 (dM (di (pv 0) clB NO hr dG (d0 (pv 4) dD)) rfl) dD)))) dq)))))
   (dA (dN (dBH PySem.F.plainAttrs_list PySem.F.slot_list_reverse PySem.F.type_list_reverse dA2 (pv 2))) (dE (dZ (pv 2)))))),?_⟩
  refine ⟨by show 0≤sizeLine;decide,fun sl hsl=>?_⟩
  refine ⟨_,rfl,by show 1≤sizeLine;decide,fun wl hwl=>?_⟩
  have nsw:sl≠wl:=fun z=>by rw [←z,d9] at hwl;cases hwl
  have owl:H wl=none:=by rw [d8 nsw.symm] at hwl;exact hwl
  refine ⟨StW H b sl wl k B,⟨_,[k],[],none,rfl,?_,?_,?_,?_,?_,?_,rfl⟩,?_⟩
  ·rw [d8 nsw,d9];rfl
  ·rw [d9];rfl
  ·intro c o q
   rw [d8 (dC q owl),d8 (dC q hsl)]
   exact q
  ·intro y hy
   simp at hy
   subst hy
   exact hk
  ·rw [List.flatMap_cons,List.flatMap_nil,List.append_nil]
   simp
  ·show (Rb35.leaves (den B.P B.ns k)).length+0≤24
   omega
  rintro m σ H1 ⟨W,st,x4,rfl,h1,h2,s1,hv,hf,hz,rfl⟩
  refine ⟨_,rfl,_,_,rfl,.inl (SqL.of h2),_,_,rfl,rfl,_,rfl,ite2 (fun hc0=>?_) fun hc0=>?_⟩
  rotate_left
  ·have hW:W=[]:=by
    cases W with
    | nil=>rfl
    | cons y t=>
     refine absurd (decide_eq_true ?_) hc0
     rw [dH,List.length_cons]
     omega
   subst hW
   have e:st.reverse=so B.P B.ns k:=hf
   refine ⟨_,rfl,.inl ⟨rfl,_,SqL.of h1⟩,sl,_,rfl,rfl,h1,_,rfl,kq sl _ ?_ hsl fun c o q=>?_⟩
   ·rw [d9,←e]
    unfold nV
    rw [List.map_reverse]
   ·rw [d8 (dC q hsl)]
    exact s1 _ _ q
  ·have hW:W≠[]:=fun z=>by
    rw [z] at hc0
    exact absurd (of_decide_eq_true hc0) (by show ¬ (0:Int) < 0;decide)
   obtain ⟨W',t,rfl⟩:∃ W' t,W=W'++[t]:=⟨W.dropLast,W.getLast hW,(List.dropLast_concat_getLast hW).symm⟩
   refine ⟨fun σ' H'=>∃ m',m' < fzS B.P B.ns (W'++[t])∧StW H b sl wl k B m' σ' H',fun _ _ z=>z,?_⟩
   rw [jV] at h2
   refine ⟨_,rfl,.inl ⟨rfl,_,SqL.of h2⟩,wl,_,V.int ((t:Nat):Int),rfl,rfl,h2,?_,?_⟩
   ·rw [List.length_append,List.length_singleton,Nat.add_sub_cancel,List.getElem?_append_right (Nat.le_refl _),Nat.sub_self]
    rfl
   rw [List.dropLast_concat]
   have g1:(upd H1 wl (.lst (nV W'))) sl=some (.lst (nV st)):=by rw [d8 nsw];exact h1
   have htv:=hv t (by simp)
   have hlen2:st.length+(W'++[t]).length≤1200024:=by
    have e:=congrArg List.length hf
    rw [List.length_append,List.length_reverse] at e
    have:=yx good (W'++[t]) hv
    omega
   refine ⟨_,rfl,.inl ⟨rfl,_,SqL.of g1⟩,_,rfl,sl,_,_,rfl,rfl,g1,?_,?_⟩
   ·rw [dH]
    rw [List.length_append,List.length_singleton] at hlen2
    exact Nat.lt_of_le_of_lt (show st.length≤1200024 by omega) (by decide)
   have q1:(upd (upd H1 wl (.lst (nV W'))) sl (.lst (nV st++[V.int ((t:Nat):Int)]))) sl=some (.lst (nV (st++[t]))):=by rw [d9,jV]
   have q2:(upd (upd H1 wl (.lst (nV W'))) sl (.lst (nV st++[V.int ((t:Nat):Int)]))) wl=some (.lst (nV W')):=by rw [d8 nsw.symm,d9]
   have s2:Same H (upd (upd H1 wl (.lst (nV W'))) sl (.lst (nV st++[V.int ((t:Nat):Int)]))):=fun c o q=>by
    rw [d8 (dC q hsl),d8 (dC q owl)];exact s1 c o q
   generalize upd (upd H1 wl (.lst (nV W'))) sl (.lst (nV st++[V.int ((t:Nat):Int)]))=H2 at q1 q2 s2
   have R2:=R.keep (Kp.same s2 []) (fun x hx=>by simp at hx)
   have hvt:∀ z∈W',z < B.P+B.ns.length:=fun z hz=>hv z (by simp [hz])
   have hf':W'.flatMap (so B.P B.ns)++(so B.P B.ns t++st.reverse)=so B.P B.ns k:=by
    rw [List.flatMap_append,List.flatMap_cons,List.flatMap_nil,List.append_nil,List.append_assoc] at hf
    exact hf
   have hfz:fzS B.P B.ns (W'++[t])=fzS B.P B.ns W'+fsz (den B.P B.ns t):=by
    unfold fzS
    rw [List.map_append,List.sum_append]
    show _+(fsz _+0)=_
    omega
   have hlv:lvS B.P B.ns (W'++[t])=lvS B.P B.ns W'+(Rb35.leaves (den B.P B.ns t)).length:=by
    unfold lvS
    rw [List.map_append,List.sum_append]
    show _+((Rb35.leaves _).length+0)=_
    omega
   rw [hlv] at hz
   rw [hfz]
   refine ⟨_,rfl,b,dx,_,rfl,s2 _ _ ob,uc _ _ _ _ _ (by decide +kernel) (by decide +kernel) (by decide +kernel) (by decide +kernel) (by decide +kernel),_,rfl,b,Ad,p,B,t,rfl,R2,_,rfl,?_⟩
   refine ite2 (fun hc=>?_) fun hc=>?_
   ·have ht:¬ t < B.P:=by simpa using hc
    obtain ⟨j,hj⟩:∃ j,t=B.P+j:=⟨t-B.P,by omega⟩
    have hjl:j < B.ns.length:=by omega
    have hnj:B.ns[j]?=some B.ns[j]:=List.getElem?_eq_getElem hjl
    have hdj:Ad.nds[j]?=some (Ad.nds[j]'(by rw [R.len];exact hjl)):=List.getElem?_eq_getElem _
    generalize Ad.nds[j]'(by rw [R.len];exact hjl)=nd at hdj
    generalize B.ns[j]=nn at hnj
    obtain ⟨⟨dn,n1⟩,n2⟩:=R2.at_ j nd nn hdj hnj
    obtain ⟨hg,hg1,hg2⟩:=good j _ hnj
    have hln:(Rb35.leaves (den B.P B.ns t)).length=lvS B.P B.ns nn.2:=by
     rw [hj,js good hnj]
     show (Rb35.leavesIn _).length=_
     rw [g9,List.map_map]
     rfl
    have hfn:fsz (den B.P B.ns t)=1+fzS B.P B.ns nn.2:=by
     rw [hj,js good hnj,fsz,uh,List.map_map]
     rfl
    have hv2:∀ y∈W'++nn.2,y < B.P+B.ns.length:=fun y hy=>by
     rcases List.mem_append.mp hy with z | z
     ·exact hvt y z
     ·exact Nat.lt_of_lt_of_le (hg y z) (by omega)
    have hlw:(W'++nn.2).length≤24:=by
     have:=yx good (W'++nn.2) hv2
     have e:lvS B.P B.ns (W'++nn.2)=lvS B.P B.ns W'+lvS B.P B.ns nn.2:=by unfold lvS;rw [List.map_append,List.sum_append]
     omega
    refine ⟨_,rfl,.inl ⟨rfl,_,SqL.of q2⟩,_,rfl,b,dx,_,rfl,s2 _ _ ob,uc _ _ _ _ _ (by decide +kernel) (by decide +kernel) (by decide +kernel) (by decide +kernel) (by decide +kernel),_,rfl,b,Ad,p,B,j,nd,by rw [hj];rfl,R2,hdj,?_⟩
    refine ⟨nd.1,cs.nod,dn,_,_,rfl,n1,clN,naN _ (by simp),uC _ _,wl,nd.2,_,_,rfl,rfl,q2,n2,?_,fzS B.P B.ns (W'++nn.2),?_,W'++nn.2,st++[t],_,rfl,?_,?_,?_,hv2,?_,?_,rfl⟩
    ·rw [dH,dH]
     rw [List.length_append] at hlw
     exact Nat.le_trans hlw (by decide)
    ·unfold fzS at hfn ⊢
     rw [List.map_append,List.sum_append]
     omega
    ·rw [d8 nsw];exact q1
    ·rw [d9]
     unfold nV
     rw [List.map_append]
    ·intro c o q
     rw [d8 (dC q owl)]
     exact s2 _ _ q
    ·rw [←hf',List.flatMap_append,List.reverse_append]
     have:so B.P B.ns t=nn.2.flatMap (so B.P B.ns)++[t]:=by rw [hj];exact wA good hnj
     rw [this]
     simp
    ·have e:lvS B.P B.ns (W'++nn.2)=lvS B.P B.ns W'+lvS B.P B.ns nn.2:=by unfold lvS;rw [List.map_append,List.sum_append]
     omega
   ·have ht:t < B.P:=by simpa using hc
    have hft:fsz (den B.P B.ns t)=1:=by rw [gU B.ns ht];rfl
    refine ⟨fzS B.P B.ns W',by omega,W',st++[t],_,rfl,q1,q2,s2,hvt,?_,by omega,rfl⟩
    rw [←hf',kY B.ns ht,List.reverse_append]
    simp
theorem sc_owners:FnScope ["book","formula","step"] ["book","formula"] (dB st_owners_of):=⟨rfl,rfl,rfl,by decide +kernel,rfl,by decide +kernel,by decide +kernel⟩
theorem dBA (T:FunT K mg "owners_of" st_owners_of) (clB:Cls K cs.boo) (ST:DefOk P w K mg base 2 "steps_of" ["book","formula"] (d8H cs)) (IP:MetOk P w K mg base 1 cs.boo "is_person" ["self","formula"] (dD3 cs)):DefOk P w K mg base 3 "owners_of" ["book","formula"] (d9W cs):=by
 obtain ⟨f,fd,F,hm⟩:=T.ex
 refine ⟨f,fd,hm,F.kp,F.binds (fun _ _ _ _ _ _ us hl=>match us,hl with | [_,_],_=>rfl),okN F sc_owners (fun vs H Q E h=>?_) (fun cdv A outer s0 H vs Q E hr h=>?_)⟩
 ·obtain ⟨b,A,p,B,k,rfl,_⟩:=h
  rfl
 ·obtain ⟨b,Ad,p,B,k,rfl,R,good,sz,hk,hl24,kq⟩:=h
  obtain ⟨dx,ob⟩:=R.ob
  have hsf:=dB4 good sz hk hl24
  refine ⟨_,dE (dZ (vU rfl sc_owners.nd (gR (dj ST hr rfl dG (d0 (pv 0) (d0 (pv 1) dD)))) (gJ (own:=[("step",2)]) (by show blkC ["book","formula","step"] (dB st_owners_of) _ [("step",2)]=true;decide +kernel))
   (fun _ _ _ _ _=>du (i:=2) sc_owners.nd rfl (Or.inl rfl)) (fun _ _ _ _ _=>yz (uF (di (k:=2) (pv 0) clB (IP.mono (by decide:1≤2)) hr dG (d0 (pv 2) dD)))) (fun _ _ _ _ _=>pv 2))),?_⟩
  refine ⟨_,rfl,_,rfl,b,Ad,p,B,k,rfl,R,good,sz,hk,hl24,fun D1 H1 hD1 _ s1=>?_⟩
  refine ⟨D1,rfl,⟨_,SqL.of hD1⟩,fun D2 hD2=>?_⟩
  refine jN (xs:=nV (so B.P B.ns k)) (fun j H'=>H'=upd H1 D2 (.lst (nV (((so B.P B.ns k).take j).filter fun t=>decide (t < B.P))))) rfl ?_ ?_ ?_
  ·rintro j H' _ rfl
   exact SqL.of (by rw [d8 (dC hD1 hD2)];exact hD1)
  ·rintro j y H' hy rfl
   unfold nV at hy
   rw [List.getElem?_map] at hy
   cases hq:(so B.P B.ns k)[j]? with
   | none=>rw [hq] at hy;cases hy
   | some t=>
    rw [hq] at hy
    cases hy
    have hj:=(List.getElem?_eq_some_iff.mp hq).1
    have s2:Same H (upd H1 D2 (.lst (nV (((so B.P B.ns k).take j).filter fun t=>decide (t < B.P))))):=fun c o q=>by rw [d8 (dC (s1 _ _ q) hD2)];exact s1 _ _ q
    have R2:=R.keep (Kp.same s2 []) (fun x hx=>by simp at hx)
    refine ⟨rfl,_,rfl,b,dx,_,rfl,s2 _ _ ob,uc _ _ _ _ _ (by decide +kernel) (by decide +kernel) (by decide +kernel) (by decide +kernel) (by decide +kernel),_,rfl,b,Ad,p,B,t,rfl,R2,_,rfl,ite2 (fun hc=>?_) fun hc=>?_⟩
    ·refine ⟨_,rfl,_,d9,?_,?_⟩
     ·rw [dH]
      refine Nat.lt_of_le_of_lt (List.length_filter_le _ _) ?_
      rw [List.length_take]
      exact Nat.lt_of_le_of_lt (Nat.min_le_left _ _) (Nat.lt_of_lt_of_le hj (Nat.le_trans hsf (by decide)))
     ·rw [jL,List.take_succ,hq,Option.toList_some,List.filter_append,List.filter_cons_of_pos (p:=fun t=>decide (t < B.P)) hc,List.filter_nil,jV]
    ·show _=_
     rw [List.take_succ,hq,Option.toList_some,List.filter_append,List.filter_cons_of_neg (p:=fun t=>decide (t < B.P)) hc,List.filter_nil,List.append_nil]
  ·rintro H' rfl
   rw [dH,List.take_length,dBV good k hk]
   exact kq D2 _ d9 fun c o q=>by rw [d8 (dC (s1 _ _ q) hD2)];exact s1 _ _ q
end
end Pg
end
section
set_option linter.all false
set_option maxRecDepth 100000
set_option maxHeartbeats 4000000
namespace Pg
open PySem PySem.Spec PyProof.Rows L2 Xc Sp
def dCQ (cs:Cs):Sp:=fun vs H Q _=>∃ (b:Addr) (A:BkA) (p:Nat) (B:Bk) (k:Nat) (hl:Addr) (held:List Int),vs=[.ref b,.int (k:Int),.ref hl]∧BookAt cs H b A p B∧Good B.P B.ns∧Sz B∧k < B.P+B.ns.length∧(Rb35.leaves (den B.P B.ns k)).length≤24 ∧
 w6 p B.ns∧(∀ n∈B.ns,n.2.length≤24)∧Rb35.prime p=true∧p≤1000∧H hl=some (.lst (zV held))∧held.length=(Rb35.leaves (den B.P B.ns k)).length∧(∀ h∈held,Hd p h)∧∀ H',Same H H'→Q (.int (fnd p (den B.P B.ns k) held)) H'
theorem z4 (l:List Int) (a:Int):zV (l++[a])=zV l++[V.int a]:=by unfold zV;rw [List.map_append];rfl
section
variable {P:Program}{w:World}{K:PySem.W.Frag}{mg:Str→Option Value}{base:Heap}{cs:Cs}
theorem sc_found:FnScope ["book","formula","held","found","taken","step","node","first"] ["book","formula","held"] (dB st_found_of):=⟨rfl,rfl,rfl,by decide +kernel,rfl,by decide +kernel,by decide +kernel⟩
theorem dCx (T:FunT K mg "found_of" st_found_of) (clB:Cls K cs.boo) (naB:NoAt K cs.boo ["prime","people","nodes","lets","names"]) (clN:Cls K cs.nod) (naN:NoAt K cs.nod ["asked","within"]) (hlen:mg "len"=none) (ST:DefOk P w K mg base 2 "steps_of" ["book","formula"] (d8H cs))
  (IP:MetOk P w K mg base 1 cs.boo "is_person" ["self","formula"] (dD3 cs)) (NO:MetOk P w K mg base 1 cs.boo "node_of" ["self","formula"] (yk cs)) (FN:DefOk P w K mg base 3 "found_of_node" ["found","asked","prime"] dAf):DefOk P w K mg base 4 "found_of" ["book","formula","held"] (dCQ cs):=by
 obtain ⟨f,fd,F,hm⟩:=T.ex
 refine ⟨f,fd,hm,F.kp,F.binds (fun _ _ _ _ _ _ us hl=>match us,hl with | [_,_,_],_=>rfl),okN F sc_found (fun vs H Q E h=>?_) (fun cdv A outer s0 H vs Q E hr h=>?_)⟩
 ·obtain ⟨b,A,p,B,k,hl,held,rfl,_⟩:=h
  rfl
 ·obtain ⟨b,Ad,p,B,k,hl,held,rfl,R,good,sz,hk,hl24,hnar,hwid,hp,hp2,hhl,hheld,hhd,kq⟩:=h
  obtain ⟨dx,ob⟩:=R.ob
  have hp3:=gF hp
  have hsf:=dB4 good sz hk hl24
  refine ⟨_,dA (dX (i:=3) sc_found.nd rfl (Or.inl rfl) (jJ dD))
   (dA (dX (i:=4) sc_found.nd rfl (Or.inl rfl) dS)
   (dA (yK PassesOwn.never rfl (gR (dj (ST.mono (by decide:2≤3)) hr rfl dG (d0 (pv 0) (d0 (pv 1) dD)))) (du (i:=5) sc_found.nd rfl (Or.inl rfl))
    (dE (gv (uF (di (pv 0) clB (IP.mono (by decide:1≤3)) hr dG (d0 (pv 5) dD)))
     (dA (dN (kZ PySem.F.plainAttrs_list PySem.F.slot_list_append PySem.F.type_list_append g7 (pv 3) (d0 (je gj (pv 2) (pv 4) (fun _ _=>rfl)) dD))) (dE (d9B (i:=4) sc_found.nd rfl (Or.inl rfl) dS d9d)))
     (dA (dX (i:=6) sc_found.nd rfl (Or.inl rfl) (di (pv 0) clB (NO.mono (by decide:1≤3)) hr dG (d0 (pv 5) dD)))
     (dA (dX (i:=7) sc_found.nd rfl (Or.inl rfl) (jT wq (dP dJ (by rfl) hlen PySem.boot_len (d0 (pv 3) dD)) (dP dJ (by rfl) hlen PySem.boot_len (d0 (dM (pv 6) rfl) dD))))
     (dE (dX (i:=3) sc_found.nd rfl (Or.inl rfl) (jT dGP (uu z3 (pv 3) yh (vE (pv 7))) (jJ (d0 (dj FN hr rfl dG (d0 (uu z3 (pv 3) (vE (pv 7)) yh) (d0 (dM (pv 6) rfl) (d0 (dM (pv 0) rfl) dD)))) dD))))))))))
   (dE (dZ (je gj (pv 3) dS (fun _ _=>rfl)))))),?_⟩
  refine ⟨by show 0≤sizeLine;decide,fun f0 hf0=>?_⟩
  have s0:Same H (upd H f0 (.lst [])):=fun c o q=>by rw [d8 (dC q hf0)];exact q
  have R0:=R.keep (Kp.same s0 []) (fun x hx=>by simp at hx)
  refine ⟨_,rfl,_,rfl,b,Ad,p,B,k,rfl,R0,good,sz,hk,hl24,fun D1 H1 hD1 nD1 s1=>?_⟩
  have nDf:f0≠D1:=fun z=>by rw [←z,d9] at nD1;cases nD1
  refine ⟨D1,rfl,⟨_,SqL.of hD1⟩,?_⟩
  have hH1f:H1 f0=some (.lst []):=s1 _ _ d9
  refine ue (xs:=nV (so B.P B.ns k)) (fun i σ H'=>∃ (fl:Addr) (st:List Int) (tk:Nat) (x5 x6 x7:Option V),σ=[some (.ref b),some (.int (k:Int)),some (.ref hl),some (.ref fl),some (.int (tk:Int)),x5,x6,x7]∧H' fl=some (.lst (zV st))∧H fl=none∧fl≠D1 ∧
    ((so B.P B.ns k).take i).foldl (stp B.P B.ns p) ([],held)=(st,held.drop tk)∧tk≤held.length∧Sf B.P B.ns ((so B.P B.ns k).drop i) st.length (held.length-tk)∧(∀ v∈st,Vd p v)∧st.length≤i∧Same H H'∧H' D1=some (.lst (nV (so B.P B.ns k))))
   ⟨f0,[],0,none,none,none,rfl,hH1f,hf0,nDf,rfl,Nat.zero_le _,?_,fun v hv=>by simp at hv,Nat.le_refl _,s0.trans s1,hD1⟩ ?_ ?_ ?_
  ·have:=dGo good k hk [] 0 held.length (by omega) trivial
   rw [List.append_nil] at this
   exact this
  ·rintro i σ H' _ ⟨fl,st,tk,x5,x6,x7,_,_,_,_,_,_,_,_,_,_,hD⟩
   exact SqL.of hD
  ·rintro i y σ H' hy ⟨fl,st,tk,x5,x6,x7,rfl,h1,nfl,nfD,hrun,htk,hsf2,hvd,hsl,s2,hDD⟩
   unfold nV at hy
   rw [List.getElem?_map] at hy
   cases hq:(so B.P B.ns k)[i]? with
   | none=>rw [hq] at hy;cases hy
   | some t=>
    rw [hq] at hy
    cases hy
    have hi:=(List.getElem?_eq_some_iff.mp hq).1
    have hdr:(so B.P B.ns k).drop i=t::(so B.P B.ns k).drop (i+1):=by
     rw [List.drop_eq_getElem_cons hi]
     congr 1
     exact (List.getElem?_eq_some_iff.mp hq).2
    have hfo:((so B.P B.ns k).take (i+1)).foldl (stp B.P B.ns p) ([],held)=stp B.P B.ns p (st,held.drop tk) t:=by
     rw [List.take_succ,hq,Option.toList_some,List.foldl_append,hrun]
     rfl
    rw [hdr,Sf] at hsf2
    have R2:=R.keep (Kp.same s2 []) (fun x hx=>by simp at hx)
    refine ⟨_,rfl,b,dx,_,rfl,s2 _ _ ob,uc _ _ _ _ _ (by decide +kernel) (by decide +kernel) (by decide +kernel) (by decide +kernel) (by decide +kernel),_,rfl,b,Ad,p,B,t,rfl,R2,_,rfl,ite2 (fun hc=>?_) fun hc=>?_⟩
    ·have ht:t < B.P:=of_decide_eq_true hc
     rw [if_pos ht] at hsf2
     have htl:tk < held.length:=by omega
     have hat:held[tk]?=some held[tk]:=List.getElem?_eq_getElem htl
     have hh:=hhd _ (List.getElem_mem htl)
     generalize held[tk]=hv at hat hh
     have hat2:(zV held)[tk]?=some (V.int hv):=by unfold zV;rw [List.getElem?_map,hat];rfl
     refine ⟨_,rfl,.inl ⟨rfl,_,SqL.of h1⟩,_,rfl,_,rfl,hl,_,_,_,rfl,rfl,SqL.of (s2 _ _ hhl),uP (j:=tk) rfl hat2,fl,_,_,rfl,rfl,h1,?_,_,rfl,_,_,rfl,rfl,fl,st++[hv],tk+1,some (V.int ((t:Nat):Int)),x6,x7,?_,?_,nfl,nfD,?_,by omega,?_,?_,?_,?_,?_⟩
     ·rw [gT]
      exact Nat.lt_of_le_of_lt (show st.length≤1200000 by omega) (by decide)
     ·show _=[_,_,_,_,some (V.int ((tk+1:Nat):Int)),_,_,_]
      rw [Int.natCast_add]
      rfl
     ·rw [d9,z4]
     ·rw [hfo]
      unfold stp
      rw [if_pos ht]
      have hd2:held.drop tk=hv::held.drop (tk+1):=by
       rw [List.drop_eq_getElem_cons htl]
       congr 1
       exact (List.getElem?_eq_some_iff.mp hat).2
      rw [hd2]
      rfl
     ·rw [List.length_append,List.length_singleton]
      have e:held.length-(tk+1)=held.length-tk-1:=by omega
      rw [e]
      exact hsf2.2
     ·intro v hv'
      rcases List.mem_append.mp hv' with z | z
      ·exact hvd v z
      ·simp at z
       rw [z]
       rcases hh with y | y
       ·exact .inr (.inl y)
       ·exact .inr (.inr y)
     ·rw [List.length_append,List.length_singleton];omega
     ·intro c o q
      rw [d8 (dC q nfl)]
      exact s2 _ _ q
     ·rw [d8 nfD.symm];exact hDD
    ·have ht:¬ t < B.P:=fun z=>hc (decide_eq_true z)
     rw [if_neg ht] at hsf2
     obtain ⟨hta,hwd,hsf3⟩:=hsf2
     obtain ⟨j,hj⟩:∃ j,t=B.P+j:=⟨t-B.P,by omega⟩
     have hjl:j < B.ns.length:=by omega
     have hnj:B.ns[j]?=some B.ns[j]:=List.getElem?_eq_getElem hjl
     have hnm:=List.getElem_mem hjl
     have hdj:Ad.nds[j]?=some (Ad.nds[j]'(by rw [R.len];exact hjl)):=List.getElem?_eq_getElem _
     generalize Ad.nds[j]'(by rw [R.len];exact hjl)=nd at hdj
     generalize B.ns[j]=nn at hnj hnm
     have hgd:B.ns.getD (t-B.P) (0,[])=nn:=by rw [hj,Nat.add_sub_cancel_left,List.getD_eq_getElem?_getD,hnj];rfl
     rw [hgd] at hwd hsf3
     obtain ⟨⟨dn,n1⟩,n2⟩:=R2.at_ j nd nn hdj hnj
     have hn1:=hnar nn hnm
     have hn2:=hwid nn hnm
     refine ⟨_,rfl,b,dx,_,rfl,s2 _ _ ob,uc _ _ _ _ _ (by decide +kernel) (by decide +kernel) (by decide +kernel) (by decide +kernel) (by decide +kernel),_,rfl,b,Ad,p,B,j,nd,by rw [hj];rfl,R2,hdj,?_⟩
     refine ⟨_,rfl,_,_,rfl,.inl (SqL.of h1),_,rfl,nd.1,cs.nod,dn,_,_,rfl,n1,clN,naN _ (by simp),uC _ _,_,_,rfl,.inl (SqL.of n2),_,_,rfl,rfl,?_⟩
     have efst:(((zV st).length:Nat):Int)-(((nV nn.2).length:Nat):Int)=((st.length-nn.2.length:Nat):Int):=by rw [gT,dH];omega
     dsimp only
     rw [efst]
     refine ⟨_,rfl,_,rfl,_,rfl,fl,_,rfl,SqL.of h1,fun c1 hc1=>?_⟩
     rw [dDi]
     have e1:(zV st).take (st.length-nn.2.length)=zV (st.take (st.length-nn.2.length)):=by unfold zV;rw [List.map_take]
     rw [e1]
     have s3:Same H' (upd H' c1 (.lst (zV (st.take (st.length-nn.2.length))))):=fun c o q=>by rw [d8 (dC q hc1)];exact q
     have hC1:(upd H' c1 (.lst (zV (st.take (st.length-nn.2.length))))) c1=some (.lst (zV (st.take (st.length-nn.2.length)))):=d9
     generalize upd H' c1 (.lst (zV (st.take (st.length-nn.2.length))))=H3 at s3 hC1
     refine ⟨_,rfl,_,rfl,_,rfl,fl,_,rfl,SqL.of (s3 _ _ h1),fun c2 hc2=>?_⟩
     rw [d9b]
     have e2:(zV st).drop (st.length-nn.2.length)=zV (st.drop (st.length-nn.2.length)):=by unfold zV;rw [List.map_drop]
     rw [e2]
     have s4:Same H3 (upd H3 c2 (.lst (zV (st.drop (st.length-nn.2.length))))):=fun c o q=>by rw [d8 (dC q hc2)];exact q
     have hC2:(upd H3 c2 (.lst (zV (st.drop (st.length-nn.2.length))))) c2=some (.lst (zV (st.drop (st.length-nn.2.length)))):=d9
     generalize upd H3 c2 (.lst (zV (st.drop (st.length-nn.2.length))))=H4 at s4 hC2
     have hvl:(st.drop (st.length-nn.2.length)).length=nn.2.length:=by rw [List.length_drop];omega
     refine ⟨_,rfl,nd.1,cs.nod,dn,_,_,rfl,s4 _ _ (s3 _ _ n1),clN,naN _ (by simp),dAn _ _,_,rfl,b,cs.boo,dx,_,_,rfl,s4 _ _ (s3 _ _ (s2 _ _ ob)),clB,naB _ (by simp),wH _ _ _ _ _,c2,_,nn.1,p,rfl,hC2,hp,hp2,fun v hv=>hvd v (List.mem_of_mem_drop hv),by omega,by omega,fun H5 s5=>?_⟩
     refine ⟨by show 1≤sizeLine;decide,fun c3 hc3=>?_⟩
     have hC1':H5 c1=some (.lst (zV (st.take (st.length-nn.2.length)))):=s5 _ _ (s4 _ _ hC1)
     have n13:c1≠c3:=dC hC1' hc3
     refine ⟨c1,c3,_,_,rfl,rfl,by rw [d8 n13];exact hC1',d9,?_,fun c4 hc4=>?_⟩
     ·rw [gT,List.length_take]
      exact Nat.le_trans (show _+1≤1200001 by omega) (by decide)
     have s6:Same H5 (upd (upd H5 c3 (.lst [V.int (jx p nn.1 (st.drop (st.length-nn.2.length)))])) c4 (.lst (zV (st.take (st.length-nn.2.length))++[V.int (jx p nn.1 (st.drop (st.length-nn.2.length)))]))):=fun c o q=>by
      have z1:=dC q hc3
      have z2:c≠c4:=fun z=>by rw [←z,d8 z1,q] at hc4;cases hc4
      rw [d8 z2,d8 z1]
      exact q
     have s7:Same H H5:=s2.trans (s3.trans (s4.trans s5))
     refine ⟨c4,st.take (st.length-nn.2.length)++[jx p nn.1 (st.drop (st.length-nn.2.length))],tk,_,_,_,rfl,?_,?_,?_,?_,htk,?_,?_,?_,s7.trans s6,?_⟩
     ·rw [d9,z4]
     ·cases hH:H c4 with
      | none=>rfl
      | some o=>
       have q:=s7 _ _ hH
       have z1:=dC q hc3
       rw [d8 z1,q] at hc4
       cases hc4
     ·intro z
      have q:=s5 _ _ (s4 _ _ (s3 _ _ hDD))
      have z1:=dC q hc3
      rw [z,d8 z1,q] at hc4
      cases hc4
     ·rw [hfo]
      unfold stp
      rw [if_neg ht,hgd]
     ·rw [List.length_append,List.length_singleton,List.length_take]
      have e:min (st.length-nn.2.length) st.length+1=st.length-nn.2.length+1:=by omega
      rw [e]
      exact hsf3
     ·intro v hv'
      rcases List.mem_append.mp hv' with z | z
      ·exact hvd v (List.mem_of_mem_take z)
      ·simp at z
       rw [z]
       exact d9E (by omega)
     ·rw [List.length_append,List.length_singleton,List.length_take]
      have:=(good j nn hnj).2
      omega
     ·exact s6 _ _ (s5 _ _ (s4 _ _ (s3 _ _ hDD)))
  ·rintro σ H' ⟨fl,st,tk,x5,x6,x7,rfl,h1,nfl,nfD,hrun,htk,hsf2,hvd,hsl,s2,hDD⟩
   rw [dH,List.take_length,dFZ good p k hk,List.nil_append] at hrun
   have e1:st=[fnd p (den B.P B.ns k) (held.take (Rb35.leaves (den B.P B.ns k)).length)]:=(congrArg Prod.fst hrun).symm
   rw [←hheld,List.take_length] at e1
   subst e1
   exact ⟨_,rfl,fl,_,_,_,rfl,rfl,SqL.of h1,uP (j:=0) rfl rfl,kq H' s2⟩
end
end Pg
end
section
set_option linter.all false
set_option maxRecDepth 100000
set_option maxHeartbeats 4000000
namespace Pg
open PySem PySem.Spec PyProof.Rows L2 Xc Sp
theorem bitN (m i:Nat):Builtin.bitAnd ((m:Int) / 2 ^ ((i:Nat):Int).toNat) 1=(((if m.testBit i=true then 1 else 0:Nat)):Int):=by
 rw [Int.toNat_natCast,PyProof.Rows.bitAnd_m1,Nat.testBit_eq_decide_div_mod_eq]
 have e:((m:Int) / 2 ^ i)%2=((m / 2 ^ i%2:Nat):Int):=by norm_cast
 rw [e]
 by_cases h:m / 2 ^ i%2=1
 ·rw [decide_eq_true h,if_pos rfl,h]
 ·rw [decide_eq_false h,if_neg (by decide)]
  have:=Nat.mod_two_eq_zero_or_one (m / 2 ^ i)
  omega
theorem dC1 (m i:Nat):decide (V.int (Builtin.bitAnd ((m:Int) / 2 ^ ((i:Nat):Int).toNat) 1)=V.int 1)=m.testBit i:=by
 rw [jj,bitN]
 cases m.testBit i <;> rfl
def dE1 (K:PySem.W.Frag):Sp:=fun vs H Q _=>∃ (m:Nat) (ol:Addr) (os:List Nat) (pl:Addr) (w:List Nat),vs=[.int (m:Int),.ref ol,.ref pl]∧H ol=some (.lst (nV os))∧SqL K H pl (nV w)∧w.length=(g0 m os).length∧os.length≤1000∧∀ (D:Addr) (H':Hp),H' D=some (.lst (zV (gu m os w)))→Same H H'→Q (.ref D) H'
def d9Q (K:PySem.W.Frag) (cs:Cs) (tm:Addr):Sp:=fun vs H Q E=>∃ (b:Addr) (A:BkA) (p:Nat) (B:Bk) (k m:Nat) (pl:Addr) (w:List Nat),vs=[.ref b,.int (k:Int),.int (m:Int),.ref pl]∧BookAt cs H b A p B∧Good B.P B.ns∧Sz B∧k < B.P+B.ns.length∧(Rb35.leaves (den B.P B.ns k)).length≤24 ∧
 w6 p B.ns∧(∀ n∈B.ns,n.2.length≤24)∧Rb35.prime p=true∧p≤1000∧SqL K H pl (nV w)∧w.length≤600 ∧
 (Rb35.fits p (g0 m (Rb35.leaves (den B.P B.ns k))).length w=true→∀ H',Same H H'→Q (.int (fnd p (den B.P B.ns k) (gu m (Rb35.leaves (den B.P B.ns k)) w))) H')∧(¬ Rb35.fits p (g0 m (Rb35.leaves (den B.P B.ns k))).length w=true→Thr E tm (-3))
theorem d9X {p n:Nat}{r:List Nat} (h:Rb35.fits p n r=true):r.length=n∧∀ c∈r,c < p:=by
 unfold Rb35.fits at h
 rw [Bool.and_eq_true,decide_eq_true_iff,List.all_eq_true] at h
 exact ⟨h.1,fun c hc=>of_decide_eq_true (h.2 c hc)⟩
section
variable {P:Program}{w:World}{K:PySem.W.Frag}{mg:Str→Option Value}{base:Heap}{cs:Cs}{tm:Addr}
theorem sc_held:FnScope ["who","owners","parts","held","taken","owner"] ["who","owners","parts"] (dB st_held_by):=⟨rfl,rfl,rfl,by decide +kernel,rfl,by decide +kernel,by decide +kernel⟩
theorem dEX (T:FunT K mg "held_by" st_held_by) (hMA:∃ t,mg "MANY_SECRETS"=some (.int (-6) t)):DefOk P w K mg base 1 "held_by" ["who","owners","parts"] (dE1 K):=by
 obtain ⟨f,fd,F,hm⟩:=T.ex
 obtain ⟨tM,hMA⟩:=hMA
 refine ⟨f,fd,hm,F.kp,F.binds (fun _ _ _ _ _ _ us hl=>match us,hl with | [_,_,_],_=>rfl),okN F sc_held (fun vs H Q E h=>?_) (fun cdv A outer s0 H vs Q E hr h=>?_)⟩
 ·obtain ⟨m,ol,os,pl,w,rfl,_⟩:=h
  rfl
 ·obtain ⟨m,ol,os,pl,w,rfl,hol,hpl,hw,hz,kq⟩:=h
  refine ⟨_,dA (dX (i:=3) sc_held.nd rfl (Or.inl rfl) (jJ dD))
   (dA (dX (i:=4) sc_held.nd rfl (Or.inl rfl) dS)
   (dA (yK PassesOwn.never rfl (gR (pv 1)) (du (i:=5) sc_held.nd rfl (Or.inl rfl))
    (dE (gv (dQ kL (jT dDr (jT dBz (pv 0) (pv 5)) dS) dS (dW _))
     (dA (dN (kZ PySem.F.plainAttrs_list PySem.F.slot_list_append PySem.F.type_list_append g7 (pv 3) (d0 (je gj (pv 2) (pv 4) (fun _ _=>rfl)) dD))) (dE (d9B (i:=4) sc_held.nd rfl (Or.inl rfl) dS d9d)))
     (dE (dN (kZ PySem.F.plainAttrs_list PySem.F.slot_list_append PySem.F.type_list_append g7 (pv 3) (d0 (da (v:=.int (-6)) (by rfl) hMA ⟨tM,rfl⟩) dD)))))))
   (dE (dZ (pv 3))))),?_⟩
  refine ⟨by show 0≤sizeLine;decide,fun D hD=>?_⟩
  have s0:Same H (upd H D (.lst [])):=fun c o q=>by rw [d8 (dC q hD)];exact q
  refine ⟨_,rfl,ol,rfl,⟨_,SqL.of (s0 _ _ hol)⟩,?_⟩
  refine ue (xs:=nV os) (fun i σ H'=>∃ (hs:List Int) (tk:Nat) (x5:Option V),σ=[some (.int (m:Int)),some (.ref ol),some (.ref pl),some (.ref D),some (.int (tk:Int)),x5]∧H' D=some (.lst (zV hs))∧hs++gu m (os.drop i) (w.drop tk)=gu m os w∧(w.drop tk).length=(g0 m (os.drop i)).length∧hs.length=i∧Same H H')
   ⟨[],0,none,rfl,d9,rfl,hw,rfl,s0⟩ ?_ ?_ ?_
  ·rintro i σ H' _ ⟨_,_,_,_,_,_,_,_,s1⟩
   exact SqL.of (s1 _ _ hol)
  ·rintro i y σ H' hy ⟨hs,tk,x5,rfl,h1,h2,h3,h4,s1⟩
   unfold nV at hy
   rw [List.getElem?_map] at hy
   cases hq:os[i]? with
   | none=>rw [hq] at hy;cases hy
   | some o=>
    rw [hq] at hy
    cases hy
    have hi:=(List.getElem?_eq_some_iff.mp hq).1
    have hdr:os.drop i=o::os.drop (i+1):=by
     rw [List.drop_eq_getElem_cons hi]
     congr 1
     exact (List.getElem?_eq_some_iff.mp hq).2
    have hlz:(zV hs).length < sizeLine:=by
     rw [gT]
     exact Nat.lt_of_lt_of_le (show hs.length < 1001 by omega) (by decide)
    rw [hdr] at h2 h3
    refine ⟨_,rfl,_,rfl,_,_,rfl,rfl,by omega,_,_,rfl,rfl,rfl,_,rfl,?_⟩
    show if decide (V.int (Builtin.bitAnd ((m:Int) / 2 ^ ((o:Nat):Int).toNat) 1)=V.int 1)=true then _ else _
    rw [dC1]
    refine ite2 (fun hc=>?_) fun hc=>?_
    ·unfold g0 at h3
     rw [List.filter_cons_of_pos (p:=fun o=>m.testBit o) hc,List.length_cons] at h3
     have htk:tk < w.length:=by
      rw [List.length_drop] at h3
      omega
     have hat:w[tk]?=some w[tk]:=List.getElem?_eq_getElem htk
     have hd2:w.drop tk=w[tk]::w.drop (tk+1):=List.drop_eq_getElem_cons htk
     generalize w[tk]=a at hat hd2
     rw [hd2] at h2 h3
     have hat2:(nV w)[tk]?=some (V.int ((a:Nat):Int)):=by unfold nV;rw [List.getElem?_map,hat];rfl
     rw [gu,if_pos hc] at h2
     refine ⟨_,rfl,.inl ⟨rfl,_,SqL.of h1⟩,_,rfl,_,rfl,pl,_,_,_,rfl,rfl,d4r s1 hpl,uP (j:=tk) rfl hat2,D,_,_,rfl,rfl,h1,hlz,_,rfl,_,_,rfl,rfl,hs++[((a:Nat):Int)],tk+1,some (V.int ((o:Nat):Int)),?_,?_,?_,?_,?_,?_⟩
     ·show _=[_,_,_,_,some (V.int ((tk+1:Nat):Int)),_]
      rw [Int.natCast_add]
      rfl
     ·rw [d9,z4]
     ·rw [←h2,List.append_assoc]
      rfl
     ·have:=Nat.succ.inj h3
      exact this
     ·rw [List.length_append,List.length_singleton,h4]
     ·intro c o q
      rw [d8 (dC q hD)]
      exact s1 _ _ q
    ·unfold g0 at h3
     rw [List.filter_cons_of_neg (p:=fun o=>m.testBit o) hc] at h3
     rw [gu,if_neg hc] at h2
     refine ⟨_,rfl,.inl ⟨rfl,_,SqL.of h1⟩,D,_,_,rfl,rfl,h1,hlz,hs++[-6],tk,_,rfl,?_,?_,h3,?_,?_⟩
     ·rw [d9,z4]
     ·rw [←h2,List.append_assoc]
      rfl
     ·rw [List.length_append,List.length_singleton,h4]
     ·intro c o q
      rw [d8 (dC q hD)]
      exact s1 _ _ q
  ·rintro σ H' ⟨hs,tk,x5,rfl,h1,h2,h3,h4,s1⟩
   rw [dH,List.drop_length,gu,List.append_nil] at h2
   rw [h2] at h1
   exact ⟨_,rfl,kq D H' h1 s1⟩
theorem sc_opened:FnScope ["book","formula","who","parts","owners","theirs","owner"] ["book","formula","who","parts"] (dB st_opened):=⟨rfl,rfl,rfl,by decide +kernel,rfl,by decide +kernel,by decide +kernel⟩
theorem dAm (T:FunT K mg "opened" st_opened) (hlen:mg "len"=none) (OW:DefOk P w K mg base 3 "owners_of" ["book","formula"] (d9W cs)) (KN:DefOk P w K mg base 4 "keep_numbers" ["book","numbers","count"] (dCD K cs tm)) (HB:DefOk P w K mg base 1 "held_by" ["who","owners","parts"] (dE1 K)) (FO:DefOk P w K mg base 4 "found_of" ["book","formula","held"] (dCQ cs)) :
  DefOk P w K mg base 5 "opened" ["book","formula","who","parts"] (d9Q K cs tm):=by
 obtain ⟨f,fd,F,hm⟩:=T.ex
 refine ⟨f,fd,hm,F.kp,F.binds (fun _ _ _ _ _ _ us hl=>match us,hl with | [_,_,_,_],_=>rfl),okX F sc_opened (fun vs H Q E h=>?_) (fun cdv A outer s0 H vs Q E hr h=>?_)⟩
 ·obtain ⟨b,A,p,B,k,m,pl,w,rfl,_⟩:=h
  rfl
 ·obtain ⟨b,Ad,p,B,k,m,pl,w,rfl,R,good,sz,hk,hl24,hnar,hwid,hp,hp2,hpl,hw6,kq,kx⟩:=h
  refine ⟨_,dA (dX (i:=4) sc_opened.nd rfl (Or.inl rfl) (dj (OW.mono (by decide:3≤4)) hr rfl dG (d0 (pv 0) (d0 (pv 1) dD))))
   (dA (yR (i:=5) rfl sc_opened.nd rfl rfl (d83 rfl rfl rfl (by decide +kernel)) (gR (pv 4)) (gJ (own:=[("owner",6)]) (by show blkC ["book","formula","who","parts","owners","theirs","owner"] (dB st_opened) _ [("owner",6)]=true;decide +kernel))
    (fun _ _ _ _ _=>du (i:=6) sc_opened.nd rfl (Or.inl rfl)) (fun _ _ _ _ _=>yz (dQ kL (jT dDr (jT dBz (pv 2) (pv 6)) dS) dS (dW _))) (fun _ _ _ _ _=>pv 6))
   (dA (dN (dj KN hr rfl dY (d0 (pv 0) (d0 (pv 3) (d0 (dP dJ (by rfl) hlen PySem.boot_len (d0 (pv 5) dD)) dD)))))
   (dE (dZ (dj FO hr rfl dG (d0 (pv 0) (d0 (pv 1) (d0 (dj (HB.mono (by decide:1≤4)) hr rfl dG (d0 (pv 2) (d0 (pv 4) (d0 (pv 3) dD)))) dD)))))))),?_⟩
  refine ⟨_,rfl,_,rfl,b,Ad,p,B,k,rfl,R,good,sz,hk,hl24,fun D1 H1 hD1 s1=>?_⟩
  refine ⟨_,rfl,D1,rfl,⟨_,SqL.of hD1⟩,fun D2 hD2=>?_⟩
  refine jN (xs:=nV (Rb35.leaves (den B.P B.ns k))) (fun j H'=>H'=upd H1 D2 (.lst (nV (g0 m ((Rb35.leaves (den B.P B.ns k)).take j))))) rfl ?_ ?_ ?_
  ·rintro j H' _ rfl
   exact SqL.of (by rw [d8 (dC hD1 hD2)];exact hD1)
  ·rintro j y H' hy rfl
   unfold nV at hy
   rw [List.getElem?_map] at hy
   cases hq:(Rb35.leaves (den B.P B.ns k))[j]? with
   | none=>rw [hq] at hy;cases hy
   | some o=>
    rw [hq] at hy
    cases hy
    have hj:=(List.getElem?_eq_some_iff.mp hq).1
    refine ⟨rfl,_,rfl,_,rfl,_,_,rfl,rfl,by omega,_,_,rfl,rfl,rfl,_,rfl,?_⟩
    show if decide (V.int (Builtin.bitAnd ((m:Int) / 2 ^ ((o:Nat):Int).toNat) 1)=V.int 1)=true then _ else _
    rw [dC1]
    refine ite2 (fun hc=>?_) fun hc=>?_
    ·refine ⟨_,rfl,_,d9,?_,?_⟩
     ·rw [dH]
      unfold g0
      refine Nat.lt_of_le_of_lt (List.length_filter_le _ _) ?_
      rw [List.length_take]
      exact Nat.lt_of_le_of_lt (Nat.min_le_left _ _) (Nat.lt_of_lt_of_le hj (Nat.le_trans hl24 (by decide)))
     ·unfold g0
      rw [jL,List.take_succ,hq,Option.toList_some,List.filter_append,List.filter_cons_of_pos (p:=fun o=>m.testBit o) hc,List.filter_nil,jV]
    ·show _=_
     unfold g0
     rw [List.take_succ,hq,Option.toList_some,List.filter_append,List.filter_cons_of_neg (p:=fun o=>m.testBit o) hc,List.filter_nil,List.append_nil]
  ·rintro H' rfl
   rw [dH,List.take_length]
   have s2:Same H1 (upd H1 D2 (.lst (nV (g0 m (Rb35.leaves (den B.P B.ns k)))))):=fun c o q=>by rw [d8 (dC q hD2)];exact q
   have hD2':(upd H1 D2 (.lst (nV (g0 m (Rb35.leaves (den B.P B.ns k)))))) D2=some (.lst (nV (g0 m (Rb35.leaves (den B.P B.ns k))))):=d9
   generalize upd H1 D2 (.lst (nV (g0 m (Rb35.leaves (den B.P B.ns k)))))=H2 at s2 hD2'
   have s3:=s1.trans s2
   have R3:=R.keep (Kp.same s3 []) (fun x hx=>by simp at hx)
   refine ⟨_,rfl,_,rfl,_,rfl,_,_,rfl,.inl (SqL.of hD2'),b,Ad,p,B,pl,w,(g0 m (Rb35.leaves (den B.P B.ns k))).length,by rw [dH];rfl,R3,d4r s3 hpl,hw6,fun hf H3 s4=>?_,fun hf=>kx hf⟩
   obtain ⟨f1,f2⟩:=d9X hf
   have s5:=s3.trans s4
   have R5:=R.keep (Kp.same s5 []) (fun x hx=>by simp at hx)
   refine ⟨_,rfl,_,rfl,_,rfl,_,rfl,_,rfl,m,D1,_,pl,w,rfl,s4 _ _ (s2 _ _ hD1),d4r s5 hpl,f1,Nat.le_trans hl24 (by decide),fun D6 H6 h6 s6=>?_⟩
   have s7:=s5.trans s6
   have R7:=R.keep (Kp.same s7 []) (fun x hx=>by simp at hx)
   exact ⟨b,Ad,p,B,k,D6,_,rfl,R7,good,sz,hk,hl24,hnar,hwid,hp,hp2,h6,ud _ _ _,uy m p _ _ f1 f2,fun H8 s8=>kq hf H8 (s7.trans s8)⟩
end
end Pg
end
section
set_option linter.all false
namespace Pg
open Sp
theorem dBj {G:Rb35.Prog}{B:Bk}{i:Int}{k:Nat} (h:G.lets=B.known.lets) (h0:0≤i) (hk:(B.ls.map (·.2))[i.toNat]?=some k):Rb35.formAt G i=some (den B.P B.ns k):=by
 unfold Rb35.formAt
 rw [if_neg (by omega),h]
 show ((B.ls.map fun x=>(x.1,den B.P B.ns x.2))[i.toNat]?).map _=_
 rw [List.getElem?_map] at hk ⊢
 cases q:B.ls[i.toNat]? with
 | none=>rw [q] at hk;cases hk
 | some x=>rw [q] at hk;cases hk;rfl
theorem dEq {G:Rb35.Prog}{B:Bk}{i:Int} (h:G.lets=B.known.lets) (hn:¬ (0≤i∧i.toNat < B.ls.length)):Rb35.formAt G i=none:=by
 unfold Rb35.formAt
 by_cases h0:i < 0
 ·rw [if_pos h0]
 ·rw [if_neg h0,h]
  show ((B.ls.map fun x=>(x.1,den B.P B.ns x.2))[i.toNat]?).map _=_
  rw [List.getElem?_eq_none (by rw [List.length_map];exact Nat.le_of_not_lt fun z=>hn ⟨by omega,z⟩)]
  rfl
theorem dEs {G:Rb35.Prog}{B:Bk}{m:Int} (h:G.people=B.people):Rb35.some_of G m=true↔0≤m∧m.toNat < 2 ^ B.P:=by
 unfold Rb35.some_of Rb35.inRange Rb35.crowd
 rw [h,Bool.and_eq_true,decide_eq_true_iff,decide_eq_true_iff]
 have:=Nat.two_pow_pos B.people.length
 show _↔0≤m∧m.toNat < 2 ^ B.people.length
 omega
theorem dAT {text:List Int} (h:Rb35Neutral.text (text.length:Int) text=true):(∀ b∈text.map Int.toNat,b < 256)∧text.length≤600∧(∀ x∈text,0≤x)∧Rb35.inRange 0 (text.length:Int) 65536=true:=by
 unfold Rb35Neutral.text at h
 simp only [Bool.and_eq_true,decide_eq_true_eq,List.all_eq_true] at h
 obtain ⟨_,h2,_,h3,_⟩:=h
 have nat:∀ x∈text,0≤x∧x < 256:=fun x hx=>by
  have:=h2 x hx
  unfold Rb35Neutral.natural at this
  simp only [Bool.and_eq_true,decide_eq_true_eq] at this
  exact ⟨this.1,by have:=this.2;omega⟩
 refine ⟨fun b hb=>?_,h3,fun x hx=>(nat x hx).1,?_⟩
 ·obtain ⟨x,hx,rfl⟩:=List.mem_map.mp hb
  have:=nat x hx
  omega
 ·unfold Rb35.inRange
  simp only [Bool.and_eq_true,decide_eq_true_eq]
  omega
end Pg
end
section
set_option linter.all false
namespace Sp
open Rb35
end Sp
end
section
set_option linter.all false
set_option maxRecDepth 100000
namespace Pg
open Sp
theorem dGn {P:Nat}{ns:List dI} (good:Good P ns) (h:∀ j,j < ns.length→(Rb35.leaves (den P ns (P+j))).length≤24):∀ n∈ns,n.2.length≤24:=fun n hn=>by
 obtain ⟨j,hj,e⟩:=List.mem_iff_getElem.mp hn
 have hnj:ns[j]?=some n:=by rw [List.getElem?_eq_getElem hj,e]
 have h1:=h j hj
 rw [js good hnj] at h1
 have h2:(Rb35.leavesIn (ofL (n.2.map (den P ns)))).length≤24:=h1
 rw [g9,List.map_map] at h2
 have h3:=yx good n.2 fun y hy=>by
  have:=(good j n hnj).1 y hy
  omega
 exact Nat.le_trans h3 h2
theorem d8L {bs:List Nat}{G:Rb35.Prog} (h:Rb35.taken bs=.good G):Rb35.small G=true:=by
 unfold Rb35.taken at h
 cases q:Rb35.program (Rb35.toks bs) with
 | error k=>rw [q] at h;cases h
 | ok P=>
  rw [q] at h
  dsimp only at h
  split at h
  ·rename_i hs
   cases h
   exact hs
  ·cases h
theorem dAI {bs:List Nat}{G:Rb35.Prog} (h:Rb35.taken bs=.good G) {i:Int}{f:Rb35.Form} (hf:Rb35.formAt G i=some f):Rb35.sound G.p f=true∧(Rb35.leaves f).length≤24:=by
 have hs:=d8L h
 unfold Rb35.small at hs
 rw [Bool.and_eq_true,Bool.and_eq_true,List.all_eq_true] at hs
 unfold Rb35.formAt at hf
 split at hf
 ·cases hf
 ·obtain ⟨x,hx,rfl⟩:=Option.map_eq_some_iff.mp hf
  have:=hs.2.2 x (List.mem_of_getElem? hx)
  rw [Bool.and_eq_true,decide_eq_true_iff] at this
  exact ⟨this.2,this.1⟩
theorem d3g (m:Nat):∀ os:List Nat,d8h m os os=g0 m os
 | []=>rfl
 | o::os=>by
  have ih:=d3g m os
  unfold d8h g0 at ih ⊢
  rw [List.zip_cons_cons,List.filterMap_cons]
  by_cases h:m.testBit o=true
  ·simp only [if_pos h]
   rw [ih,List.filter_cons_of_pos (p:=fun o=>m.testBit o) h]
  ·simp only [if_neg h]
   rw [ih,List.filter_cons_of_neg (p:=fun o=>m.testBit o) h]
end Pg
end
section
set_option linter.all false
set_option maxRecDepth 100000
set_option maxHeartbeats 4000000
namespace Pg
open PySem L2 Xc Sp Rb35
theorem dC0 (a:Nat):(!decide (V.int (a:Int)=V.int 0))=!decide (a=0):=by
 by_cases h:a=0
 ·subst h;rfl
 ·rw [decide_eq_false h,decide_eq_false fun z=>h (by injection z with z;omega)]
def dDs (cs:Cs):Sp:=fun vs H Q E=>∃ (b:Addr) (A:BkA) (p:Nat) (B:Bk) (i:Int),vs=[.ref b,.int i]∧BookAt cs H b A p B ∧
 (0≤i→i.toNat < 2 ^ B.P→Q .non H)∧(¬ (0≤i∧i.toNat < 2 ^ B.P)→Thr E cs.oor (-2))
section
variable {P:Program}{w:World}{K:PySem.W.Frag}{mg:Str→Option Value}{base:Heap}{cs:Cs}
theorem dES:FnScope ["book","who"] ["book","who"] (dB st_keep_people):=⟨rfl,rfl,rfl,by decide +kernel,rfl,by decide +kernel,by decide +kernel⟩
theorem dF5 (T:FunT K mg "keep_people" st_keep_people) (clB:Cls K cs.boo) (naB:NoAt K cs.boo ["prime","people","nodes","lets","names"]) (hlen:mg "len"=none) (OR:ExcOk P w K mg base 2 "OutOfRange" cs.oor ["self"] (uH K cs.oor (-2))) :
  DefOk P w K mg base 4 "keep_people" ["book","who"] (dDs cs):=by
 obtain ⟨f,fd,F,hm⟩:=T.ex
 obtain ⟨fC,fdC,hmC,MC,bC,GC⟩:=OR.ex
 refine ⟨f,fd,hm,F.kp,F.binds (fun _ _ _ _ _ _ us hl=>match us,hl with | [_,_],_=>rfl),okX F dES (fun vs H Q E h=>?_) (fun cdv A outer s H vs Q E hr h=>?_)⟩
 ·obtain ⟨b,A,p,B,i,rfl,_⟩:=h
  rfl
 ·obtain ⟨b,Ad,p,B,i,rfl,R,kq,kx⟩:=h
  obtain ⟨dx,ob⟩:=R.ob
  refine ⟨_,dE (gv (dA0 (dQ d8C (pv 1) dS (dW _)) (yD (dQ d5B (jT dBz (pv 1) (dP dJ (by rfl) hlen PySem.boot_len (d0 (dM (pv 0) rfl) dD))) dS (dW _)))).pt (dE (jf MC GC hr bC rfl hmC)) dq),?_⟩
  refine ⟨_,rfl,_,_,rfl,rfl,_,rfl,ite2 (fun hc=>?_) fun hc=>?_⟩
  ·have h1:=of_decide_eq_true hc
   refine iteT (ja (kx fun z=>?_) _)
   omega
  have h1:¬ i < 0:=fun z=>hc (decide_eq_true z)
  obtain ⟨n,rfl⟩:=Int.eq_ofNat_of_zero_le (by omega:0≤i)
  have e:(n:Int) / 2 ^ ((B.people.map fun x=>V.str (mkS x)).length:Int).toNat=((n / 2 ^ B.P:Nat):Int):=by
   rw [List.length_map,Int.toNat_natCast]
   norm_cast
  refine ⟨_,rfl,_,rfl,b,cs.boo,dx,_,_,rfl,ob,clB,naB _ (by simp),gm _ _ _ _ _,_,_,rfl,.inl (SqL.of R.people),_,_,rfl,rfl,by omega,?_⟩
  refine ⟨rfl,_,rfl,ite2 (fun hc=>?_) fun hc=>?_⟩
  ·replace hc:(!decide (V.int ((n / 2 ^ B.P:Nat):Int)=V.int 0))=true:=by rw [←e];exact hc
   rw [dC0] at hc
   refine ja (kx fun z=>?_) _
   have h3:n / 2 ^ B.P=0:=Nat.div_eq_of_lt (by simpa using z.2)
   rw [h3] at hc
   simp at hc
  ·replace hc:¬ (!decide (V.int ((n / 2 ^ B.P:Nat):Int)=V.int 0))=true:=by rw [←e];exact hc
   rw [dC0] at hc
   have h3:n / 2 ^ B.P=0:=by
    refine Decidable.byContradiction fun z=>hc ?_
    simp only [Bool.not_eq_true',decide_eq_false_iff_not]
    omega
   exact kq (by omega) (by rw [Int.toNat_natCast];exact (Nat.div_eq_zero_iff_lt (Nat.two_pow_pos _)).mp h3)
end
end Pg
end
section
set_option linter.all false
set_option maxRecDepth 100000
set_option maxHeartbeats 4000000
namespace Pg
open PySem PySem.Spec PyProof.Rows L2 Xc Sp
section
variable {K:PySem.W.Frag}{h:Heap}{mg:Str→Option Value}{x m qual:Str}{st:Stmt}{C f:Addr}{oc kV doc pm cdv ct:Value}{od an:Option Addr}{sl:Array (Option Value)}
theorem fun_top (X:K.In h) (G:h.Ns mainGlobals mg) (m:PySem.W.nsIn K mainGlobals x=some (some (.ref f))) (l:K.lookup f=some ⟨oc,od,.func (PySem.W.fnOf x x (gW st) (gC st) (dB st) .none kV doc pm an cdv ct),sl⟩) (c:PySem.W.codeIn K cdv x=true)
  (k:PySem.W.keepIn K (.ref f)=true):FunT K mg x st:=⟨⟨_,_,d6j l c k,PySem.W.mg_of X G m⟩⟩
theorem met_top (i:PySem.W.findIn K (.ref C) m=some (some (.ref f))) (n:PySem.W.isFn K (.ref f)=true) (l:K.lookup f=some ⟨oc,od,.func (PySem.W.fnOf m qual (gW st) (gC st) (dB st) .none kV doc pm an cdv ct),sl⟩) (c:PySem.W.codeIn K cdv qual=true)
  (k:PySem.W.keepIn K (.ref f)=true):MetT K C m qual st:=⟨⟨_,_,d6j l c k,⟨i,n,k⟩⟩⟩
theorem cla_top (X:K.In h) (G:h.Ns mainGlobals mg) (m:PySem.W.nsIn K mainGlobals x=some (some (.ref C))) (t:PySem.W.makesIn K C=true) (i:PySem.W.findIn K (.ref C) "__init__"=some (some (.ref f))) (n:PySem.W.isFn K (.ref f)=true) (u:PySem.W.keepIn K (.ref C)=true)
  (l:K.lookup f=some ⟨oc,od,.func (PySem.W.fnOf "__init__" qual (gW st) (gC st) (dB st) .none kV doc pm an cdv ct),sl⟩) (c:PySem.W.codeIn K cdv qual=true) (k:PySem.W.keepIn K (.ref f)=true):ClaT K mg x C qual st:=
 ⟨⟨_,_,d6j l c k,⟨t,i,n,u⟩,PySem.W.mg_of X G m⟩⟩
theorem exc_top {nm q:Str}{N:Addr}{bs bm sub:List Value}{hdc ab:Bool}{sn:List Str}{col:Option Bool}{dd:Option Addr}{s0 s1 s2 s3 s5:Option Value} (X:K.In h) (G:h.Ns mainGlobals mg) (m:PySem.W.nsIn K mainGlobals x=some (some (.ref C)))
  (t:K.lookup C=some (excClassObj nm q C N bs bm hdc sn sub ab col dd s0 s1 s2 s3 s5 "Exception.__new__")) (i:PySem.W.findIn K (.ref C) "__init__"=some (some (.ref f)))
  (l:K.lookup f=some ⟨.type "function",od,.func (PySem.W.fnOf "__init__" qual (gW st) (gC st) (dB st) .none kV doc pm an cdv ct),sl⟩) (c:PySem.W.codeIn K cdv qual=true) (k:PySem.W.keepIn K (.ref f)=true) (u:PySem.W.keepIn K (.ref C)=true)
  (a:PySem.W.findIn K (.ref C) "__setattr__"=some (some (.builtin "object.__setattr__"))) (o:yl K C=true) (d:PySem.W.hasDictIn K C=true)
  (b:(bm.contains (.type "Exception")&&!bm.contains (.type "AttributeError")&&!bm.contains (.type "NameError")&&bm.contains (.type "BaseException"))=true):ExcT K mg x C qual st:=by
 simp only [Bool.and_eq_true,Bool.not_eq_true'] at b
 exact ⟨⟨_,_,d6j l c k,⟨⟨_,_,_,_,_,_,_,_,_,_,_,_,_,_,_,_,t,b.1.1.1,b.1.1.2,b.1.2,b.2⟩,i,⟨_,l,rfl⟩,u⟩,PySem.W.mg_of X G m⟩,⟨a,o,d⟩⟩
theorem noat_nil:NoAt K C []:=fun _ h=>by simp at h
theorem noat_cons {f:Str}{l:List Str} (a:PySem.W.findIn K (.ref C) f=some none) (b:NoAt K C l):NoAt K C (f::l):=fun g hg=>by
 rcases List.mem_cons.mp hg with rfl | hg
 ·exact a
 ·exact b g hg
end
structure Base (K:PySem.W.Frag) (mg:Str→Option Value) (cs:Cs):Prop where
 co:CsOk cs
 clN:Cls K cs.nod
 naN:NoAt K cs.nod ["asked","within"]
 clB:Cls K cs.boo
 naB:NoAt K cs.boo ["prime","people","nodes","lets","names"]
 excs:ExcsT K mg cs
 cat:CatT K cs
 len:mg "len"=none
 any:mg "any"=none
 all:mg "all"=none
 range:mg "range"=none
 sum:mg "sum"=none
 ord:mg "ord"=none
 mboo:mg "Book"=some (.ref cs.boo)
 book:∀ (P:Program) (w:World) (base:Heap),DefOk P w K mg base 10 "book_of" ["text"] (yn K cs)
theorem Base.met {K:PySem.W.Frag}{mg:Str→Option Value}{cs:Cs}{m q:Str}{st:Stmt} (B:Base K mg cs) (h:∃ C,mg "Book"=some (.ref C)∧MetT K C m q st):MetT K cs.boo m q st:=by
 obtain ⟨C,h1,h2⟩:=h
 rw [B.mboo] at h1
 cases h1
 exact h2
theorem base_mk {K:PySem.W.Frag}{mg:Str→Option Value}{nod boo tok bra rea ref oor ovl cst fr a_kw a_bb:Addr}{oc kV doc pm cdv ct:Value}{od an od_kw od_bb:Option Addr}{sl sl_kw sl_bb:Array (Option Value)}{cd:ClassData}{t1 t2 t3 t4 t5 t6 t7:PySem.Tok}{n_kw n_bb:Nat}
  (t_nod:ClaT K mg "Node" nod "Node.__init__" kt)
  (cl_nod:Cls K nod)
  (na_nod:NoAt K nod ["asked","within"])
  (t_boo:ClaT K mg "Book" boo "Book.__init__" kr)
  (cl_boo:Cls K boo)
  (na_boo:NoAt K boo ["prime","people","nodes","lets","names"])
  (t_boo_add_person:MetT K boo "add_person" "Book.add_person" gw)
  (t_boo_add_node:MetT K boo "add_node" "Book.add_node" jM)
  (t_boo_add_let:MetT K boo "add_let" "Book.add_let" jZ)
  (t_tok:ClaT K mg "Token" tok "Token.__init__" kN)
  (cl_tok:Cls K tok)
  (na_tok:NoAt K tok ["kind","word","place"])
  (t_bra:ClaT K mg "Bracket" bra "Bracket.__init__" jc)
  (cl_bra:Cls K bra)
  (na_bra:NoAt K bra ["asked","formulas","boths","parts"])
  (t_bra_end_both:MetT K bra "end_both" "Bracket.end_both" gf)
  (t_bra_end_formula:MetT K bra "end_formula" "Bracket.end_formula" gO)
  (t_rea:ClaT K mg "Reader" rea "Reader.__init__" jt)
  (cl_rea:Cls K rea)
  (na_rea:NoAt K rea ["tokens","at"])
  (t_rea_now:MetT K rea "now" "Reader.now" kG)
  (t_rea_take:MetT K rea "take" "Reader.take" jv)
  (t_rea_take_written:MetT K rea "take_written" "Reader.take_written" gN)
  (t_rea_take_new_name:MetT K rea "take_new_name" "Reader.take_new_name" gK)
  (t_rea_take_known_name:MetT K rea "take_known_name" "Reader.take_known_name" gB)
  (t_rea_take_prime:MetT K rea "take_prime" "Reader.take_prime" gY)
  (t_rea_take_asked:MetT K rea "take_asked" "Reader.take_asked" gZ)
  (t_joined:FunT K mg "joined" vx)
  (t_closed:FunT K mg "closed" vh)
  (t_is_field:FunT K mg "is_field" kP)
  (t_end_of_signs:FunT K mg "end_of_signs" jk)
  (t_run_end:FunT K mg "run_end" vA)
  (t_kind_of:FunT K mg "kind_of" vH)
  (t_row_of:FunT K mg "row_of" kd)
  (t_tokens_of:FunT K mg "tokens_of" kc)
  (t_all_places:FunT K mg "all_places" j2)
  (t_keep_limits:FunT K mg "keep_limits" gc)
  (t_begin_brackets:FunT K mg "begin_brackets" jD)
  (t_close_brackets:FunT K mg "close_brackets" jC)
  (t_read_between:FunT K mg "read_between" jW)
  (t_read_formula:FunT K mg "read_formula" jb)
  (t_read_field:FunT K mg "read_field" kF)
  (t_read_people:FunT K mg "read_people" jy)
  (t_read_let:FunT K mg "read_let" uO)
  (t_book_of:FunT K mg "book_of" v9)
  (m_ref:mg "Refusal"=some (.ref ref))
  (fc_ref:PySem.W.findCls K (.ref ref) (.type "type") "__init__"=some (.val (.ref fr)))
  (l_ref:K.lookup fr=some ⟨oc,od,.func (PySem.W.fnOf "__init__" "Refusal.__init__" (gW g6) (gC g6) (dB g6) .none kV doc pm an cdv ct),sl⟩)
  (c_ref:PySem.W.codeIn K cdv "Refusal.__init__"=true)
  (k_ref:PySem.W.keepIn K (.ref fr)=true)
  (rd_ref:PySem.W.readsIn K ref (.type "type")=true)
  (ga_ref:PySem.W.specialIn K (.ref ref) "__getattribute__"=some (some (.builtin "type.__getattribute__")))
  (nt_ref:PySem.W.instIn K (.ref ref) (.type "tuple")=some false)
  (it_ref:PySem.W.clsIn K ref=some cd)
  (ie_ref:PySem.W.subIn K (.ref ref) (.type "BaseException")=some true)
  (t_oor:ExcT K mg "OutOfRange" oor "OutOfRange.__init__" gt)
  (nn_oor:PySem.W.findIn K (.ref oor) "number"=some none)
  (su_oor:PySem.W.subIn K (.ref oor) (.ref ref)=some true)
  (gx_oor:GetX K oor)
  (t_ovl:ExcT K mg "OverLimit" ovl "OverLimit.__init__" jB)
  (nn_ovl:PySem.W.findIn K (.ref ovl) "number"=some none)
  (su_ovl:PySem.W.subIn K (.ref ovl) (.ref ref)=some true)
  (gx_ovl:GetX K ovl)
  (t_cst:ExcT K mg "CannotStand" cst "CannotStand.__init__" gh)
  (nn_cst:PySem.W.findIn K (.ref cst) "number"=some none)
  (su_cst:PySem.W.subIn K (.ref cst) (.ref ref)=some true)
  (gx_cst:GetX K cst)
  (z_len:mg "len"=none)
  (z_int:mg "int"=none)
  (z_all:mg "all"=none)
  (z_any:mg "any"=none)
  (z_range:mg "range"=none)
  (z_sum:mg "sum"=none)
  (z_ord:mg "ord"=none)
  (z_dict:mg "dict"=none)
  (w_NAME:∃ t,mg "NAME"=some (.str "name" t))
  (w_NUMBER:∃ t,mg "NUMBER"=some (.str "number" t))
  (w_OTHER:∃ t,mg "OTHER"=some (.str "other" t))
  (w_END:∃ t,mg "END"=some (.str "end" t))
  (w_LETTERS:∃ t,mg "LETTERS"=some (.str "abcdefghijklmnopqrstuvwxyz" t))
  (w_DIGITS:∃ t,mg "DIGITS"=some (.str "0123456789" t))
  (w_WORD_SIGNS:∃ t,mg "WORD_SIGNS"=some (.str "abcdefghijklmnopqrstuvwxyz0123456789_" t))
  (w_OTHER_SIGNS:∃ t,mg "OTHER_SIGNS"=some (.str "(),;=&|#\n" t))
  (w_LONGEST_WORD:∃ t,mg "LONGEST_WORD"=some (.int 15 t))
  (w_LONGEST_NUMBER:∃ t,mg "LONGEST_NUMBER"=some (.int 5 t))
  (w_GREATEST_PRIME:∃ t,mg "GREATEST_PRIME"=some (.int 251 t))
  (w_MOST_PEOPLE:∃ t,mg "MOST_PEOPLE"=some (.int 10 t))
  (w_MOST_LETS:∃ t,mg "MOST_LETS"=some (.int 16 t))
  (w_MOST_PLACES:∃ t,mg "MOST_PLACES"=some (.int 24 t))
  (w_LONGEST_TEXT:∃ t,mg "LONGEST_TEXT"=some (.int 65536 t))
  (v_KW:mg "KEPT_WORDS"=some (.ref a_kw))
  (l_KW:K.lookup a_kw=some ⟨.type "tuple",od_kw,.seq #[.str "field" t1,.str "who" t2,.str "let" t3,.str "of" t4] n_kw,sl_kw⟩)
  (v_BB:mg "BLANK_BYTES"=some (.ref a_bb))
  (l_BB:K.lookup a_bb=some ⟨.type "tuple",od_bb,.seq #[.int 9 t5,.int 13 t6,.int 32 t7] n_bb,sl_bb⟩)
  (d1:nod≠boo)
  (d2:bra≠nod)
  (d3:bra≠boo)
  (d4:rea≠nod)
  (d5:rea≠boo)
  (d6:rea≠bra)
  : Base K mg ⟨nod,boo,tok,bra,rea,ref,oor,ovl,cst⟩:=by
 have co:CsOk (⟨nod,boo,tok,bra,rea,ref,oor,ovl,cst⟩:Cs):=⟨d1,d2,d3,d4,d5,d6⟩
 have EX:ExcsT K mg ⟨nod,boo,tok,bra,rea,ref,oor,ovl,cst⟩:=⟨⟨_,_,d6j l_ref c_ref k_ref,⟨rd_ref,fc_ref,ga_ref,k_ref⟩⟩,m_ref,t_oor,t_ovl,t_cst,nn_oor,nn_ovl,nn_cst⟩
 have CT:CatT K ⟨nod,boo,tok,bra,rea,ref,oor,ovl,cst⟩:=⟨⟨nt_ref,by rw [it_ref];rfl,ie_ref⟩,su_oor,su_ovl,su_cst,gx_oor,gx_ovl,gx_cst⟩
 have w_KW:∃ a,mg "KEPT_WORDS"=some (.ref a)∧∀ H,SqT K H a [V.str "field",V.str "who",V.str "let",V.str "of"]:=⟨_,v_KW,fun H=>.inr ⟨_,_,_,l_KW,rfl,rfl,by show 4≤sizeLine;decide,.cons ⟨_,rfl⟩ (.cons ⟨_,rfl⟩ (.cons ⟨_,rfl⟩ (.cons ⟨_,rfl⟩ .nil)))⟩⟩
 have w_BB:∃ a,mg "BLANK_BYTES"=some (.ref a)∧∀ H,SqT K H a [V.int 9,V.int 13,V.int 32]:=⟨_,v_BB,fun H=>.inr ⟨_,_,_,l_BB,rfl,rfl,by show 3≤sizeLine;decide,.cons ⟨_,rfl⟩ (.cons ⟨_,rfl⟩ (.cons ⟨_,rfl⟩ .nil))⟩⟩
 refine ⟨co,cl_nod,na_nod,cl_boo,na_boo,EX,CT,z_len,z_any,z_all,z_range,z_sum,z_ord,(let ⟨_,_,_,_,h⟩:=t_boo.ex;h),fun P w base=>?_⟩
 have oNode:=dEw (P:=P) (w:=w) (base:=base) (cs:=⟨nod,boo,tok,bra,rea,ref,oor,ovl,cst⟩) t_nod cl_nod na_nod
 have oBook:=dEg (P:=P) (w:=w) (base:=base) (cs:=⟨nod,boo,tok,bra,rea,ref,oor,ovl,cst⟩) t_boo cl_boo na_boo
 have oToken:=dCV (P:=P) (w:=w) (base:=base) (cs:=⟨nod,boo,tok,bra,rea,ref,oor,ovl,cst⟩) t_tok cl_tok na_tok
 have oBracket:=dAB (P:=P) (w:=w) (base:=base) (cs:=⟨nod,boo,tok,bra,rea,ref,oor,ovl,cst⟩) t_bra cl_bra na_bra
 have oReader:=dBo (P:=P) (w:=w) (base:=base) (cs:=⟨nod,boo,tok,bra,rea,ref,oor,ovl,cst⟩) t_rea cl_rea na_rea
 have oAN:=d8Q (P:=P) (w:=w) (base:=base) (cs:=⟨nod,boo,tok,bra,rea,ref,oor,ovl,cst⟩) t_boo_add_node cl_boo na_boo z_len oNode
 have oJ:=dBI (cs:=⟨nod,boo,tok,bra,rea,ref,oor,ovl,cst⟩) t_joined cl_boo z_len oAN
 have oEB:=d8D co t_bra_end_both cl_bra na_bra z_len oJ
 have oEF:=we co t_bra_end_formula cl_bra na_bra oJ oEB
 have oCL:=dAk (cs:=⟨nod,boo,tok,bra,rea,ref,oor,ovl,cst⟩) t_closed cl_bra na_bra cl_boo oAN
 have oOR:=jQ (P:=P) (w:=w) (base:=base) EX
 have oOV:=d6X (P:=P) (w:=w) (base:=base) EX
 have oCS:=wg (P:=P) (w:=w) (base:=base) EX
 have oNW:=dFV (mg:=mg) (P:=P) (w:=w) (base:=base) (cs:=⟨nod,boo,tok,bra,rea,ref,oor,ovl,cst⟩) t_rea_now cl_rea na_rea
 have oTK:=dEU t_rea_take cl_rea na_rea cl_tok na_tok oNW oCS
 have oTW:=dAG t_rea_take_written cl_rea cl_tok na_tok oNW oTK
 have oNN:=dFT t_rea_take_new_name cl_rea cl_tok na_tok w_NAME oNW oTK
 have oKN:=dCi t_rea_take_known_name cl_rea cl_tok na_tok w_NAME oNW oTK
 have oFI:=dCX (P:=P) (w:=w) (base:=base) t_is_field w_GREATEST_PRIME z_all z_range
 have oPR:=dDS t_rea_take_prime cl_rea cl_tok na_tok w_NUMBER z_int oNW oTK oFI
 have oTA:=dCs t_rea_take_asked cl_rea cl_tok na_tok w_NUMBER z_int oNW oTK
 have oAP:=yw (P:=P) (w:=w) (base:=base) (cs:=⟨nod,boo,tok,bra,rea,ref,oor,ovl,cst⟩) t_boo_add_person cl_boo na_boo z_len
 have oAL:=dAJ (mg:=mg) (P:=P) (w:=w) (base:=base) (cs:=⟨nod,boo,tok,bra,rea,ref,oor,ovl,cst⟩) t_boo_add_let cl_boo na_boo
 have oEO:=dCh (P:=P) (w:=w) (base:=base) t_end_of_signs z_len
 have oRE:=dCG t_run_end z_len w_LETTERS w_DIGITS w_WORD_SIGNS oEO
 have oKI:=dEy (P:=P) (w:=w) (base:=base) t_kind_of z_len w_LETTERS w_DIGITS w_KW w_LONGEST_WORD w_LONGEST_NUMBER w_NAME w_NUMBER w_OTHER
 have oRO:=dG9 (P:=P) (w:=w) (base:=base) t_row_of z_ord z_dict w_WORD_SIGNS w_OTHER_SIGNS w_BB
 have oTO:=dEc t_tokens_of z_len w_END oRO oRE oKI oToken
 have oPL:=dBg (P:=P) (w:=w) (base:=base) (cs:=⟨nod,boo,tok,bra,rea,ref,oor,ovl,cst⟩) t_all_places cl_boo na_boo cl_nod na_nod z_sum
 have oLM:=dCB t_keep_limits cl_boo na_boo cl_nod na_nod z_len z_any w_MOST_PEOPLE w_MOST_LETS w_MOST_PLACES oPL oOV
 have oBG:=dCq co t_begin_brackets cl_rea cl_tok na_tok w_NUMBER oNW oTA oTW oBracket
 have oSH:=dEI co t_close_brackets cl_rea cl_tok na_tok cl_bra na_bra z_len oNW oTK oEF oCL
 have oBW:=dAR co t_read_between cl_rea cl_tok na_tok cl_bra na_bra oNW oTW oEB oEF
 have oFO:=d9z co t_read_formula cl_rea cl_boo na_boo cl_bra na_bra z_len oBracket oBG oKN oSH oBW oTK oEF
 have oFR:=dB6 t_read_field cl_rea oTW oPR
 have oPE:=dCF co t_read_people cl_rea cl_tok na_tok cl_boo na_boo oNW oTW oNN oAP
 have oLE:=dFS co t_read_let cl_rea cl_boo na_boo oTW oNN oFO oAL
 exact dCI co t_book_of cl_rea cl_tok na_tok z_len w_LONGEST_TEXT w_END oOR oTO oReader oFR oBook oPE oNW oLE oTK oLM
end Pg
end
section
set_option linter.all false
set_option maxRecDepth 100000
set_option maxHeartbeats 4000000
namespace Pg
open PySem PySem.Spec PyProof.Rows L2 Xc Sp
def iV (l:List Int):List V:=l.map V.int
section
variable {P:Program}{w:World}{K:PySem.W.Frag}{mg mb:Str→Option Value}
structure Entry (P:Program) (w:World) (K:PySem.W.Frag) (mg:Str→Option Value) (c T:Addr) (s₁:Shared) (H:Hp):Prop where
 hok:HOk P w H s₁.heap
 only:∀ b u,H b=some u→(∃ o x,u=.frz o x)∨(b=T∧u=.tbl #[])
 tab:H T=some (.tbl #[])
 hd:PySem.W.CodeHd (hidT s₁.heap H) c T
 hdT:s₁.heap.TableAt c T #[]
 mod:Mod K mg (hidT s₁.heap H)
 bm:dBl mg (hidT s₁.heap H)
theorem dDX {s₁:Shared}{c T:Addr}{ls:List (Addr×List Value×List Int)} (KX:K.In s₁.heap) (hns:s₁.heap.Ns mainGlobals mg) (hb:s₁.heap.Ns builtinsNs mb) (hbb:∀ x:Str,x≠"__name__"→mb x=bootBuiltins x) (hlim:s₁.heap.NoLimit)
  (hbm:∃ bm ob,mg "__builtins__"=some (.ref bm)∧bm≠builtinsNs∧s₁.heap.get? bm=some ob∧ob.cls=.type "module"∧ob.dict=some builtinsNs∧ob.data=.plain)
  (hC:PySem.W.CodeHd s₁.heap c T) (hT:s₁.heap.get? T=some (PySem.W.tabObj #[])) (hK:PySem.W.noTabs K=true)
  (hl:∀ x∈ls,s₁.heap.get? x.1=some { cls:=.type "list",data:=.seq x.2.1.toArray }∧IntsAre x.2.1 x.2.2∧x.2.2.length≤sizeLine) :
  ∃ H,Entry P w K mg c T s₁ H∧∀ x∈ls,SqL K H x.1 (x.2.2.map V.int):=by
 have KT:K.lookup T=none:=by
  cases q:K.lookup T with
  | none=>rfl
  | some o=>
   have e:=KX _ _ q
   rw [hT] at e
   cases e
   have h2:=List.all_eq_true.mp hK (T,_) (PySem.W.mem_of_lookupK q)
   exact absurd (show false=true from h2) Bool.false_ne_true
 let H:Hp:=fun b=>if b=T then some (.tbl #[]) else if K.lookup b=none then (ls.find? fun x=>x.1==b).map fun x=>.frz { cls:=.type "list",data:=.seq x.2.1.toArray } (.lst (x.2.2.map V.int)) else none
 have hH:∀ b u,H b=some u→(b=T∧u=.tbl #[])∨(b≠T∧K.lookup b=none∧∃ x∈ls,x.1=b∧u=.frz { cls:=.type "list",data:=.seq x.2.1.toArray } (.lst (x.2.2.map V.int))):=fun b u e=>by
  by_cases hbT:b=T
  ·left
   have:H b=some (.tbl #[]):=if_pos hbT
   rw [this] at e
   cases e
   exact ⟨hbT,rfl⟩
  ·right
   have e1:H b=if K.lookup b=none then (ls.find? fun x=>x.1==b).map fun x=>.frz { cls:=.type "list",data:=.seq x.2.1.toArray } (.lst (x.2.2.map V.int)) else none:=if_neg hbT
   rw [e1] at e
   by_cases hk:K.lookup b=none
   ·rw [if_pos hk] at e
    cases q:ls.find? fun x=>x.1==b with
    | none=>rw [q] at e;cases e
    | some x=>
     rw [q] at e
     cases e
     exact ⟨hbT,hk,x,List.mem_of_find?_eq_some q,by simpa using List.find?_some q,rfl⟩
   ·rw [if_neg hk] at e;cases e
 have noD:∀ {b:Addr}{o:Obj},s₁.heap.get? b=some o→(∀ vs n,o.data≠.seq vs n)→(∀ vs,o.data≠.fields vs)→H b=none:=fun {b o} e h1 h2=>by
  cases q:H b with
  | none=>rfl
  | some u=>
   rcases hH b u q with ⟨rfl,_⟩ | ⟨_,_,x,hx,rfl,_⟩
   ·rw [hT] at e;cases e;exact absurd rfl (h2 _)
   ·rw [(hl x hx).1] at e;cases e;exact absurd rfl (h1 _ _)
 have nsK:∀ {b:Addr}{m:Str→Option Value},s₁.heap.Ns b m→(hidT s₁.heap H).Ns b m:=fun {b m} ⟨o,es,ep,e,d,r⟩=>⟨o,es,ep,vV e (noD e (fun vs n z=>by rw [d] at z;cases z) fun vs z=>by rw [d] at z;cases z),d,r⟩
 have hKb:K.In (hidT s₁.heap H):=fun b o e=>vV (KX b o e) (by
  cases q:H b with
  | none=>rfl
  | some u=>
   rcases hH b u q with ⟨rfl,_⟩ | ⟨_,hk,_⟩
   ·rw [KT] at e;cases e
   ·rw [hk] at e;cases e)
 refine ⟨H,⟨fun b u e=>?_,fun b u e=>?_,if_pos rfl,?_,hC.tab hT,⟨hKb,nsK hns,⟨mb,nsK hb,hbb⟩,let ⟨mc,h1,h2⟩:=hlim;⟨mc,nsK h1,h2⟩⟩,?_⟩,fun x hx=>?_⟩
 ·rcases hH b u e with ⟨rfl,rfl⟩ | ⟨_,_,x,hx,rfl,rfl⟩
  ·exact hT
  ·obtain ⟨h1,h2,h3⟩:=hl x hx
   exact ⟨h1,by rw [List.length_map];exact h3,x.2.1,_,ke h2,h1⟩
 ·rcases hH b u e with ⟨rfl,rfl⟩ | ⟨_,_,x,hx,rfl,rfl⟩
  ·exact .inr ⟨rfl,rfl⟩
  ·exact .inl ⟨_,_,rfl⟩
 ·obtain ⟨o,vs,file,tf,flags,tg,inF,text,tt,e1,r1,r2,r3,r4,r5,r6,r7,r8,hne⟩:=hC
  refine ⟨o,vs,file,tf,flags,tg,inF,text,tt,vV e1 ?_,r1,r2,r3,r4,r5,r6,r7,r8,hne⟩
  cases q:H c with
  | none=>rfl
  | some u=>
   rcases hH c u q with ⟨z,_⟩ | ⟨_,_,x,hx,z,_⟩
   ·exact absurd z hne
   ·have e2:=(hl x hx).1
    rw [z,e1] at e2
    cases e2
    cases r2
 ·obtain ⟨bm,ob,b1,b2,b3,b4,b5,b6⟩:=hbm
  exact ⟨bm,ob,b1,b2,vV b3 (noD b3 (fun vs n z=>by rw [b6] at z;cases z) fun vs z=>by rw [b6] at z;cases z),b4,b5,b6⟩
 ·obtain ⟨h1,h2,h3⟩:=hl x hx
  cases hk:K.lookup x.1 with
  | some o=>
   have e:=KX _ o hk
   rw [h1] at e
   cases e
   exact .inr ⟨_,x.2.1.toArray,_,hk,rfl,rfl,rfl,by rw [List.size_toArray,h2.length];exact h3,by simpa using ke h2⟩
  | none=>
   have xT:x.1≠T:=fun z=>by rw [z,hT] at h1;cases h1
   have e1:H x.1=(ls.find? fun y=>y.1==x.1).map fun x=>.frz { cls:=.type "list",data:=.seq x.2.1.toArray } (.lst (x.2.2.map V.int)):=(if_neg xT).trans (if_pos hk)
   cases q:ls.find? fun y=>y.1==x.1 with
   | none=>exact absurd (List.find?_eq_none.mp q x hx) (by simp)
   | some y=>
    rw [q] at e1
    have hy:y.1=x.1:=by simpa using List.find?_some q
    obtain ⟨g1,g2,_⟩:=hl y (List.mem_of_find?_eq_some q)
    rw [hy,h1] at g1
    have ev:x.2.1=y.2.1:=by
     injection g1 with g1
     injection g1 with _ _ g1
     injection g1 with g1
     exact List.toArray_inj g1
    have ei:y.2.2=x.2.2:=by
     have a1:=ke g2
     have a2:=ke h2
     rw [←ev] at a1
     have inj:∀ {us:List Value}{m n:List Int},IntsAre us m→IntsAre us n→m=n:=by
      intro us m n p
      induction p generalizing n with
      | nil=>intro q;cases q;rfl
      | cons a t r ih=>intro q;cases q with | cons _ _ q=>rw [ih q]
     rw [←ev] at g2
     exact inj g2 h2
    exact .inl (.inr ⟨_,by rw [←ei];exact e1⟩)
theorem dAa {k:Nat}{fa c T:Addr}{fd:FuncData}{ps:List Str}{sp:Sp}{s₁:Shared}{H:Hp}{vals:List Value}{vs:List V}{Q:VK} (N:Entry P w K mg c T s₁ H) (hg:s₁.gens=#[]) (hr:Room k callerA)
  (F:FnOk P w K mg (hidT s₁.heap H) (CXX P w) k fa fd ps sp) (hbind:BindsTo s₁ fd ⟨vals,[]⟩ (ps.zip vals)) (rv:Vals vs vals) (hsp:sp vs H Q E0) :
  codeAny (model P w) callerA (.call (.ref fa) ⟨vals,[]⟩) (fun r s'=>∃ u v H',r=.ok (.ret u)∧RelV v u∧Q v H'∧HOk P w H' s'.heap∧OldK s₁.heap s'.heap∧s'.os=s₁.os∧AllBare s'.gens) s₁:=by
 have e0:Env0 P w K mg (hidT s₁.heap H) callerA [] s₁ H:=⟨rfl,N.mod,fun b o e=>dEZ e,Nat.le_of_eq (dBy _ _),trivial,fun b hb=>absurd (show b∈([]:List Addr) from hb) (by simp),N.hok,.of_eq hg⟩
 refine codeAny_mono (F.run callerA [] s₁ H ⟨vals,[]⟩ vals vs Q E0 hr e0 hbind rv hsp) fun r s' h=>?_
 cases r with
 | error e=>
  obtain ⟨_,_,_,_,_,_,_,f⟩:=h
  exact f.wish.elim
 | ok fl=>
  cases fl with
  | next=>exact False.elim h
  | brk=>exact False.elim h
  | cont=>exact False.elim h
  | ret u=>
   obtain ⟨v,H',os,bare,un,hok',r',q⟩:=h
   have at_:∀ b o,s₁.heap.get? b=some o→b≠T→s'.heap.get? b=some o:=fun b o e hb=>by
    cases q:H b with
    | none=>exact un.keep b o e q (by intro z;exact absurd (show b∈([]:List Addr) from z) (by simp)) (by simp)
    | some x=>
     rcases N.only b x q with ⟨ob,y,rfl⟩ | ⟨z,_⟩
     ·have z2:=un.frzs b ob _ q
      obtain ⟨e1,_⟩:=N.hok b _ q
      obtain ⟨e2,_⟩:=hok' b _ z2
      rw [e] at e1;cases e1
      exact e2
     ·exact absurd z hb
   obtain ⟨more,hT'⟩:=un.tbls T _ N.tab
   have eT:s'.heap.get? T=some { cls:=.none,data:=.fields (#[]++more) }:=hok' T _ hT'
   refine ⟨u,v,H',rfl,r',q,hok',⟨fun b o e=>?_,fun b o e=>?_⟩,os,bare⟩
   ·by_cases hb:b=T
    ·subst hb
     have e₀:o={ cls:=.none,data:=.fields #[] }:=Option.some.inj (e.symm.trans N.hdT.2)
     subst e₀
     exact .inr (.inl ⟨N.hdT.isCodeTable,rfl,#[],more,rfl,eT⟩)
    ·exact .inl (at_ b o e hb)
   ·by_cases hb:b=T
    ·rw [hb];exact ⟨_,eT⟩
    ·exact ⟨o,at_ b o e hb⟩
end
theorem wv {R:PySem.W.WRecords}{cl:Str→Option Addr}{h:Heap}:∀ {l:List Int}{its:List Value},Vals (iV l) its→PySem.W.ReadsAllW R cl h its (l.map PySem.W.WData.int) []
 | [],_,.nil=>.nil
 | i::l,_,.cons r t=>by
  obtain ⟨k,rfl⟩:=r
  exact PySem.W.ReadsAllW.cons (as:=[]) (bs:=[]) (.int i k) (wv t)
theorem well_ints {P:Params}{h:Heap}{v:Value}{ns:List Int} (x:PySem.W.Well P h v (.list (ns.map PySem.W.WData.int))):∃ a vs,v=.ref a∧h.get? a=some { cls:=.type "list",data:=.seq vs.toArray }∧IntsAre vs ns:=by
 cases x with
 | list ho hall=>exact ⟨_,_,rfl,ho,Att.ints_of_wellAll ns _ hall⟩
theorem well_int {P:Params}{h:Heap}{v:Value}{i:Int} (x:PySem.W.Well P h v (.int i)):∃ t,v=.int i t:=by
 cases x with
 | int _ t=>exact ⟨t,rfl⟩
theorem good_list {r:PySem.W.OpenSpec}{cl:Str→Option Addr}{mean:ExcName→Option Value}{args:List PySem.W.WData}{s₁ s':Shared}{P:Program}{w:World}{H':Hp}{l:Addr}{res:List Int} (hok:HOk P w H' s'.heap) (hl:H' l=some (.lst (iV res)))
  (hp:r.claim.post args (.list (res.map PySem.W.WData.int)) args=true) (h1:OldK s₁.heap s'.heap) (h2:s'.os=s₁.os) (h3:AllBare s'.gens):PySem.W.GoodWG r.claim cl mean args s₁ (.ok (.ret (.ref l))) s':=by
 obtain ⟨_,its,n,rv,e⟩:=hok l _ hl
 exact ⟨.inl ⟨_,_,_,rfl,fun _=>rfl,.list e rfl rfl (by simpa using wv rv),hp,fun z=>absurd (show false=true from z) Bool.false_ne_true⟩,h1,h2,h3⟩
end Pg
end
section
set_option linter.all false
set_option maxRecDepth 100000
set_option maxHeartbeats 4000000
namespace Pg
open PySem PySem.Spec PyProof.Rows L2 Xc Sp
theorem dE8 {K:PySem.W.Frag}{H:Hp}{T la:Addr}{ps qs:Array Value}{xs:List V} (hT:H T=some (.tbl ps)) (h:SqL K H la xs):SqL K (upd H T (.tbl qs)) la xs:=by
 rcases h with (h | ⟨o,h⟩) | h
 ·exact .inl (.inl (by rw [d8 (uq h hT (by intro z;cases z))];exact h))
 ·exact .inl (.inr ⟨o,by rw [d8 (uq h hT (by intro z;cases z))];exact h⟩)
 ·exact .inr h
theorem dBM (l:List Int) (h:∀ x∈l,0≤x):l.map V.int=nV (l.map Int.toNat):=by
 unfold nV
 rw [List.map_map]
 refine List.map_congr_left fun x hx=>?_
 show V.int x=V.int ((x.toNat:Nat):Int)
 rw [Int.toNat_of_nonneg (h x hx)]
section
variable {P:Program}{w:World}{K:PySem.W.Frag}{mg:Str→Option Value}{base:Heap}{cs:Cs}
theorem dGe {x:Str}{f c:Addr}{oc:Value}{od:Option Addr}{fd:FuncData}{sl:Array (Option Value)} (h1:PySem.W.nsIn K mainGlobals x=some (some (.ref f))) (h2:K.lookup f=some ⟨oc,od,.func fd,sl⟩) (h3:fd.code=.ref c) (h4:(PySem.W.tabIn K x).isSome=true):∃ T,PySem.W.tabIn K x=some (c,T):=by
 obtain ⟨⟨c',T⟩,e⟩:=Option.isSome_iff_exists.mp h4
 refine ⟨T,?_⟩
 rw [e]
 unfold PySem.W.tabIn at e
 simp only [h1,h2,h3] at e
 split at e
 ·split at e
  ·cases e;rfl
  ·cases e
 ·cases e
structure CallT (K:PySem.W.Frag) (mg:Str→Option Value) (x:Str) (st:Stmt):Prop where
 ex:∃ (f c:Addr) (oc kV doc pm ct:Value) (od an:Option Addr) (osl:Array (Option Value)),PySem.W.nsIn K mainGlobals x=some (some (.ref f))∧mg x=some (.ref f) ∧
  K.lookup f=some ⟨oc,od,.func (PySem.W.fnOf x x (gW st) (gC st) (dB st) .none kV doc pm an (.ref c) ct),osl⟩∧PySem.W.codeIn K (.ref c) x=true
theorem call_mk {h:Heap}{x:Str}{st:Stmt} (X:K.In h) (G:h.Ns mainGlobals mg) {f c:Addr}{oc kV doc pm ct:Value}{od an:Option Addr}{osl:Array (Option Value)} (m:PySem.W.nsIn K mainGlobals x=some (some (.ref f)))
  (l:K.lookup f=some ⟨oc,od,.func (PySem.W.fnOf x x (gW st) (gC st) (dB st) .none kV doc pm an (.ref c) ct),osl⟩) (k:PySem.W.codeIn K (.ref c) x=true):CallT K mg x st:=
 ⟨f,c,oc,kV,doc,pm,ct,od,an,osl,m,PySem.W.mg_of X G m,l,k⟩
theorem dCW {mb:Str→Option Value}{s₁:Shared}{fa:Addr}{p:Program}{loose:List Str}{mean:ExcName→Option Value}{x:Str}{st:Stmt}{ps:List Str}{sp:Addr→Sp}{ls:List (Addr×List Value×List Int)}{vs:List V}{vals:List Value}{res:List Int} (KX:K.In s₁.heap) (T:Top p loose mean mg mb s₁.heap) (hmg:mg x=some (.ref fa)) (hg:s₁.gens=#[])
  (hrec:((recsOf p).find? (fun e=>e.name==x)).isSome=true) (ht:(PySem.W.tabIn K x).isSome=true) (hK:PySem.W.noTabs K=true) (C:CallT K mg x st) (hl:∀ y∈ls,s₁.heap.get? y.1=some { cls:=.type "list",data:=.seq y.2.1.toArray }∧IntsAre y.2.1 y.2.2∧y.2.2.length≤600) (rv:Vals vs vals)
  (F:∀ (c T:Addr) (oc kV doc pm ct:Value) (od an:Option Addr) (osl:Array (Option Value)) (base:Heap),K.lookup fa=some ⟨oc,od,.func (PySem.W.fnOf x x (gW st) (gC st) (dB st) .none kV doc pm an (.ref c) ct),osl⟩→PySem.W.codeIn K (.ref c) x=true→PySem.W.CodeHd base c T→dBl mg base →
   FnOk P w K mg base (CXX P w) 12 fa (PySem.W.fnOf x x (gW st) (gC st) (dB st) .none kV doc pm an (.ref c) ct) ps (sp T))
  (hb:∀ (c:Addr) (kV doc pm ct:Value) (an:Option Addr),BindsTo s₁ (PySem.W.fnOf x x (gW st) (gC st) (dB st) .none kV doc pm an (.ref c) ct) ⟨vals,[]⟩ (ps.zip vals))
  (hsp:∀ (T:Addr) (H:Hp),H T=some (.tbl #[])→(∀ y∈ls,SqL K H y.1 (y.2.2.map V.int))→sp T vs H (fun v H'=>∃ l,v=.ref l∧H' l=some (.lst (iV res))) E0) :
  codeAny (model P w) callerA (.call (.ref fa) ⟨vals,[]⟩) (fun r s'=>∃ l H',r=.ok (.ret (.ref l))∧H' l=some (.lst (iV res))∧HOk P w H' s'.heap∧OldK s₁.heap s'.heap∧s'.os=s₁.os∧AllBare s'.gens) s₁:=by
 obtain ⟨f,c,oc,kV,doc,pm,ct,od,an,osl,e1,e2,lk,hcd⟩:=C.ex
 rw [hmg] at e2
 cases e2
 obtain ⟨Tb,htab⟩:=dGe e1 lk rfl ht
 obtain ⟨d,hrec⟩:=Option.isSome_iff_exists.mp hrec
 obtain ⟨hC,hT⟩:=PySem.W.tab_of T KX hrec htab
 obtain ⟨H,N,hsq⟩:=dDX (P:=P) (w:=w) (ls:=ls) KX T.g T.b T.builtins T.nolimit T.bmain hC hT hK fun y hy=>⟨(hl y hy).1,(hl y hy).2.1,Nat.le_trans (hl y hy).2.2 (by decide)⟩
 refine codeAny_mono (dAa (Q:=fun v H'=>∃ l,v=.ref l∧H' l=some (.lst (iV res))) (vs:=vs) N hg ⟨rfl,by decide,by decide⟩ (F c Tb oc kV doc pm ct od an osl _ lk hcd N.hd N.bm) (hb c kV doc pm ct an) rv (hsp Tb H N.tab hsq)) fun r s' h=>?_
 obtain ⟨u,v,H',rfl,rv,⟨l,rfl,hl⟩,hok,h1,h2,h3⟩:=h
 obtain rfl:u=Value.ref l:=rv
 exact ⟨l,H',rfl,hl,hok,h1,h2,h3⟩
end
end Pg
end
section
set_option linter.all false
set_option maxRecDepth 100000
set_option maxHeartbeats 4000000
namespace Pg
open PySem PySem.Spec PyProof.Rows L2 Xc Sp
theorem d9s {cl:List (Str×Addr)} (h:(cl.map (·.2)).Nodup) {x y:Str}{c:Addr} (a:cl.lookup x=some c) (b:cl.lookup y=some c):x=y:=by
 have ha:=PySem.mem_of_lookup a
 have hb:=PySem.mem_of_lookup b
 clear a b
 induction cl with
 | nil=>simp at ha
 | cons p r ih=>
  rw [List.map_cons,List.nodup_cons] at h
  have no:∀ z:Str,(z,c)∈r→p.2≠c:=fun z hz e=>h.1 (List.mem_map.mpr ⟨_,hz,e.symm⟩)
  rcases List.mem_cons.mp ha with ha | ha <;> rcases List.mem_cons.mp hb with hb | hb
  ·rw [←ha] at hb;exact (Prod.mk.inj hb).1.symm
  ·exact absurd (by rw [←ha]) (no y hb)
  ·exact absurd (by rw [←hb]) (no x ha)
  ·exact ih h.2 ha hb
section
variable {P:Program}{w:World}{K:PySem.W.Frag}{mg:Str→Option Value}{base:Heap}{cs:Cs}
theorem dEM {k:Nat}{qual:Str}{scope:Scope}{f:Addr}{cl:List (Str×Addr)}{params:Arguments}{body:Expr}{x0:Str}{fr:List Str}{vals:List V}{sp:Sp}{env:Env}{N:List Str}{σ:L2.St} (L:dDb base f qual params body scope cl) (ci:CellsIn env N σ base) (hco:scope.isCoroutine=false) (hgen:scope.isGenerator=false) (hk:scope.kind=.function)
  (hcell:∀ x∈scope.names,x.2≠.cell) (hx0:scope.names.lookup x0=some .local) (hbind:∀ (pm ctv u:Value) (c':Addr),bindArgs (PySem.W.kla_fn "<lambda>" qual params body scope cl pm (.ref c') ctv) ⟨[u],[]⟩=pure [(x0,u)])
  (hnd:(cl.map (·.2)).Nodup) (hin:∀ p∈cl,env.cells.lookup p.1=some p.2) (hfree:∀ x,scope.names.lookup x=some .free→∃ c,cl.lookup x=some c) (hlen:fr.length=vals.length)
  (hfr:∀ (i:Nat) (x:Str) (v:V),fr[i]?=some x→vals[i]?=some v→∃ j:Nat,N[j]?=some x∧σ[j]?=some (some v)∧env.scope.names.lookup x=some .cell∧scope.names.lookup x=some .free)
  (hbody:∀ (A:Around) (outer:List Env) (s:Shared) (H:Hp) (cd:Value) (v:V) (Q:VK) (E:XK),Room k (A.deeper (PySem.W.envX qual scope s.heap.objs.size f cd cl))→sp [v] H Q E →
   ∃ t,PE (d8p P w K mg base (x0::fr) qual scope f cd cl A outer s H E) body t∧t (some v::vals.map some) H Q):dDG P w K mg base (k+1) f sp:=by
 refine dFz L hco hgen hk hcell hx0 hbind (fun x y c a b=>d9s hnd a b) hfree (fun x c e=>ci.cell x c (hin _ (PySem.mem_of_lookup e))) hlen (fun i x v e e'=>?_) hbody
 obtain ⟨j,h1,h2,h3,h4⟩:=hfr i x v e e'
 obtain ⟨c,u,hc,hz,r⟩:=ci.val j x v h1 h2 h3
 obtain ⟨c',hc'⟩:=hfree x h4
 have:=hin _ (PySem.mem_of_lookup hc')
 rw [hc] at this
 cases this
 exact ⟨h4,_,u,hc',hz,r⟩
end
end Pg
end
section
set_option linter.all false
set_option maxRecDepth 100000
set_option maxHeartbeats 4000000
namespace Pg
open PySem PySem.Spec PyProof.Rows L2 Xc Sp
structure RdyB (p:Nat) (B:Bk):Prop where
 ok:B.Ok
 sz:Sz B
 pr:Rb35.prime p=true
 le:p≤1000
 nar:w6 p B.ns
 wid:∀ n∈B.ns,n.2.length≤24
 lv:∀ x∈B.ls,(Rb35.leaves (den B.P B.ns x.2)).length≤24
def vL (K:PySem.W.Frag) (cs:Cs) (tm:Addr):Sp:=fun vs H Q E=>∃ (b:Addr) (A:BkA) (p:Nat) (B:Bk) (i m:Int) (pl:Addr) (w:List Nat),vs=[.ref b,.int i,.int m,.ref pl]∧BookAt cs H b A p B∧RdyB p B∧SqL K H pl (nV w)∧w.length≤600 ∧
 (∀ (k:Nat) (H':Hp),0≤i→(B.ls.map (·.2))[i.toNat]?=some k→0≤m→m.toNat < 2 ^ B.P→Rb35.fits p (g0 m.toNat (Rb35.leaves (den B.P B.ns k))).length w=true→Same H H'→Q (.int (fnd p (den B.P B.ns k) (gu m.toNat (Rb35.leaves (den B.P B.ns k)) w))) H') ∧
 (∀ k:Nat,0≤i→(B.ls.map (·.2))[i.toNat]?=some k→0≤m→m.toNat < 2 ^ B.P→¬ Rb35.fits p (g0 m.toNat (Rb35.leaves (den B.P B.ns k))).length w=true→Thr E tm (-3))∧(¬ (0≤i∧i.toNat < B.ls.length)→Thr E cs.oor (-2))∧(¬ (0≤m∧m.toNat < 2 ^ B.P)→Thr E cs.oor (-2))
def ju (i m:Int) (bs w:List Nat):List Int:=if 64 < w.length then [-2] else match Rb35.taken bs with
 | .bad v=>[v]
 | .good G=>match Rb35.formAt G i with
  | none=>[-2]
  | some f=>if Rb35.some_of G m=true then (if Rb35.fits G.p (g0 m.toNat (Rb35.leaves f)).length w=true then [fnd G.p f (gu m.toNat (Rb35.leaves f) w)] else [-3]) else [-2]
def d9m (K:PySem.W.Frag) (T:Addr):Sp:=fun vs H Q _=>∃ (la lc:Addr) (bs w:List Nat) (i m:Int),vs=[.int i,.int m,.ref la,.ref lc]∧SqL K H la (nV bs)∧(∀ b∈bs,b < 256)∧bs.length≤9000∧SqL K H lc (nV w)∧w.length≤600∧H T=some (.tbl #[])∧∀ l H',H' l=some (.lst (iV (ju i m bs w)))→Q (.ref l) H'
def dBt (K:PySem.W.Frag) (cs:Cs) (tm lc:Addr) (w:List Nat) (i m:Int):Sp:=fun vs H Q E=>∃ (b:Addr) (A:BkA) (p:Nat) (B:Bk),vs=[.ref b]∧BookAt cs H b A p B∧RdyB p B∧SqL K H lc (nV w)∧w.length≤600 ∧
 (∀ (k:Nat) (H':Hp) (l:Addr),0≤i→(B.ls.map (·.2))[i.toNat]?=some k→0≤m→m.toNat < 2 ^ B.P→Rb35.fits p (g0 m.toNat (Rb35.leaves (den B.P B.ns k))).length w=true→H' l=some (.lst [.int (fnd p (den B.P B.ns k) (gu m.toNat (Rb35.leaves (den B.P B.ns k)) w))])→Q (.ref l) H') ∧
 (∀ k:Nat,0≤i→(B.ls.map (·.2))[i.toNat]?=some k→0≤m→m.toNat < 2 ^ B.P→¬ Rb35.fits p (g0 m.toNat (Rb35.leaves (den B.P B.ns k))).length w=true→Thr E tm (-3))∧(¬ (0≤i∧i.toNat < B.ls.length)→Thr E cs.oor (-2))∧(¬ (0≤m∧m.toNat < 2 ^ B.P)→Thr E cs.oor (-2))
section
variable {P:Program}{w:World}{K:PySem.W.Frag}{mg:Str→Option Value}{base:Heap}{cs:Cs}{tm:Addr}
theorem sc_openedBy:FnScope ["book","form","who","parts","formula"] ["book","form","who","parts"] (dB st_opened_by):=⟨rfl,rfl,rfl,by decide +kernel,rfl,by decide +kernel,by decide +kernel⟩
theorem d8N (T:FunT K mg "opened_by" st_opened_by) (FO:DefOk P w K mg base 4 "formula_of" ["book","form"] (dDl cs)) (KP:DefOk P w K mg base 4 "keep_people" ["book","who"] (dDs cs)) (OP:DefOk P w K mg base 5 "opened" ["book","formula","who","parts"] (d9Q K cs tm)) :
  DefOk P w K mg base 6 "opened_by" ["book","form","who","parts"] (vL K cs tm):=by
 obtain ⟨f,fd,F,hm⟩:=T.ex
 refine ⟨f,fd,hm,F.kp,F.binds (fun _ _ _ _ _ _ us hl=>match us,hl with | [_,_,_,_],_=>rfl),okX F sc_openedBy (fun vs H Q E h=>?_) (fun cdv A outer s0 H vs Q E hr h=>?_)⟩
 ·obtain ⟨b,A,p,B,i,m,pl,w,rfl,_⟩:=h
  rfl
 ·obtain ⟨b,Ad,p,B,i,m,pl,w,rfl,R,rd,hpl,hw6,kq,kx,ky,kz⟩:=h
  refine ⟨_,dA (dX (i:=4) sc_openedBy.nd rfl (Or.inl rfl) (dj (FO.mono (by decide:4≤5)) hr rfl dY (d0 (pv 0) (d0 (pv 1) dD))))
   (dA (dN (dj (KP.mono (by decide:4≤5)) hr rfl dY (d0 (pv 0) (d0 (pv 2) dD))))
   (dE (dZ (dj OP hr rfl dY (d0 (pv 0) (d0 (pv 4) (d0 (pv 2) (d0 (pv 3) dD)))))))),?_⟩
  refine ⟨_,rfl,_,rfl,b,Ad,p,B,i,rfl,R,fun k h0 hk=>?_,ky⟩
  refine ⟨_,rfl,_,rfl,b,Ad,p,B,m,rfl,R,fun h1 h2=>?_,kz⟩
  obtain ⟨n,rfl⟩:=Int.eq_ofNat_of_zero_le h1
  obtain ⟨x,hx,ex⟩:=List.mem_map.mp (List.mem_of_getElem? hk)
  have hlt:k < B.P+B.ns.length:=by rw [←ex];exact rd.ok.lt x hx
  have hl24:(Rb35.leaves (den B.P B.ns k)).length≤24:=by rw [←ex];exact rd.lv x hx
  exact ⟨_,rfl,_,rfl,_,rfl,_,rfl,b,Ad,p,B,k,n,pl,w,rfl,R,rd.ok.good,rd.sz,hlt,hl24,rd.nar,rd.wid,rd.pr,rd.le,hpl,hw6,fun hf H' s1=>kq k H' h0 hk h1 h2 hf s1,fun hf=>kx k h0 hk h1 h2 hf⟩
theorem dBs:FnScope ["form","who","text","parts"] ["form","who","text","parts"] (dB st_open_by):=⟨rfl,rfl,rfl,by decide +kernel,rfl,by decide +kernel,by decide +kernel⟩
theorem dC8 {fa fA c T tm:Addr}{fdA:FuncData}{oc kV doc pm ct:Value}{od an:Option Addr}{osl:Array (Option Value)}
  (lk:K.lookup fa=some ⟨oc,od,.func (PySem.W.fnOf "open_by" "open_by" (gW st_open_by) (gC st_open_by) (dB st_open_by) .none kV doc pm an (.ref c) ct),osl⟩) (hcd:PySem.W.codeIn K (.ref c) "open_by"=true)
  (FA:Fun K "answered" "answered" st_answered fA fdA) (hmA:mg "answered"=some (.ref fA)) (B:Base K mg cs) (X:OwnT K mg "WrongNumbers" "WrongNumbers.__init__" st_WrongNumbers_init tm) (hM:∃ t,mg "MOST_NUMBERS"=some (.int 64 t)) (OB:∀ base',DefOk P w K mg base' 6 "opened_by" ["book","form","who","parts"] (vL K cs tm)) (C:PySem.W.CodeHd base c T) (hbm:dBl mg base) :
  FnOk P w K mg base (CXX P w) 12 fa (PySem.W.fnOf "open_by" "open_by" (gW st_open_by) (gC st_open_by) (dB st_open_by) .none kV doc pm an (.ref c) ct) ["form","who","text","parts"] (d9m K T):=by
 have bA:Binds K fdA ["in_range","text","ask"] []:=FA.binds (fun _ _ _ _ _ _ us hl=>match us,hl with | [_,_,_],_=>rfl)
 obtain ⟨tM,hM⟩:=hM
 refine dFA lk hcd dBs (fun vs H Q E h=>?_) fun A outer s0 H vs Q E hr h=>?_
 ·obtain ⟨la,lc,bs,r,i,m,rfl,_⟩:=h
  rfl
 ·obtain ⟨la,lc,bs,r,i,m,rfl,hla,hbs,hlb,hlc,hr6,hT,kq⟩:=h
  refine ⟨_,dE (dZ (dEN (sp:=wk P w K mg cs 10) (fun base'=>d8n (Nat.le_refl _) FA B.excs.mref B.excs B.cat (B.book P w base')) bA hr rfl hmA FA.kp (gi dDI (dP dJ (by rfl) B.len PySem.boot_len (d0 (pv 3) dD)) (da (v:=.int 64) (by rfl) hM ⟨tM,rfl⟩) (dW _)) (pv 2) (fun _=>rfl) rfl C hbm (by rfl) (by rfl))),?_⟩
  refine ⟨_,rfl,_,_,rfl,.inl hlc,_,_,rfl,rfl,_,rfl,#[],hT,trivial,rfl,fun more base' f L ci=>?_⟩
  refine ⟨decide (((nV r).length:Int)≤64),la,f,dBt K cs tm lc r i m,bs,rfl,?_,dE8 hT hla,hbs,hlb,fun z l H' hl=>kq l H' ?_,fun z v hv l H' hl=>kq l H' ?_,fun z G b Ab Bk' H' e1 e2 e3 e4 e5 e6 e7 e8=>?_⟩
  ·refine dEM (x0:="book") (fr:=["form","who","parts"]) (vals:=[.int i,.int m,.ref lc]) L ci rfl rfl rfl (by decide +kernel) rfl (fun _ _ _ _=>rfl) (by simp <;> omega) (fun p hp=>?_) (fun x hx=>?_) rfl (fun j x v e e'=>?_) fun A' outer' s' H' cd v Q' E' hr' h'=>?_
   ·simp only [List.mem_cons,List.not_mem_nil,or_false] at hp
    rcases hp with rfl | rfl | rfl <;> rfl
   ·have:=PySem.mem_of_lookup hx
    simp only [List.mem_cons,List.not_mem_nil,or_false,Prod.mk.injEq,reduceCtorEq,and_false,and_true,false_or] at this
    rcases this with rfl | rfl | rfl <;> exact ⟨_,rfl⟩
   ·match j,e,e' with
    | 0,rfl,rfl=>exact ⟨0,rfl,rfl,rfl,rfl⟩
    | 1,rfl,rfl=>exact ⟨1,rfl,rfl,rfl,rfl⟩
    | 2,rfl,rfl=>exact ⟨3,rfl,rfl,rfl,rfl⟩
    | j+3,e,_=>simp at e
   ·obtain ⟨b,Ab,p,Bk',hv,Rb,rd,hlc',hr6',kq',kx,ky,kz⟩:=h'
    cases hv
    refine ⟨_,jJ (d0 (dj ((OB base').mono (by decide:6≤9)) hr' rfl dCg (d0 (pv 0) (d0 (pv 1) (d0 (pv 2) (d0 (pv 3) dD))))) dD),?_⟩
    exact ⟨_,rfl,_,rfl,_,rfl,_,rfl,b,Ab,p,Bk',i,m,lc,r,rfl,Rb,rd,hlc',hr6',fun k H1 h0 hk h1 h2 hf s1=>⟨by show 1≤sizeLine;decide,fun l hl=>kq' k _ l h0 hk h1 h2 hf d9⟩,kx,ky,kz⟩
  ·have h1:=of_decide_eq_false z
   rw [dH] at h1
   unfold ju
   rw [if_pos (by omega),hl]
   rfl
  ·have h1:=of_decide_eq_true z
   rw [dH] at h1
   unfold ju
   rw [if_neg (by omega),hv]
   exact hl
  ·have h1:=of_decide_eq_true z
   rw [dH] at h1
   have hsm:Rb35.small ⟨G.p,Bk'.people,Bk'.known.lets⟩=true:=by
    have:G=⟨G.p,Bk'.people,Bk'.known.lets⟩:=by rw [←e5,←e6]
    rw [this] at e7
    exact e7
   obtain ⟨f1,f2⟩:=vj e1
   obtain ⟨_,_,g3,g4⟩:=(d69 e3 _).mp hsm
   have rd:RdyB G.p Bk':=⟨e3,e4,f2,by omega,g3,dGn e3.good fun j hj=>e3.cov.places 24 (fun k hk=>by
    obtain ⟨x,hx,rfl⟩:=List.mem_map.mp hk
    exact g4 x hx) hj,g4⟩
   have hS:=dEs (m:=m) e5
   have hn:¬ 64 < r.length:=by omega
   refine ⟨b,Ab,_,Bk',rfl,e2,rd,d4r e8 (dE8 hT hlc),hr6,fun k H'' l h0 hk h1 h2 hf hl=>kq l H'' ?_,fun k h0 hk h1 h2 hf=>k8 (X.sub B.excs) X.gx X.nn fun l H'' hl=>kq l H'' ?_,fun h=>k8 B.cat.soor B.cat.goor B.excs.noor fun l H'' hl=>kq l H'' ?_,fun h=>k8 B.cat.soor B.cat.goor B.excs.noor fun l H'' hl=>kq l H'' ?_⟩
   ·unfold ju
    rw [if_neg hn,e1]
    dsimp only
    rw [dBj e6 h0 hk]
    dsimp only
    rw [if_pos (hS.mpr ⟨h1,h2⟩),if_pos hf,hl]
    rfl
   ·unfold ju
    rw [if_neg hn,e1]
    dsimp only
    rw [dBj e6 h0 hk]
    dsimp only
    rw [if_pos (hS.mpr ⟨h1,h2⟩),if_neg hf,hl]
    rfl
   ·unfold ju
    rw [if_neg hn,e1]
    dsimp only
    rw [dEq e6 h,hl]
    rfl
   ·unfold ju
    rw [if_neg hn,e1,hl]
    dsimp only
    have hno:¬ Rb35.some_of G m=true:=fun z=>h (hS.mp z)
    cases q:Rb35.formAt G i with
    | none=>rfl
    | some f=>
     dsimp only
     rw [if_neg hno]
     rfl
theorem dB0 {l:List Int} (h:Rb35Neutral.few (l.length:Int) l=true):(∀ x∈l,0≤x)∧l.length≤64:=by
 unfold Rb35Neutral.few at h
 simp only [Bool.and_eq_true,decide_eq_true_eq,List.all_eq_true] at h
 obtain ⟨_,h2,h3⟩:=h
 refine ⟨fun x hx=>?_,?_⟩
 ·have:=h2 x hx
  unfold Rb35Neutral.natural at this
  simp only [Bool.and_eq_true,decide_eq_true_eq] at this
  exact this.1
 ·split at h3 <;> omega
theorem d8S (i m:Int) (text parts:List Int) (h:PyRb35.open_by_asked i m text parts=true):ju i m (text.map Int.toNat) (parts.map Int.toNat)=PyRb35.open_by i m text parts∧(∀ b∈text.map Int.toNat,b < 256)∧text.length≤600∧(∀ x∈text,0≤x)∧(∀ x∈parts,0≤x)∧parts.length≤64:=by
 have h1:(Rb35Neutral.text (text.length:Int) text&&(Rb35Neutral.whole32 i&&(Rb35Neutral.whole32 m&&(Rb35Neutral.few (parts.length:Int) parts&&Rb35Neutral.small text i false))))=true:=h
 obtain ⟨a1,a2,a3,hr⟩:=dAT (Bool.and_eq_true_iff.mp h1).1
 obtain ⟨c1,c3⟩:=dB0 (Bool.and_eq_true_iff.mp (Bool.and_eq_true_iff.mp (Bool.and_eq_true_iff.mp (Bool.and_eq_true_iff.mp h1).2).2).2).1
 refine ⟨?_,a1,a2,a3,c1,c3⟩
 show ju i m (Rb35Neutral.nats text) (Rb35Neutral.nats parts)=(Rb35.answer (.opens (Rb35Neutral.nats text) (text.length:Int) i m (Rb35Neutral.nats parts) (parts.length:Int))).v::((Rb35.answer (.opens (Rb35Neutral.nats text) (text.length:Int) i m (Rb35Neutral.nats parts) (parts.length:Int))).l.map fun (x:Nat)=>(x:Int))
 have hcl:(Rb35Neutral.nats parts).length=parts.length:=List.length_map _
 have hir:Rb35.inRange 0 (parts.length:Int) 64=true:=by
  unfold Rb35.inRange
  simp only [Bool.and_eq_true,decide_eq_true_eq]
  omega
 unfold ju Rb35.answer Rb35.begun
 dsimp only
 rw [if_neg (by omega),if_pos (by rw [hr,hir];rfl)]
 cases q0:Rb35.taken (Rb35Neutral.nats text) with
 | bad v=>rfl
 | good G=>
  have f2:=(vj q0).2
  unfold Rb35.asks
  dsimp only
  have qq:Rb35.formAt G i=none∨∃ f,Rb35.formAt G i=some f:=by
   cases Rb35.formAt G i with
   | none=>exact .inl rfl
   | some f=>exact .inr ⟨f,rfl⟩
  rcases qq with q | ⟨f,q⟩
  ·have:([i].any fun (i:Int)=>(Rb35.formAt G i).isNone)=true:=by simp [q]
   rw [if_pos this]
   simp only [q]
   rfl
  ·have:¬ ([i].any fun (i:Int)=>(Rb35.formAt G i).isNone)=true:=by simp [q]
   rw [if_neg this]
   simp only [q,Option.getD_some]
   have hsn:(Rb35.seen m.toNat f (Rb35.leaves f)).length=(g0 m.toNat (Rb35.leaves f)).length:=congrArg List.length (d3g m.toNat (Rb35.leaves f))
   rw [hsn]
   by_cases hs:Rb35.some_of G m=true
   ·have hs':¬ Rb35.some_of G m=false:=by rw [hs];decide
    rw [if_pos hs,if_neg hs']
    by_cases hf:Rb35.fits G.p (g0 m.toNat (Rb35.leaves f)).length (Rb35Neutral.nats parts)=true
    ·have hf':¬ Rb35.fits G.p (g0 m.toNat (Rb35.leaves f)).length (Rb35Neutral.nats parts)=false:=by rw [hf];decide
     rw [if_pos hf,if_neg hf']
     obtain ⟨g1,g2⟩:=d9X hf
     rw [d3W f2 (dAI q0 q).1 g1 g2]
     rfl
    ·have hf':Rb35.fits G.p (g0 m.toNat (Rb35.leaves f)).length (Rb35Neutral.nats parts)=false:=by simpa using hf
     rw [if_neg hf,if_pos hf']
     rfl
   ·have hs':Rb35.some_of G m=false:=by simpa using hs
    rw [if_neg hs,if_pos hs']
    rfl
theorem open_by_final {mb:Str→Option Value}{s₁:Shared}{fa a a2 tm:Addr}{p:Program}{loose:List Str}{mean:ExcName→Option Value}{vs vs2:List Value}{i m:Int}{ti t2:PySem.Tok}{ns ns2:List Int} (KX:K.In s₁.heap) (T:Top p loose mean mg mb s₁.heap) (hmg:mg "open_by"=some (.ref fa)) (hg:s₁.gens=#[])
  (hrec:((recsOf p).find? (fun e=>e.name==("open_by":Str))).isSome=true) (ht:(PySem.W.tabIn K "open_by").isSome=true) (hK:PySem.W.noTabs K=true) (B:Base K mg cs) (C:CallT K mg "open_by" st_open_by) (X:OwnT K mg "WrongNumbers" "WrongNumbers.__init__" st_WrongNumbers_init tm) (hNO:∃ t,mg "NO_SECRET"=some (.int (-4) t)) (hMA:∃ t,mg "MANY_SECRETS"=some (.int (-6) t)) (hM:∃ t,mg "MOST_NUMBERS"=some (.int 64 t)) (hen:mg "enumerate"=none)
  (M1:∃ C,mg "Book"=some (.ref C)∧MetT K C "is_person" "Book.is_person" st_Book_is_person) (M2:∃ C,mg "Book"=some (.ref C)∧MetT K C "node_of" "Book.node_of" st_Book_node_of) (FA:FunT K mg "answered" st_answered)
  (G1:FunT K mg "opened_by" st_opened_by) (G2:FunT K mg "opened" st_opened) (G3:FunT K mg "held_by" st_held_by) (G4:FunT K mg "found_of" st_found_of) (G5:FunT K mg "found_of_node" st_found_of_node) (G6:FunT K mg "value_through" st_value_through) (G7:FunT K mg "product" st_product) (G8:FunT K mg "inverse" st_inverse) (G9:FunT K mg "steps_of" st_steps_of) (GA:FunT K mg "owners_of" st_owners_of) (GB:FunT K mg "keep_numbers" st_keep_numbers) (GC:FunT K mg "keep_people" st_keep_people) (GD:FunT K mg "formula_of" st_formula_of)
  (ha:s₁.heap.get? a=some { cls:=.type "list",data:=.seq vs.toArray }) (hi:IntsAre vs ns) (ha2:s₁.heap.get? a2=some { cls:=.type "list",data:=.seq vs2.toArray }) (hi2:IntsAre vs2 ns2) (hask:PyRb35.open_by_asked i m ns ns2=true) :
  codeAny (model P w) callerA (.call (.ref fa) ⟨[.int i ti,.int m t2,.ref a,.ref a2],[]⟩) (fun r s'=>∃ l H',r=.ok (.ret (.ref l))∧H' l=some (.lst (iV (PyRb35.open_by i m ns ns2)))∧HOk P w H' s'.heap∧OldK s₁.heap s'.heap∧s'.os=s₁.os∧AllBare s'.gens) s₁:=by
 obtain ⟨due,hbs,hlen,hpos,hpos2,hlen2⟩:=d8S i m ns ns2 hask
 obtain ⟨fA,fdA,FA,hmA⟩:=FA.ex
 have OB:∀ base',DefOk P w K mg base' 6 "opened_by" ["book","form","who","parts"] (vL K cs tm):=fun base'=>by
  have IP:=dFq (P:=P) (w:=w) (mg:=mg) (base:=base') (B.met M1) B.clB B.naB B.len
  have NO:=dC7 (P:=P) (w:=w) (mg:=mg) (base:=base') (B.met M2) B.clB B.naB B.len
  have ST:=dCe G9 B.clB B.naB B.clN B.naN B.len IP NO
  have VT:=dFe (P:=P) (w:=w) (base:=base') G6 (dFJ G7) (dGA G8)
  have FO:=dCx G4 B.clB B.naB B.clN B.naN B.len ST IP NO (dDE G5 hNO hMA hen B.len B.any VT)
  exact d8N G1 (dF0 GD B.clB B.naB B.len (jQ B.excs)) (dF5 GC B.clB B.naB B.len (jQ B.excs)) (dAm G2 B.len (dBA GA B.clB ST IP) (dCv GB B.clB B.naB B.len B.any (dDH B.excs X)) (dEX G3 hMA) FO)
 refine dCW (sp:=d9m K) (ls:=[(a,vs,ns),(a2,vs2,ns2)]) (vs:=[.int i,.int m,.ref a,.ref a2]) KX T hmg hg hrec ht hK C (fun y hy=>?_) (.cons ⟨_,rfl⟩ (.cons ⟨_,rfl⟩ (.cons rfl (.cons rfl .nil)))) (fun c T oc kV doc pm ct od an osl base lk hcd hC hbm=>dC8 lk hcd FA hmA B X hM OB hC hbm) (fun _ _ _ _ _ _=>.of_eq rfl) fun T H hT hsq=>?_
 ·rcases List.mem_cons.mp hy with rfl | hy
  ·exact ⟨ha,hi,hlen⟩
  ·obtain rfl:=List.mem_singleton.mp hy
   exact ⟨ha2,hi2,Nat.le_trans hlen2 (by decide)⟩
 ·have hla:=hsq (a,vs,ns) (by simp)
  have hlc:=hsq (a2,vs2,ns2) (by simp)
  rw [dBM ns hpos] at hla
  rw [dBM ns2 hpos2] at hlc
  exact ⟨a,a2,ns.map Int.toNat,ns2.map Int.toNat,i,m,rfl,hla,hbs,by rw [List.length_map];omega,hlc,by rw [List.length_map];omega,hT,fun l H' hl=>⟨l,rfl,by rw [←due];exact hl⟩⟩
end
end Pg
end
section
set_option linter.all false
set_option maxRecDepth 100000
open PySem PySem.W PyProof.Rows
theorem Pg.said:PySem.Challenge.rw_secretparts_s06_open_by.wellSaid=true:=by decide +kernel
theorem Pg.app1 {α:Type} (f:Int→Int→List Int→List Int→α) (i0:Int) (i1:Int) (l2:List Int) (l3:List Int):Codec.app (R:=α) [.int (_root_.Int.negSucc 2147483647) (_root_.Int.ofNat 2147483647),.int (_root_.Int.negSucc 2147483647) (_root_.Int.ofNat 2147483647),.list 0 600 (.int (_root_.Int.ofNat 0) (_root_.Int.ofNat 255)),.list 0 64 (.int (_root_.Int.ofNat 0) (_root_.Int.ofNat 255))] f (i0,i1,l2,l3,())=f i0 i1 l2 l3:=rfl
theorem Pg.asked_eq (i0:Int) (i1:Int) (l2:List Int) (l3:List Int):Codec.app PySem.Challenge.rw_secretparts_s06_open_by.args PySem.Challenge.rw_secretparts_s06_open_by.asked (i0,i1,l2,l3,())=PyRb35.open_by_asked i0 i1 l2 l3:=
 Eq.trans (b:=Codec.app (R:=Bool) [.int (_root_.Int.negSucc 2147483647) (_root_.Int.ofNat 2147483647),.int (_root_.Int.negSucc 2147483647) (_root_.Int.ofNat 2147483647),.list 0 600 (.int (_root_.Int.ofNat 0) (_root_.Int.ofNat 255)),.list 0 64 (.int (_root_.Int.ofNat 0) (_root_.Int.ofNat 255))] PyRb35.open_by_asked (i0,i1,l2,l3,())) (by kernel_rfl) (Pg.app1 PyRb35.open_by_asked i0 i1 l2 l3)
theorem Pg.due_eq (i0:Int) (i1:Int) (l2:List Int) (l3:List Int):WData.list ((PyRb35.open_by i0 i1 l2 l3).map WData.int)=PySem.Challenge.rw_secretparts_s06_open_by.ret.enc (Codec.app PySem.Challenge.rw_secretparts_s06_open_by.args PySem.Challenge.rw_secretparts_s06_open_by.f (i0,i1,l2,l3,())):=by kernel_rfl
theorem Pg.enc_eq (i0:Int) (i1:Int) (l2:List Int) (l3:List Int):Codec.encAll PySem.Challenge.rw_secretparts_s06_open_by.args (i0,i1,l2,l3,())=[WData.int i0,WData.int i1,WData.list (l2.map WData.int),WData.list (l3.map WData.int)]:=by kernel_rfl
namespace PySem.W.Fast
def d5u:=0
def d2u:=0
def d1Q:=0
def d6t:=0
def d0k:=0
def d2M:=0
def d1k:=0
def d31:=0
def d2E:=0
def d7k:=0
def d2p:=0
def d4m:=0
def zz:=0
def d3u:=0
def d67:=0
def d4q:=0
def d2i:=0
def d1m:=0
def d6k:=0
def d7U:=0
def d4F:=0
def d1o:=0
def d6c:=0
def d2B:=0
def d0v:=0
def d3e:=0
def d09:=0
def d1D:=0
def d1F:=0
def d7P:=0
def d0l:=0
def d24:=0
def d2a:=0
def d4V:=0
def d5j:=0
def d7J:=0
def d3w:=0
def d03:=0
def d23:=0
def zT:=0
def d1x:=0
def zy:=0
def d7r:=0
def d5D:=0
def d6D:=0
def zA:=0
def d3v:=0
def d3L:=0
def d3H:=0
def d17:=0
def d0u:=0
def d7j:=0
def d0R:=0
def d66:=0
def d3F:=0
def d0w:=0
def d0L:=0
def d5Y:=0
def d5O:=0
def d3c:=0
def d3T:=0
def d7x:=0
def d30:=0
def d7H:=0
def d3l:=0
def d2w:=0
def d0s:=0
def d0x:=0
def d4D:=0
def d45:=0
def d33:=0
def d1E:=0
def d1p:=0
def d4u:=0
def d3M:=0
def d0H:=0
def d3Z:=0
def d2F:=0
def d28:=0
def d7K:=0
def d0Y:=0
def d2L:=0
def zR:=0
def d4o:=0
def d4P:=0
def d6g:=0
def d7S:=0
def d2e:=0
def d5R:=0
def d6C:=0
def d3m:=0
def d2K:=0
def d5E:=0
def d6p:=0
def d7h:=0
def d75:=0
def d5V:=0
def d7e:=0
def d77:=0
def zo:=0
def d2r:=0
def d18:=0
def d7W:=0
def d5r:=0
def d7s:=0
def d7R:=0
def d3x:=0
def d2b:=0
def d7u:=0
def d0N:=0
def d5i:=0
def d5t:=0
def d1V:=0
def d26:=0
def d4I:=0
def zd:=0
def d1H:=0
def zm:=0
def d7E:=0
def d1Y:=0
def d1u:=0
def zn:=0
def d5I:=0
def d37:=0
def d0r:=0
def d1t:=0
def zG:=0
def d0y:=0
def d1v:=0
def d8g:=0
def d2G:=0
def d1r:=0
def zi:=0
def zh:=0
def d1j:=0
def d4E:=0
def d7w:=0
def zc:=0
def d4Z:=0
def d12:=0
def d0C:=0
def d2T:=0
def d6w:=0
def d3R:=0
def d4a:=0
def d5k:=0
def zW:=0
def d3O:=0
def d6x:=0
def d1W:=0
def d5v:=0
def d1C:=0
def d4j:=0
def d6h:=0
def d7z:=0
def d53:=0
def d5W:=0
def d7F:=0
def d6d:=0
def d13:=0
def d6P:=0
def d6Q:=0
def d2g:=0
def zZ:=0
def d1d:=0
def d3y:=0
def d7f:=0
def d0G:=0
def d5f:=0
def d6y:=0
def d7b:=0
def zf:=0
def d1I:=0
def d5p:=0
def zP:=0
def zH:=0
def d5K:=0
def zt:=0
def d10:=0
def zj:=0
def d05:=0
def d3n:=0
def d2s:=0
def d4J:=0
def d2n:=0
def d2C:=0
def d19:=0
def d5S:=0
def d3K:=0
def d60:=0
def d1N:=0
def d4X:=0
def d6S:=0
def d4l:=0
def d52:=0
def d40:=0
def d0e:=0
def d0T:=0
def d4d:=0
def d63:=0
def d0S:=0
def d47:=0
def zQ:=0
def d5g:=0
def d6l:=0
def d2J:=0
def d3a:=0
def z6:=0
def zB:=0
def d08:=0
def d6i:=0
def d0M:=0
def d1L:=0
def d02:=0
def d2c:=0
def d0P:=0
def d7l:=0
def d1X:=0
def d3z:=0
def d00:=0
def d3Q:=0
def d5Z:=0
def d1n:=0
def d62:=0
def d6e:=0
def d29:=0
def zI:=0
def d54:=0
def d4g:=0
def d7y:=0
def d0p:=0
def z8:=0
def d6K:=0
def d2h:=0
def d0Q:=0
def d16:=0
def d07:=0
def d4v:=0
def d1R:=0
def d4c:=0
def zK:=0
def d1O:=0
def d3h:=0
def d7L:=0
def d0E:=0
def d4G:=0
def d6q:=0
def d81:=0
def d74:=0
def d6T:=0
def d5x:=0
def d1e:=0
def d2X:=0
def d2S:=0
def d7o:=0
def d4k:=0
def z5:=0
def d3Y:=0
def d68:=0
def d5h:=0
def d5Q:=0
def d6N:=0
def d6r:=0
def d4T:=0
def d6Y:=0
def d1g:=0
def d5U:=0
def d0j:=0
def d2t:=0
def d1w:=0
def d0B:=0
def d6I:=0
def d1z:=0
def d5q:=0
def d0m:=0
def d0D:=0
def zU:=0
def zO:=0
def d6a:=0
def d7n:=0
def d1Z:=0
def d57:=0
def d5N:=0
def d3q:=0
def d4h:=0
def d5A:=0
def d3J:=0
def d1J:=0
def d3I:=0
def d4s:=0
def d0K:=0
def d1T:=0
def d1h:=0
def d22:=0
def d2z:=0
def d2I:=0
def d1S:=0
def d7a:=0
def zu:=0
def d0Z:=0
def d27:=0
def d3d:=0
def d6z:=0
def zk:=0
def d4K:=0
def d14:=0
def d6n:=0
def d2y:=0
def d1K:=0
def d0U:=0
def d4N:=0
def d3j:=0
def d1l:=0
def d51:=0
def d0z:=0
def d4C:=0
def d2A:=0
def d1A:=0
def d4f:=0
def d0h:=0
def zw:=0
def d2U:=0
def d73:=0
def d2j:=0
def zr:=0
def d21:=0
def z9:=0
def d5P:=0
def d6f:=0
def d2H:=0
def d39:=0
def d3k:=0
def d7t:=0
def zX:=0
def d32:=0
def d0a:=0
def d0c:=0
def d2Z:=0
def d7I:=0
def zl:=0
def d1f:=0
def d6E:=0
def d4H:=0
def d6b:=0
def d46:=0
def zN:=0
def d58:=0
def d4B:=0
def d6Z:=0
def d7c:=0
def d0n:=0
def d3r:=0
def d1G:=0
def zC:=0
def d7p:=0
def d1U:=0
def d3D:=0
def d34:=0
def d3U:=0
def d7g:=0
def d41:=0
def d7M:=0
def d4x:=0
def d3P:=0
def d36:=0
def d71:=0
def d1a:=0
def d1b:=0
def d0X:=0
def d61:=0
def zF:=0
def d6U:=0
def d0q:=0
def d7X:=0
def d6V:=0
def d3f:=0
def d7T:=0
def d2D:=0
def d0V:=0
def d0g:=0
def d06:=0
def d7Z:=0
def d6G:=0
def d0J:=0
def d1y:=0
def d25:=0
def d3C:=0
def d6L:=0
def d0I:=0
def d7v:=0
def zq:=0
def d6O:=0
def d79:=0
def d6v:=0
def d38:=0
def zJ:=0
def d65:=0
def d0o:=0
def d1B:=0
def zb:=0
def zE:=0
def d1P:=0
def d4S:=0
def ze:=0
def d4L:=0
def d5m:=0
def d11:=0
def d5l:=0
def d7Y:=0
def d64:=0
def z7:=0
def d4i:=0
def d4O:=0
def d5e:=0
def d2d:=0
def d0F:=0
def d2O:=0
def zp:=0
def d0f:=0
def d1M:=0
def d7B:=0
def d35:=0
def d0b:=0
def d7V:=0
def d0t:=0
def d4y:=0
def d5M:=0
def d0O:=0
def d04:=0
def d6o:=0
def d5z:=0
def d7m:=0
def zL:=0
def d5s:=0
def d50:=0
def d7D:=0
def d5G:=0
def d4w:=0
def d3A:=0
def d3i:=0
def zg:=0
def d7i:=0
def d2N:=0
def d7C:=0
def d6m:=0
def d20:=0
def d5L:=0
def d3t:=0
def d4t:=0
def d80:=0
def d2f:=0
def d0W:=0
def d44:=0
def d2l:=0
def d3p:=0
def d15:=0
def d6W:=0
def d59:=0
def d3N:=0
def d1i:=0
def zM:=0
def d2P:=0
def d1c:=0
def d4W:=0
def d2m:=0
def zD:=0
def d7N:=0
def zx:=0
def d6F:=0
def d5H:=0
def d4U:=0
def d7Q:=0
def zY:=0
def d6H:=0
def d56:=0
def d0A:=0
def d0i:=0
def d6M:=0
def d70:=0
def d0d:=0
def d3G:=0
def d4p:=0
def d5n:=0
def d4A:=0
def d7d:=0
def d2W:=0
def d1s:=0
def d2V:=0
def d2R:=0
def d1q:=0
def d2Q:=0
def d6s:=0
def d4n:=0
def d6B:=0
def d7q:=0
def zS:=0
def d6u:=0
def d5X:=0
def d72:=0
def d3X:=0
def d3E:=0
def d5c:=0
def d8P:=0
def d01:=0
end PySem.W.Fast
set_option maxHeartbeats 0 in
theorem PySem.Challenge.cw_secretparts_s06_open_by_holds : PySem.Challenge.rw_secretparts_s06_open_by.Holds := by
 w_on;k_headS
 (case hw=>exact ⟨[.int 0,.int 0,.list [],.list []],by decide +kernel,by decide +kernel⟩)
 k_fillS
 intro w s₀ s₁ mg mb G Y fa o pm cd doc dV kV ho hd hcd hD hmg hg args vals as hpre hlay hrd hwl hlo
 have KX:=kIn_of Y
 have B:∃ cs,Pg.Base (L2.KOf KX) mg cs:=by
  dsimp only [L2.KOf]
  refine' ⟨_,Pg.base_mk ?t_nod ?cl_nod ?na_nod ?t_boo ?cl_boo ?na_boo ?t_boo_add_person ?t_boo_add_node ?t_boo_add_let ?t_tok ?cl_tok ?na_tok ?t_bra ?cl_bra ?na_bra ?t_bra_end_both ?t_bra_end_formula ?t_rea ?cl_rea ?na_rea ?t_rea_now ?t_rea_take ?t_rea_take_written ?t_rea_take_new_name ?t_rea_take_known_name ?t_rea_take_prime ?t_rea_take_asked ?t_joined ?t_closed ?t_is_field ?t_end_of_signs ?t_run_end ?t_kind_of ?t_row_of ?t_tokens_of ?t_all_places ?t_keep_limits ?t_begin_brackets ?t_close_brackets ?t_read_between ?t_read_formula ?t_read_field ?t_read_people ?t_read_let ?t_book_of ?m_ref ?fc_ref ?l_ref ?c_ref ?k_ref ?rd_ref ?ga_ref ?nt_ref ?it_ref ?ie_ref ?t_oor ?nn_oor ?su_oor ?gx_oor ?t_ovl ?nn_ovl ?su_ovl ?gx_ovl ?t_cst ?nn_cst ?su_cst ?gx_cst ?z_len ?z_int ?z_all ?z_any ?z_range ?z_sum ?z_ord ?z_dict ?w_NAME ?w_NUMBER ?w_OTHER ?w_END ?w_LETTERS ?w_DIGITS ?w_WORD_SIGNS ?w_OTHER_SIGNS ?w_LONGEST_WORD ?w_LONGEST_NUMBER ?w_GREATEST_PRIME ?w_MOST_PEOPLE ?w_MOST_LETS ?w_MOST_PLACES ?w_LONGEST_TEXT ?v_KW ?l_KW ?v_BB ?l_BB ?d1 ?d2 ?d3 ?d4 ?d5 ?d6⟩
  case t_nod=>refine' Pg.cla_top KX G.T.g ?m ?t ?i ?n ?u ?l ?c ?k;case m | t | i | n | u | l | c | k=>k_is
  case cl_nod=>constructor <;> k_is
  case na_nod=>repeat (first | exact Pg.noat_nil | refine Pg.noat_cons (by k_is) ?_)
  case t_boo=>refine' Pg.cla_top KX G.T.g ?m ?t ?i ?n ?u ?l ?c ?k;case m | t | i | n | u | l | c | k=>k_is
  case cl_boo=>constructor <;> k_is
  case na_boo=>repeat (first | exact Pg.noat_nil | refine Pg.noat_cons (by k_is) ?_)
  case t_boo_add_person | t_boo_add_node | t_boo_add_let=>refine' Pg.met_top ?i ?n ?l ?c ?k;case i | n | l | c | k=>k_is
  case t_tok=>refine' Pg.cla_top KX G.T.g ?m ?t ?i ?n ?u ?l ?c ?k;case m | t | i | n | u | l | c | k=>k_is
  case cl_tok=>constructor <;> k_is
  case na_tok=>repeat (first | exact Pg.noat_nil | refine Pg.noat_cons (by k_is) ?_)
  case t_bra=>refine' Pg.cla_top KX G.T.g ?m ?t ?i ?n ?u ?l ?c ?k;case m | t | i | n | u | l | c | k=>k_is
  case cl_bra=>constructor <;> k_is
  case na_bra=>repeat (first | exact Pg.noat_nil | refine Pg.noat_cons (by k_is) ?_)
  case t_bra_end_both | t_bra_end_formula=>refine' Pg.met_top ?i ?n ?l ?c ?k;case i | n | l | c | k=>k_is
  case t_rea=>refine' Pg.cla_top KX G.T.g ?m ?t ?i ?n ?u ?l ?c ?k;case m | t | i | n | u | l | c | k=>k_is
  case cl_rea=>constructor <;> k_is
  case na_rea=>repeat (first | exact Pg.noat_nil | refine Pg.noat_cons (by k_is) ?_)
  case t_rea_now | t_rea_take | t_rea_take_written | t_rea_take_new_name | t_rea_take_known_name | t_rea_take_prime | t_rea_take_asked=>refine' Pg.met_top ?i ?n ?l ?c ?k;case i | n | l | c | k=>k_is
  case t_joined | t_closed | t_is_field | t_end_of_signs | t_run_end | t_kind_of | t_row_of | t_tokens_of | t_all_places | t_keep_limits | t_begin_brackets | t_close_brackets | t_read_between | t_read_formula | t_read_field | t_read_people | t_read_let | t_book_of=>refine' Pg.fun_top KX G.T.g ?m ?l ?c ?k;case m | l | c | k=>k_is
  case m_ref=>exact PySem.W.mg_of KX G.T.g (by k_is)
  case fc_ref | l_ref | c_ref | k_ref | rd_ref | ga_ref | nt_ref | it_ref | ie_ref=>k_is
  case t_oor=>refine' Pg.exc_top KX G.T.g ?m ?t ?i ?l ?c ?k ?u ?a ?o ?d ?b;(case m | t | i | l | c | k | u | a | d=>k_is);(case o | b=>kernel_rfl)
  case nn_oor | su_oor=>k_is
  case gx_oor=>constructor <;> k_is
  case t_ovl=>refine' Pg.exc_top KX G.T.g ?m ?t ?i ?l ?c ?k ?u ?a ?o ?d ?b;(case m | t | i | l | c | k | u | a | d=>k_is);(case o | b=>kernel_rfl)
  case nn_ovl | su_ovl=>k_is
  case gx_ovl=>constructor <;> k_is
  case t_cst=>refine' Pg.exc_top KX G.T.g ?m ?t ?i ?l ?c ?k ?u ?a ?o ?d ?b;(case m | t | i | l | c | k | u | a | d=>k_is);(case o | b=>kernel_rfl)
  case nn_cst | su_cst=>k_is
  case gx_cst=>constructor <;> k_is
  case z_len | z_int | z_all | z_any | z_range | z_sum | z_ord | z_dict=>exact PySem.W.mg_none_of KX G.T.g (by k_is)
  case w_NAME | w_NUMBER | w_OTHER | w_END | w_LETTERS | w_DIGITS | w_WORD_SIGNS | w_OTHER_SIGNS | w_LONGEST_WORD | w_LONGEST_NUMBER | w_GREATEST_PRIME | w_MOST_PEOPLE | w_MOST_LETS | w_MOST_PLACES | w_LONGEST_TEXT=>exact ⟨_,PySem.W.mg_of KX G.T.g (by k_is)⟩
  case v_KW=>exact PySem.W.mg_of KX G.T.g (by k_is)
  case l_KW=>k_is
  case v_BB=>exact PySem.W.mg_of KX G.T.g (by k_is)
  case l_BB=>k_is
  case d1 | d2 | d3 | d4 | d5 | d6=>first | rfl | decide | kernel_rfl
 obtain ⟨cs,B⟩:=B
 have X_WrongNumbers:∃ tm,Pg.OwnT (L2.KOf KX) mg "WrongNumbers" "WrongNumbers.__init__" Pg.st_WrongNumbers_init tm:=by
  dsimp only [L2.KOf]
  refine' ⟨_,⟨?e,?n,?s,?g⟩⟩
  case e=>refine' Pg.exc_top KX G.T.g ?m ?t ?i ?l ?c ?k ?u ?a ?o ?d ?b;(case m | t | i | l | c | k | u | a | d=>k_is);(case o | b=>kernel_rfl)
  case n=>k_is
  case s=>exact ⟨_,PySem.W.mg_of KX G.T.g (by k_is),by k_is⟩
  case g=>constructor <;> k_is
 obtain ⟨tm_WrongNumbers,X_WrongNumbers⟩:=X_WrongNumbers
 have W_NO_SECRET:∃ t,mg "NO_SECRET"=some (.int (-4) t):=⟨_,PySem.W.mg_of KX G.T.g (by k_is)⟩
 have W_MANY_SECRETS:∃ t,mg "MANY_SECRETS"=some (.int (-6) t):=⟨_,PySem.W.mg_of KX G.T.g (by k_is)⟩
 have W_MOST_NUMBERS:∃ t,mg "MOST_NUMBERS"=some (.int 64 t):=⟨_,PySem.W.mg_of KX G.T.g (by k_is)⟩
 have Z_enumerate:mg "enumerate"=none:=PySem.W.mg_none_of KX G.T.g (by k_is)
 have M_is_person:∃ C,mg "Book"=some (.ref C)∧Pg.MetT (L2.KOf KX) C "is_person" "Book.is_person" Pg.st_Book_is_person:=by
  dsimp only [L2.KOf]
  refine' ⟨_,PySem.W.mg_of KX G.T.g (by k_is),?z⟩
  case z=>refine' Pg.met_top ?i ?n ?l ?c ?k;case i | n | l | c | k=>k_is
 have M_node_of:∃ C,mg "Book"=some (.ref C)∧Pg.MetT (L2.KOf KX) C "node_of" "Book.node_of" Pg.st_Book_node_of:=by
  dsimp only [L2.KOf]
  refine' ⟨_,PySem.W.mg_of KX G.T.g (by k_is),?z⟩
  case z=>refine' Pg.met_top ?i ?n ?l ?c ?k;case i | n | l | c | k=>k_is
 have T_answered:Pg.FunT (L2.KOf KX) mg "answered" Pg.st_answered:=by dsimp only [L2.KOf];refine' Pg.fun_top KX G.T.g ?m ?l ?c ?k;case m | l | c | k=>k_is
 have T_opened_by:Pg.FunT (L2.KOf KX) mg "opened_by" Pg.st_opened_by:=by dsimp only [L2.KOf];refine' Pg.fun_top KX G.T.g ?m ?l ?c ?k;case m | l | c | k=>k_is
 have T_opened:Pg.FunT (L2.KOf KX) mg "opened" Pg.st_opened:=by dsimp only [L2.KOf];refine' Pg.fun_top KX G.T.g ?m ?l ?c ?k;case m | l | c | k=>k_is
 have T_held_by:Pg.FunT (L2.KOf KX) mg "held_by" Pg.st_held_by:=by dsimp only [L2.KOf];refine' Pg.fun_top KX G.T.g ?m ?l ?c ?k;case m | l | c | k=>k_is
 have T_found_of:Pg.FunT (L2.KOf KX) mg "found_of" Pg.st_found_of:=by dsimp only [L2.KOf];refine' Pg.fun_top KX G.T.g ?m ?l ?c ?k;case m | l | c | k=>k_is
 have T_found_of_node:Pg.FunT (L2.KOf KX) mg "found_of_node" Pg.st_found_of_node:=by dsimp only [L2.KOf];refine' Pg.fun_top KX G.T.g ?m ?l ?c ?k;case m | l | c | k=>k_is
 have T_value_through:Pg.FunT (L2.KOf KX) mg "value_through" Pg.st_value_through:=by dsimp only [L2.KOf];refine' Pg.fun_top KX G.T.g ?m ?l ?c ?k;case m | l | c | k=>k_is
 have T_product:Pg.FunT (L2.KOf KX) mg "product" Pg.st_product:=by dsimp only [L2.KOf];refine' Pg.fun_top KX G.T.g ?m ?l ?c ?k;case m | l | c | k=>k_is
 have T_inverse:Pg.FunT (L2.KOf KX) mg "inverse" Pg.st_inverse:=by dsimp only [L2.KOf];refine' Pg.fun_top KX G.T.g ?m ?l ?c ?k;case m | l | c | k=>k_is
 have T_steps_of:Pg.FunT (L2.KOf KX) mg "steps_of" Pg.st_steps_of:=by dsimp only [L2.KOf];refine' Pg.fun_top KX G.T.g ?m ?l ?c ?k;case m | l | c | k=>k_is
 have T_owners_of:Pg.FunT (L2.KOf KX) mg "owners_of" Pg.st_owners_of:=by dsimp only [L2.KOf];refine' Pg.fun_top KX G.T.g ?m ?l ?c ?k;case m | l | c | k=>k_is
 have T_keep_numbers:Pg.FunT (L2.KOf KX) mg "keep_numbers" Pg.st_keep_numbers:=by dsimp only [L2.KOf];refine' Pg.fun_top KX G.T.g ?m ?l ?c ?k;case m | l | c | k=>k_is
 have T_keep_people:Pg.FunT (L2.KOf KX) mg "keep_people" Pg.st_keep_people:=by dsimp only [L2.KOf];refine' Pg.fun_top KX G.T.g ?m ?l ?c ?k;case m | l | c | k=>k_is
 have T_formula_of:Pg.FunT (L2.KOf KX) mg "formula_of" Pg.st_formula_of:=by dsimp only [L2.KOf];refine' Pg.fun_top KX G.T.g ?m ?l ?c ?k;case m | l | c | k=>k_is
 have C:Pg.CallT (L2.KOf KX) mg "open_by" Pg.st_open_by:=by
  dsimp only [L2.KOf]
  refine' Pg.call_mk KX G.T.g ?m ?l ?k
  case m | l | k=>k_is
 obtain ⟨⟨i0,i1,l2,l3,un⟩,hin,hask,rfl⟩:=(OpenSpec.pre_iff Pg.said args).mp hpre
 cases un
 have hask2:=(Pg.asked_eq i0 i1 l2 l3).symm.trans hask
 rw [Pg.enc_eq] at hwl
 cases hwl with | cons w0 hwl=>
 cases hwl with | cons w1 hwl=>
 cases hwl with | cons w2 hwl=>
 cases hwl with | cons w3 hwl=>
 cases hwl
 obtain ⟨t0,rfl⟩:=Pg.well_int w0
 obtain ⟨t1,rfl⟩:=Pg.well_int w1
 obtain ⟨a2,vs2,rfl,ha2,hi2⟩:=Pg.well_ints w2
 obtain ⟨a3,vs3,rfl,ha3,hi3⟩:=Pg.well_ints w3
 refine enter_call (codeAny_mono (Pg.open_by_final KX G.T hmg hg (by kernel_rfl) (by kernel_rfl) (by kernel_rfl) B C X_WrongNumbers W_NO_SECRET W_MANY_SECRETS W_MOST_NUMBERS Z_enumerate M_is_person M_node_of T_answered T_opened_by T_opened T_held_by T_found_of T_found_of_node T_value_through T_product T_inverse T_steps_of T_owners_of T_keep_numbers T_keep_people T_formula_of ha2 hi2 ha3 hi3 hask2) fun r s' h=>?_)
 obtain ⟨l,H',rfl,hl,hok,h1,h2,h3⟩:=h
 exact Pg.good_list hok hl ((OpenSpec.post_iff Pg.said hin _ _).mpr (Pg.due_eq i0 i1 l2 l3)) h1 h2 h3
end
