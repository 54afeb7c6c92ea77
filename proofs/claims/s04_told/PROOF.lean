import PyProof.Rows.All
import Wide.All
import OpenK.AllK
import Wide.FinOn
import PyProof.EqAt
import PyProof.EqKinds
import PyProof.TupleCall
import KE.BitLaws
import PyProof.PassesOwn
import PyProof.StationsW
import PyProof.ExcInit
import PyProof.InstStoreFacts
import PyProof.ExcBaseAll.Exception
import Rb35Spec
import OpenK.KCls
import PyProof.ExcAttrAll.Exception
import KE.KLam
import KE.OsGo
import Open.SpecLaws
import PyRb35
import PySem.Challenge.RW0_secretparts_s04_told
import PySem.Challenge.RW_secretparts_s04_told
set_option Elab.async false
section
set_option linter.all false
set_option maxRecDepth 100000
namespace L2
open PySem PySem.Spec PyProof.Rows
abbrev Key:=Sum Int Str
def keyIs : Key→Value→Bool
 | .inl k,v=>Value.isInt k v
 | .inr x,v=>Value.isStrOf x v
def keyH (w : World) : Key→Int
 | .inl k=>hashInt k
 | .inr x=>hashStr w x
theorem keyIs_shape : ∀ {k : Key} {v : Value},keyIs k v = true→(∃ i t,k = Sum.inl i∧v = Value.int i t)∨(∃ x t,k = Sum.inr x∧v = Value.str x t)
 | .inl i,v,h=>by
  obtain ⟨t,e⟩:=Value.isInt_shape (k:=i) (v:=v) h
  exact .inl ⟨i,t,rfl,e⟩
 | .inr x,v,h=>by
  obtain ⟨t,e⟩:=Value.isStrOf_shape (x:=x) (v:=v) h
  exact .inr ⟨x,t,rfl,e⟩
theorem keyIs_int (i : Int) (t : Tok) : keyIs (.inl i) (.int i t) = true:=by simp [keyIs,Value.isInt]
theorem keyIs_str (x : Str) (t : Tok) : keyIs (.inr x) (.str x t) = true:=by simp [keyIs,Value.isStrOf]
theorem key_ll (a b : Int) : decide ((Sum.inl a : Key) = Sum.inl b) = (a == b):=by
 by_cases e : a = b
 ·subst e; simp
 ·have h : ¬ (Sum.inl a : Key) = Sum.inl b:=fun q=>e (Sum.inl.inj q)
  rw [decide_eq_false h]
  exact (beq_eq_false_iff_ne.mpr e).symm
theorem key_rr (a b : Str) : decide ((Sum.inr a : Key) = Sum.inr b) = decide (a = b):=by
 by_cases e : a = b
 ·subst e; simp
 ·have h : ¬ (Sum.inr a : Key) = Sum.inr b:=fun q=>e (Sum.inr.inj q)
  rw [decide_eq_false h,decide_eq_false e]
theorem key_lr (a : Int) (b : Str) : decide ((Sum.inl a : Key) = Sum.inr b) = false:=decide_eq_false (fun q=>nomatch q)
theorem key_rl (a : Str) (b : Int) : decide ((Sum.inr a : Key) = Sum.inl b) = false:=decide_eq_false (fun q=>nomatch q)
def mixKind (prog : Program) (w : World) : PySem.KeyKind prog w Key where
 is:=keyIs
 hash:=keyH w
 inj:=fun v a b ha hb=>by
  rcases keyIs_shape ha with ⟨i,t,rfl,rfl⟩ | ⟨x,t,rfl,rfl⟩
  ·rcases keyIs_shape hb with ⟨j,u,rfl,e⟩ | ⟨y,u,rfl,e⟩
   ·injection e with e1 _; rw [e1]
   ·exact nomatch e
  ·rcases keyIs_shape hb with ⟨j,u,rfl,e⟩ | ⟨y,u,rfl,e⟩
   ·exact nomatch e
   ·injection e with e1 _; rw [e1]
 byValue:=fun k v h=>by
  rcases keyIs_shape h with ⟨i,t,rfl,rfl⟩ | ⟨x,t,rfl,rfl⟩ <;> rfl
 pyHash:=fun hv h=>by
  rcases keyIs_shape hv with ⟨i,t,rfl,rfl⟩ | ⟨x,t,rfl,rfl⟩
  ·exact wpAny_pyHash_int h
  ·exact wpAny_pyHash_str h
 eqBool:=fun hu hv h=>by
  rcases keyIs_shape hu with ⟨i,t,rfl,rfl⟩ | ⟨x,t,rfl,rfl⟩
  ·rcases keyIs_shape hv with ⟨j,u,rfl,rfl⟩ | ⟨y,u,rfl,rfl⟩
   ·rw [key_ll] at h; exact wpAny_eqBool_int h
   ·rw [key_lr] at h; exact SeqAt.EqAt.int_str i t y u _ _ _ _ h
  ·rcases keyIs_shape hv with ⟨j,u,rfl,rfl⟩ | ⟨y,u,rfl,rfl⟩
   ·rw [key_rl] at h; exact SeqAt.EqAt.str_int x t j u _ _ _ _ h
   ·rw [key_rr] at h; exact wpAny_eqBool_str h
 «strs»:=fun k x t v h=>by
  rcases keyIs_shape h with ⟨i,u,rfl,e⟩ | ⟨y,u,rfl,e⟩
  ·exact nomatch e
  ·injection e with e1 _
   subst e1
   cases v <;> rfl
theorem mixKind_int (prog : Program) (w : World) (i : Int) (t : Tok) : (mixKind prog w).is (.inl i) (.int i t) = true:=keyIs_int i t
theorem mixKind_str (prog : Program) (w : World) (x : Str) (t : Tok) : (mixKind prog w).is (.inr x) (.str x t) = true:=keyIs_str x t
end L2
namespace L2
open PySem PySem.Spec PyProof.Rows
inductive V where
 | non | bl (b : Bool) | int (i : Int) | str (x : Str) | byt (b : Array UInt8) | flt (b : UInt64) | ref (a : Addr) | ty (n : String)
 deriving DecidableEq
def RelV : V→Value→Prop
 | .non,u=>u = Value.none
 | .bl b,u=>u = Value.bool b
 | .int i,u=>∃ t,u = Value.int i t
 | .str x,u=>∃ t,u = Value.str x t
 | .byt b,u=>∃ t,u = Value.bytes b t
 | .flt b,u=>∃ t,u = Value.float b t
 | .ref a,u=>u = Value.ref a
 | .ty n,u=>u = Value.type n
abbrev Vals : List V→List Value→Prop:=Paired RelV
theorem Vals.length {xs : List V} {us : List Value} (r : Vals xs us) : xs.length = us.length:=Paired.length r
theorem Vals.get : ∀ {xs : List V} {us : List Value} {i : Nat} {x : V},Vals xs us→xs[i]? = some x→∃ u,us[i]? = some u∧RelV x u
 | _,_,_,_,.nil,e=>by simp at e
 | _,_,0,_,.cons r _,e=>by simp at e; subst e; exact ⟨_,rfl,r⟩
 | _,_,i + 1,x,.cons _ t,e=>by
  obtain ⟨u,h1,h2⟩:=Vals.get (i:=i) (x:=x) t (by simpa using e)
  exact ⟨u,by simpa using h1,h2⟩
theorem Vals.append : ∀ {xs ys : List V} {us ws : List Value},Vals xs us→Vals ys ws→Vals (xs++ys) (us++ws)
 | _,_,_,_,.nil,s=>s
 | _,_,_,_,.cons r t,s=>.cons r (Vals.append t s)
def RelO : Option V→Option Value→Prop
 | some v,some u=>RelV v u
 | none,none=>True
 | _,_=>False
def KV {κ : Type} : List (κ × V)→List (κ × Value)→Prop:=Paired fun (p : κ × V) (q : κ × Value)=>p.1 = q.1∧RelV p.2 q.2
def kV : Key→V
 | .inl i=>.int i
 | .inr x=>.str x
inductive HO where
 | lst (xs : List V)
 | tup (xs : List V)
 | dK (kvs : List (Key × V)) | dT (kvs : List (List Key × V))
 | set (S : Int→Bool) (n : Nat)
 | ins (C dx : Addr) (fs : List (Str × V))
 | own (x : Addr)
 | xd (fs : List (Str × V))
 | met (f x : Addr)
 | rng (lo hi : Int)
 | frz (o : Obj) (u : HO)
 | tbl (ps : Array Value)
 | ext (φ : Heap→Prop)
abbrev Hp:=Addr→Option HO
def upd (H : Hp) (a : Addr) (o : HO) : Hp:=fun b=>if b = a then some o else H b
theorem upd_same {H : Hp} {a : Addr} {o : HO} : upd H a o a = some o:=by unfold upd; rw [if_pos rfl]
theorem upd_ne {H : Hp} {a b : Addr} {o : HO} (h : b ≠ a) : upd H a o b = H b:=by unfold upd; rw [if_neg h]
theorem upd_upd {H : Hp} {a : Addr} {o u : HO} : upd (upd H a o) a u = upd H a u:=by
 funext b; unfold upd; split <;> rfl
theorem ne_of {H : Hp} {a b : Addr} {o u : HO} (h : H a = some o) (h' : H b = some u) (d : o ≠ u) : a ≠ b:=by
 intro e; subst e; rw [h] at h'; exact d (Option.some.inj h')
theorem ne_of_none {H : Hp} {a b : Addr} {o : HO} (h : H a = some o) (h' : H b = none) : a ≠ b:=by
 intro e; subst e; rw [h] at h'; cases h'
section
variable (P : Program) (w : World)
def ObjOk (H : Hp) (h : Heap) (a : Addr) : HO→Prop
 | .lst xs=>xs.length≤sizeLine∧∃ (its : List Value) (n : Nat),Vals xs its∧h.get? a = some { cls:=.type "list",data:=.seq its.toArray n }
 | .tup xs=>xs.length≤sizeLine∧∃ its : List Value,Vals xs its∧IsTup h a its.toArray
 | .dK kvs=>kvs.length≤sizeLine∧(a == sysModules) = false∧∃ vs,KV kvs vs∧h.DictOf (mixKind P w) a vs
 | .dT kvs=>kvs.length≤sizeLine∧(a == sysModules) = false∧∃ xs : List (List Key × Addr × Value),
   Paired (fun (p : List Key × V) (q : List Key × Addr × Value)=>p.1 = q.1∧H q.2.1 = some (.tup (p.1.map kV))∧RelV p.2 q.2.2) kvs xs ∧
   ∃ o es ep,h.get? a = some o∧o.ExactDict∧o.data = .dict es ep∧es.toList = xs.map (entryOfKey (tupleKind (mixKind P w)))∧(xs.map (·.1)).Nodup
 | .set S n=>h.SetOf (intKind P w) a S n
 | .ins C dx fs=>H dx = some (.own a)∧fs.length≤1000∧dx ≠ a∧h.get? a = some (PySem.W.instObj C dx) ∧
   ∃ mA,h.Ns1 dx mA∧(∀ f,RelO (fs.lookup f) (mA f))∧PySem.Within mA (fs.map (·.1))
 | .own _=>∃ o,h.get? a = some o
 | .xd fs=>∃ mA,h.Ns1 a mA∧∀ f,RelO (fs.lookup f) (mA f)
 | .rng lo hi=>∃ t u v,h.get? a = some { cls:=.type "range",data:=.fields #[.int lo t,.int hi u,.int 1 v] }
 | .frz o u=>h.get? a = some o∧ObjOk H h a u
 | .tbl ps=>h.get? a = some { cls:=.none,data:=.fields ps }
 | .met f x=>h.get? a = some (PySem.W.methodObj (.ref f) (.ref x))
 | .ext φ=>φ h∧(∃ o,h.get? a = some o)∧∀ h1 h2 : Heap,φ h1→(∀ o,h1.get? a = some o→h2.get? a = some o)→φ h2
def HOk (H : Hp) (h : Heap) : Prop:=∀ a o,H a = some o→ObjOk P w H h a o
end
section
variable {P : Program} {w : World} {H H' : Hp} {h h' : Heap} {a : Addr} {o : HO}
theorem ObjOk.lt (x : ObjOk P w H h a o) : a < h.objs.size:=by
 cases o with
 | lst xs=>obtain ⟨_,_,_,_,e⟩:=x; exact Heap.lt_size e
 | tup xs=>obtain ⟨_,_,_,p⟩:=x; exact p.lt
 | dK kvs=>obtain ⟨_,_,_,_,o,_,_,e,_⟩:=x; exact Heap.lt_size e
 | dT kvs=>obtain ⟨_,_,_,_,o,_,_,e,_⟩:=x; exact Heap.lt_size e
 | set S n=>obtain ⟨o,_,_,_,e,_⟩:=x; exact Heap.lt_size e
 | ins C dx fs=>obtain ⟨_,_,_,e,_⟩:=x; exact Heap.lt_size e
 | own y=>obtain ⟨_,e⟩:=x; exact Heap.lt_size e
 | xd fs=>obtain ⟨_,⟨_,_,_,e,_⟩,_⟩:=x; exact Heap.lt_size e
 | rng lo hi=>obtain ⟨_,_,_,e⟩:=x; exact Heap.lt_size e
 | frz ob u=>obtain ⟨e,_⟩:=x; exact Heap.lt_size e
 | tbl ps=>exact Heap.lt_size (show h.get? a = some _ from x)
 | met f y=>exact Heap.lt_size (show h.get? a = some _ from x)
 | ext φ=>obtain ⟨_,⟨_,e⟩,_⟩:=x; exact Heap.lt_size e
theorem Paired.mapP {α β : Type} {F G : α→β→Prop} : ∀ {l₁ : List α} {l₂ : List β},Paired F l₁ l₂→(∀ a b,F a b→G a b)→Paired G l₁ l₂
 | _,_,.nil,_=>.nil
 | _,_,.cons r t,f=>.cons (f _ _ r) (Paired.mapP t f)
theorem ObjOk.stay (x : ObjOk P w H h a o) (k : ∀ b u,(b = a∨H b = some (.own a))→h.get? b = some u→h'.get? b = some u)
  (ho : ∀ b,H b = some (.own a)→H' b = some (.own a)) (ht : ∀ b xs,H b = some (.tup xs)→H' b = some (.tup xs)) : ObjOk P w H' h' a o:=by
 induction o with
 | lst xs=>obtain ⟨z,its,n,r,e⟩:=x; exact ⟨z,its,n,r,k _ _ (.inl rfl) e⟩
 | tup xs=>obtain ⟨z,its,r,ob,e,c⟩:=x; exact ⟨z,its,r,ob,k _ _ (.inl rfl) e,c⟩
 | dK kvs=>obtain ⟨z,y,vs,r,ob,es,ep,e,c⟩:=x; exact ⟨z,y,vs,r,ob,es,ep,k _ _ (.inl rfl) e,c⟩
 | dT kvs =>
  obtain ⟨z,y,xs,r,ob,es,ep,e,c⟩:=x
  exact ⟨z,y,xs,Paired.mapP r fun p q z=>⟨z.1,ht _ _ z.2.1,z.2.2⟩,ob,es,ep,k _ _ (.inl rfl) e,c⟩
 | set S n=>obtain ⟨ob,es,ep,t,e,c⟩:=x; exact ⟨ob,es,ep,t,k _ _ (.inl rfl) e,c⟩
 | ins C dx fs =>
  obtain ⟨d,z,ne,e,mA,⟨od,es,ep,e2,c⟩,r⟩:=x
  exact ⟨ho _ d,z,ne,k _ _ (.inl rfl) e,mA,⟨od,es,ep,k _ _ (.inr d) e2,c⟩,r⟩
 | own y=>obtain ⟨ob,e⟩:=x; exact ⟨ob,k _ _ (.inl rfl) e⟩
 | xd fs=>obtain ⟨mA,⟨od,es,ep,e,c⟩,r⟩:=x; exact ⟨mA,⟨od,es,ep,k _ _ (.inl rfl) e,c⟩,r⟩
 | rng lo hi=>obtain ⟨t,u,v,e⟩:=x; exact ⟨t,u,v,k _ _ (.inl rfl) e⟩
 | frz ob u ih=>obtain ⟨e,q⟩:=x; exact ⟨k _ _ (.inl rfl) e,ih q⟩
 | tbl ps =>
  have e : h.get? a = some { cls:=.none,data:=.fields ps }:=x
  show h'.get? a = some { cls:=.none,data:=.fields ps }
  exact k a _ (.inl rfl) e
 | met f y =>
  have e : h.get? a = some (PySem.W.methodObj (.ref f) (.ref y)):=x
  show h'.get? a = some (PySem.W.methodObj (.ref f) (.ref y))
  exact k a _ (.inl rfl) e
 | ext φ=>obtain ⟨p,⟨o,e⟩,st⟩:=x; exact ⟨st _ _ p fun o q=>k _ _ (.inl rfl) q,⟨o,k _ _ (.inl rfl) e⟩,st⟩
theorem HOk.lt (x : HOk P w H h) (e : H a = some o) : a < h.objs.size:=(x a o e).lt
theorem HOk.fresh (x : HOk P w H h) (e : h.objs.size≤a) : H a = none:=by
 cases q : H a with
 | none=>rfl
 | some u=>exact absurd (Nat.lt_of_lt_of_le (x.lt q) e) (Nat.lt_irrefl _)
theorem HOk.kept (x : HOk P w H h) (k : ∀ b u,h.get? b = some u→h'.get? b = some u) : HOk P w H h':=fun a o e =>
 (x a o e).stay (fun b u _ q=>k b u q) (fun _ q=>q) fun _ _ q=>q
theorem HOk.laid (x : HOk P w H h) (k : ∀ b u,h.get? b = some u→h'.get? b = some u) (hp : h.objs.size≤a) (new : ObjOk P w (upd H a o) h' a o) : HOk P w (upd H a o) h':=fun b u e=>by
 have hn:=x.fresh hp
 by_cases hb : b = a
 ·subst hb; rw [upd_same] at e; cases e; exact new
 ·rw [upd_ne hb] at e
  exact (x b u e).stay (fun c v _ q=>k c v q) (fun c q=>by rw [upd_ne (ne_of_none q hn)]; exact q) fun c xs q=>by rw [upd_ne (ne_of_none q hn)]; exact q
end
def Rd (H : Hp) (a : Addr) (u : HO) : Prop:=H a = some u∨∃ o,H a = some (.frz o u)
theorem Rd.ok {P : Program} {w : World} {H : Hp} {h : Heap} {a : Addr} {u : HO} (r : Rd H a u) (x : HOk P w H h) : ObjOk P w H h a u:=by
 rcases r with r | ⟨o,r⟩
 ·exact x a u r
 ·obtain ⟨_,q⟩:=x a _ r
  exact q
def Mut : Option HO→Prop
 | some (.lst _)=>True
 | some (.dK _)=>True
 | some (.dT _)=>True
 | some (.set _ _)=>True
 | some (.ins _ _ _)=>True
 | some (.ext _)=>True
 | _=>False
section
variable {P : Program} {w : World} {H : Hp} {h h' : Heap} {x e : Addr} {o' : HO}
theorem HOk.write (ok : HOk P w H h) (mu : Mut (H x)) (he : e = x∨H e = some (.own x)) (k : ∀ b u,b ≠ e→h.get? b = some u→h'.get? b = some u) (heo : ∃ u,h'.get? e = some u)
  (new : ObjOk P w (upd H x o') h' x o') : HOk P w (upd H x o') h':=fun b u q=>by
 have nown : ∀ c y,H c = some (.own y)→c ≠ x:=fun c y r z=>by subst z; rw [r] at mu; exact mu
 have ntup : ∀ c xs,H c = some (.tup xs)→c ≠ x:=fun c xs r z=>by subst z; rw [r] at mu; exact mu
 by_cases hb : b = x
 ·subst hb; rw [upd_same] at q; cases q; exact new
 ·rw [upd_ne hb] at q
  by_cases hbe : b = e
  ·have q' : H b = some (.own x):=by
    rcases he with z | z
    ·exact absurd (hbe.trans z) hb
    ·rw [hbe]; exact z
   rw [q] at q'; cases q'
   obtain ⟨v,hv⟩:=heo
   exact ⟨v,by rw [hbe]; exact hv⟩
  ·refine (ok b u q).stay (fun c v hc r=>k c v ?_ r) (fun c r=>by rw [upd_ne (nown c b r)]; exact r) fun c xs r=>by rw [upd_ne (ntup c xs r)]; exact r
   rcases hc with rfl | hc
   ·exact hbe
   ·rintro rfl
    rcases he with z | z
    ·exact nown c b hc z
    ·rw [hc] at z; cases z; exact hb rfl
end
structure Un (fs ex : List Addr) (H H' : Hp) (h h' : Heap) : Prop where
 keep : ∀ b o,h.get? b = some o→H b = none→b ∉ fs→b ∉ ex→h'.get? b = some o
 slot : ∀ b o,h.get? b = some o→H b = none→b ∈ fs→b ∉ ex→∃ sl,h'.get? b = some { o with slots:=sl }
 free : ∀ b o,h.get? b = some o→H b = none→b ∉ ex→H' b = none
 there : ∀ b o,h.get? b = some o→b ∉ ex→∃ o',h'.get? b = some o'
 tups : ∀ b xs,H b = some (.tup xs)→H' b = some (.tup xs)
 frzs : ∀ b o u,H b = some (.frz o u)→H' b = some (.frz o u)
 tbls : ∀ b ps,H b = some (.tbl ps)→∃ more,H' b = some (.tbl (ps++more))
section
variable {fs fs' ex ex' : List Addr} {H H1 H2 : Hp} {h h1 h2 h' : Heap} {a x e : Addr} {o : HO}
theorem Un.any (u : Un fs ex H H1 h h1) {b : Addr} {ob : Obj} (q : h.get? b = some ob) (n : H b = none) (hx : b ∉ ex) : ∃ sl,h1.get? b = some { ob with slots:=sl }:=by
 by_cases hb : b ∈ fs
 ·exact u.slot b ob q n hb hx
 ·exact ⟨ob.slots,u.keep b ob q n hb hx⟩
theorem Un.kept (k : ∀ b u,h.get? b = some u→h'.get? b = some u) : Un fs ex H H h h' :=
 ⟨fun b ob q _ _ _=>k b ob q,fun b ob q _ _ _=>⟨ob.slots,k b ob q⟩,fun _ _ _ n _=>n,fun b ob q _=>⟨ob,k b ob q⟩,fun _ _ q=>q,fun _ _ _ q=>q,fun _ ps q=>⟨#[],by rw [q]; simp⟩⟩
theorem Un.refl : Un fs ex H H h h:=Un.kept fun _ _ q=>q
theorem Un.laid (k : ∀ b u,h.get? b = some u→h'.get? b = some u) (hp : h.objs.size≤a) (hn : H a = none) : Un fs ex H (upd H a o) h h' where
 keep:=fun b u q _ _ _=>k b u q
 slot:=fun b u q _ _ _=>⟨u.slots,k b u q⟩
 free:=fun b u q n _=>by rw [upd_ne (Nat.ne_of_lt (Nat.lt_of_lt_of_le (Heap.lt_size q) hp))]; exact n
 there:=fun b u q _=>⟨u,k b u q⟩
 tups:=fun b xs q=>by rw [upd_ne (ne_of_none q hn)]; exact q
 frzs:=fun b u xs q=>by rw [upd_ne (ne_of_none q hn)]; exact q
 tbls:=fun b ps q=>⟨#[],by rw [upd_ne (ne_of_none q hn),q]; simp⟩
theorem Un.write (mu : Mut (H x)) (he : e = x∨H e = some (.own x)) (k : ∀ b u,b ≠ e→h.get? b = some u→h'.get? b = some u) (heo : ∃ u,h'.get? e = some u) : Un fs ex H (upd H x o) h h':=by
 have hx : ∀ b,H b = none→b ≠ x:=fun b n z=>by subst z; rw [n] at mu; exact mu
 have hb : ∀ b,H b = none→b ≠ e:=fun b n z=>by
  subst z
  rcases he with r | r
  ·exact hx b n r
  ·rw [n] at r; cases r
 have hm : ∀ b u,H b = some u→¬ Mut (some u)→b ≠ x:=fun b u q nm z=>by subst z; rw [q] at mu; exact nm mu
 refine ⟨fun b u q n _ _=>k b u (hb b n) q,fun b u q n _ _=>⟨u.slots,k b u (hb b n) q⟩,fun b u q n _=>by rw [upd_ne (hx b n)]; exact n,fun b u q _=>?_,
  fun b xs q=>by rw [upd_ne (hm b _ q fun z=>z)]; exact q,fun b u xs q=>by rw [upd_ne (hm b _ q fun z=>z)]; exact q,fun b ps q=>⟨#[],by rw [upd_ne (hm b _ q fun z=>z),q]; simp⟩⟩
 by_cases hbe : b = e
 ·subst hbe; exact heo
 ·exact ⟨u,k b u hbe q⟩
end
def trk (h : Heap) (H : Hp) : List Addr:=(List.range h.objs.size).filter fun a=>(H a).isSome
def hidT (h : Heap) (H : Hp) : Heap:=PySem.W.hideAll h (trk h H)
theorem hidT_size (h : Heap) (H : Hp) : (hidT h H).objs.size = h.objs.size:=PySem.W.hideAll_size _ _
theorem hidT_get {h : Heap} {H : Hp} {b : Addr} {o : Obj} (e : h.get? b = some o) (n : H b = none) : (hidT h H).get? b = some o :=
 PySem.W.hideAll_get _ e fun hm=>by
  have q : (H b).isSome = true:=(List.mem_filter.mp hm).2
  rw [n] at q; simp at q
theorem of_hidT {h : Heap} {H : Hp} {b : Addr} {o : Obj} (e : (hidT h H).get? b = some o) : h.get? b = some o∧H b = none:=by
 have e' : h.get? b = some o:=PySem.W.of_hideAll (trk h H) e
 refine ⟨e',?_⟩
 cases q : H b with
 | none=>rfl
 | some x =>
  have hm : b ∈ trk h H:=List.mem_filter.mpr ⟨List.mem_range.mpr (Heap.lt_size e'),by simp [q]⟩
  have z : (hidT h H).get? b = none:=PySem.W.hideAll_none (trk h H) hm
  rw [z] at e; cases e
end L2
namespace L2
open PySem PySem.Spec PyProof.Rows
structure Mod (K : PySem.W.Frag) (mg : Str→Option Value) (base : Heap) : Prop where
 kin : K.In base
 glob : base.Ns mainGlobals mg
 blt : ∃ mb,base.Ns builtinsNs mb∧∀ x : Str,x ≠ "__name__"→mb x = bootBuiltins x
 nolimit : base.NoLimit
structure Cx where
 prog : Program
 w : World
 K : PySem.W.Frag
 mg : Str→Option Value
 base : Heap
 A : Around
 N : List Str
 s_0 : Shared
 H_0 : Hp
 env : Env
 outer : List Env
 stack : List Env
 ex : List Addr
 fn : Str→Bool
 calm : Bool
 pn : List (Addr × Obj)
 xe : Value→Shared→Prop
def frs (l : List Env) : List Addr:=l.filterMap (·.frame)
abbrev Cx.fs (X : Cx) : List Addr:=frs X.outer
def Vis (sc : Scope) (x : Str) : Prop:=sc.names.lookup x = some .local∨sc.names.lookup x = some .cell∨sc.names.lookup x = some .free
def Loc (sc : Scope) (x : Str) : Prop:=sc.names.lookup x = some .local∨sc.names.lookup x = some .cell
def Look (env : Env) (h : Heap) (m : Str→Option Value) (x : Str) (u : Value) : Prop :=
 (env.kindOf x = some .local∧m x = some u)∨((env.kindOf x = some .cell∨env.kindOf x = some .free)∧∃ c,env.cells.lookup x = some c∧h.IsCell c (some u))
structure Cx.Ok (X : Cx) : Prop where
 mod : Mod X.K X.mg X.base
 kind : X.env.scope.kind = .function
 glob : X.env.globals = mainGlobals
 blt : X.env.builtins = builtinsNs
 above : X.s_0.heap.objs.size≤X.env.locals
 inj : ∀ x y c,X.env.cells.lookup x = some c→X.env.cells.lookup y = some c→x = y
 has : ∀ x,(X.env.kindOf x = some .cell∨X.env.kindOf x = some .free)→∃ c,X.env.cells.lookup x = some c
 cab : ∀ x c,X.fn x = true→X.env.cells.lookup x = some c→X.s_0.heap.objs.size≤c
 hd : X.calm = true→X.A.handled = none
 frames : X.A.frames = some X.stack
 stk : X.stack = X.outer∨(X.stack = X.env::X.outer∧X.env.frame = some X.env.locals)
 exf : ∀ b ∈ X.ex,b ≠ X.env.locals∧∀ x c,X.env.cells.lookup x = some c→c ≠ b
 bs : ∀ b o,X.base.get? b = some o→X.s_0.heap.get? b = some o∧X.H_0 b = none
 bsz : X.base.objs.size≤X.s_0.heap.objs.size
 noex : ∀ b o,X.base.get? b = some o→b ∉ X.ex
 exfs : ∀ b ∈ X.ex,b ∉ X.fs
 funs : X.s_0.heap.FunFrames X.base X.outer
 frf : ∀ b ∈ X.fs,X.H_0 b = none
structure Inv (X : Cx) (pins : List (Addr × Obj)) (σ : List (Option V)) (H : Hp) (s : Shared) : Prop where
 ok : X.Ok
 os : s.os = X.s_0.os
 bare : AllBare s.gens
 base : Un X.fs X.ex X.H_0 H X.s_0.heap s.heap
 loc : ∃ m,s.heap.Ns X.env.locals m∧∀ (i : Nat) (x : Str) (v : V),X.N[i]? = some x→σ[i]? = some (some v)→Vis X.env.scope x→∃ u,RelV v u∧Look X.env s.heap m x u
 cell : ∀ x c,X.env.cells.lookup x = some c→∃ v,s.heap.IsCell c v
 free : H X.env.locals = none
 freeC : ∀ x c,X.env.cells.lookup x = some c→H c = none
 pin : ∀ p ∈ X.pn++pins,s.heap.get? p.1 = some p.2∧H p.1 = none∧p.1 ≠ X.env.locals∧p.1 ∉ X.fs∧∀ v,p.2.data ≠ .cell v
 hok : HOk X.prog X.w H s.heap
 len : σ.length = X.N.length
section
variable {X : Cx} {pins : List (Addr × Obj)} {σ : List (Option V)} {H H' : Hp} {s : Shared} {h' : Heap}
theorem Cx.Ok.nofr (ok : X.Ok) {b : Addr} {o : Obj} (e : X.base.get? b = some o) : b ∉ X.fs:=fun hb=>by
 have:=(ok.funs.mem hb).1
 rw [e] at this; cases this
theorem Inv.bs (I : Inv X pins σ H s) : ∀ b o,X.base.get? b = some o→s.heap.get? b = some o∧H b = none:=fun b o e =>
 ⟨I.base.keep b o (I.ok.bs b o e).1 (I.ok.bs b o e).2 (I.ok.nofr e) (I.ok.noex b o e),I.base.free b o (I.ok.bs b o e).1 (I.ok.bs b o e).2 (I.ok.noex b o e)⟩
theorem Inv.bk (I : Inv X pins σ H s) : ∀ b o,X.base.get? b = some o→s.heap.get? b = some o:=fun b o e=>(I.bs b o e).1
theorem Inv.mod (I : Inv X pins σ H s) : Mod X.K X.mg X.base:=I.ok.mod
theorem Inv.kIn (I : Inv X pins σ H s) : X.K.In s.heap:=I.ok.mod.kin.keeps I.bk
theorem Inv.lt (I : Inv X pins σ H s) : X.env.locals < s.heap.objs.size:=let ⟨_,hn,_⟩:=I.loc; hn.lt
theorem Inv.sz (I : Inv X pins σ H s) : X.s_0.heap.objs.size≤s.heap.objs.size:=Nat.le_trans I.ok.above (Nat.le_of_lt I.lt)
theorem Inv.nofs (I : Inv X pins σ H s) {a : Addr} (h : s.heap.objs.size≤a) : a ∉ X.fs:=fun hb=>by
 obtain ⟨_,o,ho,_⟩:=I.ok.funs.mem hb
 exact absurd (Nat.lt_of_lt_of_le (Heap.lt_size ho) (Nat.le_trans I.sz h)) (Nat.lt_irrefl _)
theorem Inv.cne (I : Inv X pins σ H s) : ∀ x c,X.env.cells.lookup x = some c→c ≠ X.env.locals:=fun x c e z=>by
 obtain ⟨v,o,ho,hd⟩:=I.cell x c e
 obtain ⟨m,⟨o',es,ep,ho',hd',_⟩,_⟩:=I.loc
 rw [z,ho'] at ho; cases ho; rw [hd'] at hd; cases hd
theorem Inv.funs (I : Inv X pins σ H s) : s.heap.FunFrames X.base X.outer:=by
 have all : ∀ (l : List Env),(∀ b ∈ frs l,b ∈ X.fs)→X.s_0.heap.FunFrames X.base l→s.heap.FunFrames X.base l:=by
  intro l
  induction l with
  | nil=>intro _ _; trivial
  | cons env r ih =>
   intro hs hl
   obtain ⟨hk,⟨L,o,hf,hn,ho,hd⟩,hr⟩:=hl
   have hL : L ∈ X.fs:=hs L (by unfold frs; rw [List.filterMap_cons,hf]; exact List.mem_cons_self)
   obtain ⟨sl,e⟩:=I.base.slot L o ho (I.ok.frf L hL) hL fun z=>I.ok.exfs L z hL
   exact ⟨hk,⟨L,_,hf,hn,e,hd⟩,ih (fun b hb=>hs b (by unfold frs; rw [List.filterMap_cons,hf]; exact List.mem_cons_of_mem _ hb)) hr⟩
 exact all X.outer (fun _ hb=>hb) I.ok.funs
theorem Inv.stack (I : Inv X pins σ H s) : s.heap.FunFrames X.base X.stack:=by
 rcases I.ok.stk with e | ⟨e,hf⟩
 ·rw [e]; exact I.funs
 ·rw [e]
  obtain ⟨m,hn,_⟩:=I.loc
  refine .cons (by rw [I.ok.kind]; decide) hf hn ?_ I.funs
  exact Heap.get?_none_of_le (Nat.le_trans I.ok.bsz I.ok.above)
theorem Inv.stkSub (I : Inv X pins σ H s) : ∀ b ∈ frs X.stack,b ∈ X.env.locals::X.fs:=fun b hb=>by
 rcases I.ok.stk with e | ⟨e,hf⟩
 ·rw [e] at hb; exact List.mem_cons_of_mem _ hb
 ·rw [e] at hb
  unfold frs at hb
  rw [List.filterMap_cons,hf] at hb
  exact hb
theorem Inv.stkFree (I : Inv X pins σ H s) : ∀ b ∈ frs X.stack,H b = none:=fun b hb=>by
 rcases List.mem_cons.mp (I.stkSub b hb) with e | hb
 ·rw [e]; exact I.free
 ·obtain ⟨_,o,ho,_⟩:=I.ok.funs.mem hb
  exact I.base.free b o ho (I.ok.frf b hb) fun z=>I.ok.exfs b z hb
theorem Inv.step {g' : Array GenState} {t' : Nat} {d' : Drawn} {ch : List Addr} (I : Inv X pins σ H s)
  (hch : ∀ b ∈ ch,(b ∈ X.ex∨X.s_0.heap.objs.size≤b)∧b ≠ X.env.locals∧(∀ x c,X.env.cells.lookup x = some c→c ≠ b)∧∀ p ∈ X.pn++pins,p.1 ≠ b)
  (keep : ∀ b o,b ≠ X.env.locals→b ∉ X.fs→b ∉ ch→s.heap.get? b = some o→H b = none→h'.get? b = some o)
  (slot : ∀ b o,b ≠ X.env.locals→b ∈ X.fs→b ∉ ch→s.heap.get? b = some o→H b = none→∃ sl,h'.get? b = some { o with slots:=sl }) (free : ∀ b o,b ∉ ch→s.heap.get? b = some o→H b = none→H' b = none)
  (there : ∀ b o,b ∉ ch→s.heap.get? b = some o→∃ o',h'.get? b = some o')
  (tups : ∀ b xs,H b = some (.tup xs)→H' b = some (.tup xs)) (frzs : ∀ b o u,H b = some (.frz o u)→H' b = some (.frz o u)) (tbls : ∀ b ps,H b = some (.tbl ps)→∃ more,H' b = some (.tbl (ps++more)))
  (ns : ∀ m,s.heap.Ns X.env.locals m→h'.Ns X.env.locals m) (hok : HOk X.prog X.w H' h') (hg : AllBare g') :
  Inv X pins σ H' { s with heap:=h',gens:=g',drawn:=d',toks:=t' }:=by
 have neL : ∀ b o,X.s_0.heap.get? b = some o→b ≠ X.env.locals:=fun b o e=>Nat.ne_of_lt (Nat.lt_of_lt_of_le (Heap.lt_size e) I.ok.above)
 have neC : ∀ b o,X.s_0.heap.get? b = some o→b ∉ X.ex→b ∉ ch:=fun b o e hx hb=>by
  rcases (hch b hb).1 with z | z
  ·exact hx z
  ·exact absurd (Nat.lt_of_lt_of_le (Heap.lt_size e) z) (Nat.lt_irrefl _)
 have cellK : ∀ x c,X.env.cells.lookup x = some c→∀ v,s.heap.IsCell c v→h'.IsCell c v:=fun x c e v ⟨o,ho,hd⟩=>by
  have nch : c ∉ ch:=fun z=>(hch c z).2.2.1 x c e rfl
  by_cases hc : c ∈ X.fs
  ·obtain ⟨sl,q⟩:=slot c o (I.cne x c e) hc nch ho (I.freeC x c e)
   exact ⟨_,q,hd⟩
  ·exact ⟨o,keep c o (I.cne x c e) hc nch ho (I.freeC x c e),hd⟩
 refine ⟨I.ok,I.os,hg,⟨fun b o e n hb hx=>?_,fun b o e n hb hx=>?_,fun b o e n hx=>?_,fun b o e hx=>?_,fun b xs e=>tups b xs (I.base.tups b xs e),fun b o xs e=>frzs b o xs (I.base.frzs b o xs e),fun b ps e=>?_⟩,?_,fun x c e=>?_,?_,fun x c e=>?_,fun p hp=>?_,hok,I.len⟩
 ·exact keep b o (neL b o e) hb (neC b o e hx) (I.base.keep b o e n hb hx) (I.base.free b o e n hx)
 ·obtain ⟨sl,e1⟩:=I.base.slot b o e n hb hx
  obtain ⟨sl',e2⟩:=slot b _ (neL b o e) hb (neC b o e hx) e1 (I.base.free b o e n hx)
  exact ⟨sl',e2⟩
 ·obtain ⟨o',e1⟩:=I.base.there b o e hx
  exact free b o' (neC b o e hx) e1 (I.base.free b o e n hx)
 ·obtain ⟨o',e1⟩:=I.base.there b o e hx
  exact there b o' (neC b o e hx) e1
 ·obtain ⟨m1,e1⟩:=I.base.tbls b ps e
  obtain ⟨m2,e2⟩:=tbls b _ e1
  exact ⟨m1++m2,by rw [e2,Array.append_assoc]⟩
 ·obtain ⟨m,hn,hl⟩:=I.loc
  refine ⟨m,ns m hn,fun i x v e1 e2 e3=>?_⟩
  obtain ⟨u,r,l⟩:=hl i x v e1 e2 e3
  refine ⟨u,r,?_⟩
  rcases l with l | ⟨k,c,e,z⟩
  ·exact .inl l
  ·exact .inr ⟨k,c,e,cellK x c e _ z⟩
 ·obtain ⟨v,z⟩:=I.cell x c e
  exact ⟨v,cellK x c e v z⟩
 ·obtain ⟨m,⟨o,_,_,ho,_⟩,_⟩:=I.loc
  exact free _ o (fun z=>(hch _ z).2.1 rfl) ho I.free
 ·obtain ⟨v,o,ho,hd⟩:=I.cell x c e
  exact free c o (fun z=>(hch c z).2.2.1 x c e rfl) ho (I.freeC x c e)
 ·obtain ⟨e,n,ne,nf,d⟩:=I.pin p hp
  have nch : p.1 ∉ ch:=fun z=>(hch p.1 z).2.2.2 p hp rfl
  exact ⟨keep p.1 p.2 ne nf nch e n,free p.1 p.2 nch e n,ne,nf,d⟩
theorem Inv.un {t' : Nat} (I : Inv X pins σ H s) (u : Un X.fs [] H H' s.heap h') (hok : HOk X.prog X.w H' h') : Inv X pins σ H' { s with heap:=h',toks:=t' }:=by
 obtain ⟨m,⟨o,es,ep,ho,r⟩,_⟩:=id I.loc
 obtain ⟨sl,hL⟩:=u.any ho I.free (by simp)
 exact I.step (g':=s.gens) (d':=s.drawn) (ch:=[]) (fun _ z=>nomatch z) (fun b o _ hb _ e n=>u.keep b o e n hb (by simp)) (fun b o _ hb _ e n=>u.slot b o e n hb (by simp)) (fun b o _ e n=>u.free b o e n (by simp)) (fun b o _ e=>u.there b o e (by simp)) u.tups u.frzs u.tbls (fun m' hm=>by
  obtain ⟨o',es',ep',ho',r'⟩:=hm
  rw [ho] at ho'; cases ho'
  exact ⟨_,es',ep',hL,r'⟩) hok I.bare
theorem Inv.call {g' : Array GenState} {t' : Nat} {d' : Drawn} {ch : List Addr} (I : Inv X pins σ H s) (u : Un (frs X.stack) ch H H' s.heap h') (hok : HOk X.prog X.w H' h') (hg : AllBare g')
  (hch : ∀ b ∈ ch,(b ∈ X.ex∨X.s_0.heap.objs.size≤b)∧b ≠ X.env.locals∧(∀ x c,X.env.cells.lookup x = some c→c ≠ b)∧∀ p ∈ X.pn++pins,p.1 ≠ b) :
  Inv X pins σ H' { s with heap:=h',gens:=g',drawn:=d',toks:=t' }:=by
 obtain ⟨m,⟨o,es,ep,ho,r⟩,_⟩:=id I.loc
 obtain ⟨sl,hL⟩:=u.any ho I.free fun z=>(hch _ z).2.1 rfl
 exact I.step (ch:=ch) hch (fun b o hL hb hc e n=>u.keep b o e n (fun z=>(List.mem_cons.mp (I.stkSub b z)).elim hL hb) hc) (fun b o _ _ hc e n=>u.any e n hc) (fun b o hc e n=>u.free b o e n hc) (fun b o hc e=>u.there b o e hc) u.tups u.frzs u.tbls (fun m' hm=>by
  obtain ⟨o',es',ep',ho',r'⟩:=hm
  rw [ho] at ho'; cases ho'
  exact ⟨_,es',ep',hL,r'⟩) hok hg
theorem Inv.turned {t' : Nat} {it : Addr} (I : Inv X pins σ H s) (k : ∀ b o,b ≠ it→s.heap.get? b = some o→h'.get? b = some o) (hn : H it = none) (hL : it ≠ X.env.locals)
  (h1 : it ∈ X.ex∨X.s_0.heap.objs.size≤it) (h2 : ∀ x c,X.env.cells.lookup x = some c→c ≠ it) (h3 : ∀ p ∈ X.pn++pins,p.1 ≠ it) : Inv X pins σ H { s with heap:=h',toks:=t' }:=by
 have nit : ∀ b u,H b = some u→b ≠ it:=fun b u e z=>by rw [z,hn] at e; cases e
 refine I.step (g':=s.gens) (d':=s.drawn) (ch:=[it]) (fun b hb=>?_) (fun b o _ _ hc e _=>k b o (fun z=>hc (by simp [z])) e) (fun b o _ _ hc e _=>⟨o.slots,k b o (fun z=>hc (by simp [z])) e⟩) (fun _ _ _ _ n=>n)
  (fun b o hc e=>⟨o,k b o (fun z=>hc (by simp [z])) e⟩) (fun _ _ e=>e) (fun _ _ _ e=>e) (fun b ps e=>⟨#[],by rw [e]; simp⟩) (fun m hm=>?_) (fun b u e=>?_) I.bare
 ·have e : b = it:=by simpa using hb
  subst e
  exact ⟨h1,hL,h2,h3⟩
 ·obtain ⟨o,es,ep,ho,r⟩:=hm
  exact ⟨o,es,ep,k _ o (Ne.symm hL) ho,r⟩
 ·refine (I.hok b u e).stay (fun c v hc q=>k c v ?_ q) (fun _ q=>q) fun _ _ q=>q
  rcases hc with z | z
  ·rw [z]; exact nit b u e
  ·exact nit c _ z
theorem Inv.tok (I : Inv X pins σ H s) (t : Nat) : Inv X pins σ H { s with toks:=t }:=I.un (h':=s.heap) (t':=t) Un.refl I.hok
theorem Inv.kept {t' : Nat} (I : Inv X pins σ H s) (k : ∀ b u,s.heap.get? b = some u→h'.get? b = some u) : Inv X pins σ H { s with heap:=h',toks:=t' }:=I.un (Un.kept k) (I.hok.kept k)
theorem Inv.laid {a : Addr} {o : HO} {t' : Nat} (I : Inv X pins σ H s) (k : ∀ b u,s.heap.get? b = some u→h'.get? b = some u) (hp : s.heap.objs.size≤a) (new : ObjOk X.prog X.w (upd H a o) h' a o) :
  Inv X pins σ (upd H a o) { s with heap:=h',toks:=t' }:=I.un (Un.laid k hp (I.hok.fresh hp)) (I.hok.laid k hp new)
theorem Inv.write {x e : Addr} {o : HO} {t' : Nat} (I : Inv X pins σ H s) (mu : Mut (H x)) (he : e = x∨H e = some (.own x)) (k : ∀ b u,b ≠ e→s.heap.get? b = some u→h'.get? b = some u) (heo : ∃ u,h'.get? e = some u)
  (new : ObjOk X.prog X.w (upd H x o) h' x o) : Inv X pins σ (upd H x o) { s with heap:=h',toks:=t' }:=I.un (Un.write mu he k heo) (I.hok.write mu he k heo new)
theorem Inv.weak {σ' : List (Option V)} (I : Inv X pins σ H s) (hl : σ'.length = σ.length) (w : ∀ (i : Nat) v,σ'[i]? = some (some v)→σ[i]? = some (some v)) : Inv X pins σ' H s :=
 ⟨I.ok,I.os,I.bare,I.base,let ⟨m,hn,hl'⟩:=I.loc; ⟨m,hn,fun i x v e1 e2 e3=>hl' i x v e1 (w i v e2) e3⟩,I.cell,I.free,I.freeC,I.pin,I.hok,hl.trans I.len⟩
theorem Inv.pins_of {pins' : List (Addr × Obj)} (I : Inv X pins σ H s) (h : ∀ p ∈ pins',s.heap.get? p.1 = some p.2∧H p.1 = none∧p.1 ≠ X.env.locals∧p.1 ∉ X.fs∧∀ v,p.2.data ≠ .cell v) : Inv X pins' σ H s :=
 ⟨I.ok,I.os,I.bare,I.base,I.loc,I.cell,I.free,I.freeC,fun p hp=>(List.mem_append.mp hp).elim (fun z=>I.pin p (List.mem_append_left _ z)) (h p),I.hok,I.len⟩
theorem nodup_ix {N : List Str} (hN : N.Nodup) {i j : Nat} {x : Str} (a : N[i]? = some x) (b : N[j]? = some x) : i = j:=by
 obtain ⟨h1,e1⟩:=List.getElem?_eq_some_iff.mp a
 obtain ⟨h2,e2⟩:=List.getElem?_eq_some_iff.mp b
 exact (List.getElem_inj hN).mp (e1.trans e2.symm)
theorem store_ok2 {M : Model} {A : Around} {E : Value→Shared→Prop} {i : Nat} {x : Str} {v : V} {u : Value} {Q : Unit→Shared→Prop} (I : Inv X pins σ H s) (hN : X.N.Nodup) (hi : X.N[i]? = some x) (hx : Loc X.env.scope x) (r : RelV v u)
  (h : ∀ s',Inv X pins (σ.set i (some v)) H s'→(∃ a,Heap.SameBut a s.heap s'.heap∧(a = X.env.locals∨X.env.cells.lookup x = some a))→Q () s') (hf : X.fn x = true∨X.env.scope.names.lookup x = some .local:=by first | exact .inl rfl | exact .inr rfl | assumption) : wpAny M A (storeName X.env x u) Q E s:=by
 obtain ⟨m,hn,hl⟩:=id I.loc
 have hcls : (X.env.scope.kind == .class || (X.env.scope.kind == .module && X.env.locals != X.env.globals)) = false:=by rw [I.ok.kind]; rfl
 have hiσ : i < σ.length:=by rw [I.len]; exact (List.getElem?_eq_some_iff.mp hi).1
 have cne:=I.cne
 have tracked : ∀ {a : Addr} {h' : Heap},(∃ o,s.heap.get? a = some o∧H a = none)→Heap.SameBut a s.heap h'→HOk X.prog X.w H h':=fun {a h'} ha hs b ob e=>by
  obtain ⟨_,_,hfree⟩:=ha
  refine (I.hok b ob e).stay (fun c w' hc q=>(hs.2 c ?_).trans q) (fun _ q=>q) fun _ _ q=>q
  rintro rfl
  rcases hc with rfl | hc
  ·rw [hfree] at e; cases e
  ·rw [hfree] at hc; cases hc
 rcases hx with hk | hk
 ·refine wpAny_storeName_local hk hn (fun h' hn' hs=>?_) hcls
  obtain ⟨oL,_,_,hoL,_⟩:=id hn
  refine h _ ⟨I.ok,I.os,I.bare,⟨fun b o e n hb hx=>?_,fun b o e n hb hx=>?_,I.base.free,fun b o e hx=>?_,I.base.tups,I.base.frzs,I.base.tbls⟩,⟨_,hn',fun j y v' e1 e2 e3=>?_⟩,fun y c e=>?_,I.free,I.freeC,fun p hp=>?_,tracked ⟨oL,hoL,I.free⟩ hs,by simpa using I.len⟩ ⟨_,hs,.inl rfl⟩
  ·exact (hs.2 b (Nat.ne_of_lt (Nat.lt_of_lt_of_le (Heap.lt_size e) I.ok.above))).trans (I.base.keep b o e n hb hx)
  ·obtain ⟨sl,e1⟩:=I.base.slot b o e n hb hx
   exact ⟨sl,(hs.2 b (Nat.ne_of_lt (Nat.lt_of_lt_of_le (Heap.lt_size e) I.ok.above))).trans e1⟩
  ·obtain ⟨o',e1⟩:=I.base.there b o e hx
   exact ⟨o',(hs.2 b (Nat.ne_of_lt (Nat.lt_of_lt_of_le (Heap.lt_size e) I.ok.above))).trans e1⟩
  ·by_cases hj : j = i
   ·subst hj
    rw [hi] at e1; cases e1
    rw [List.getElem?_set_self hiσ] at e2
    cases e2
    exact ⟨u,r,.inl ⟨hk,by simp⟩⟩
   ·rw [List.getElem?_set_ne (Ne.symm hj)] at e2
    obtain ⟨u',r',q⟩:=hl j y v' e1 e2 e3
    refine ⟨u',r',?_⟩
    rcases q with ⟨k,e⟩ | ⟨k,c,e,z⟩
    ·refine .inl ⟨k,?_⟩
     have : y ≠ x:=fun e=>hj (nodup_ix hN e1 (e ▸ hi))
     simp [this,e]
    ·exact .inr ⟨k,c,e,z.sameBut hs (cne y c e)⟩
  ·obtain ⟨w',z⟩:=I.cell y c e
   exact ⟨w',z.sameBut hs (cne y c e)⟩
  ·obtain ⟨e,n,ne,nf,d⟩:=I.pin p hp
   exact ⟨(hs.2 p.1 ne).trans e,n,ne,nf,d⟩
 ·have hfn : X.fn x = true:=by
   rcases hf with z | z
   ·exact z
   ·rw [z] at hk; cases hk
  obtain ⟨c,hc⟩:=I.ok.has x (.inl hk)
  obtain ⟨w',z⟩:=I.cell x c hc
  refine wpAny_storeName_cell I.ok.kind hk hc z (fun h' hc' hs=>?_)
  obtain ⟨oc,hoc,hocd⟩:=id z
  refine h { s with heap:=h' } ⟨I.ok,I.os,I.bare,⟨fun b o e n hb hx=>?_,fun b o e n hb hx=>?_,I.base.free,fun b o e hx=>?_,I.base.tups,I.base.frzs,I.base.tbls⟩,⟨m,hn.sameBut hs (Ne.symm (cne x c hc)),fun j y v' e1 e2 e3=>?_⟩,fun y c' e=>?_,I.free,I.freeC,fun p hp=>?_,tracked ⟨oc,hoc,I.freeC x c hc⟩ hs,by simpa using I.len⟩ ⟨c,hs,.inr hc⟩
  ·exact (hs.2 b (Nat.ne_of_lt (Nat.lt_of_lt_of_le (Heap.lt_size e) (I.ok.cab x c hfn hc)))).trans (I.base.keep b o e n hb hx)
  ·obtain ⟨sl,e1⟩:=I.base.slot b o e n hb hx
   exact ⟨sl,(hs.2 b (Nat.ne_of_lt (Nat.lt_of_lt_of_le (Heap.lt_size e) (I.ok.cab x c hfn hc)))).trans e1⟩
  ·obtain ⟨o',e1⟩:=I.base.there b o e hx
   exact ⟨o',(hs.2 b (Nat.ne_of_lt (Nat.lt_of_lt_of_le (Heap.lt_size e) (I.ok.cab x c hfn hc)))).trans e1⟩
  ·by_cases hj : j = i
   ·subst hj
    rw [hi] at e1; cases e1
    rw [List.getElem?_set_self hiσ] at e2
    cases e2
    exact ⟨u,r,.inr ⟨.inl hk,c,hc,hc'⟩⟩
   ·rw [List.getElem?_set_ne (Ne.symm hj)] at e2
    obtain ⟨u',r',q⟩:=hl j y v' e1 e2 e3
    refine ⟨u',r',?_⟩
    rcases q with q | ⟨k,c',e,z'⟩
    ·exact .inl q
    ·refine .inr ⟨k,c',e,z'.sameBut hs ?_⟩
     rintro rfl
     exact hj (nodup_ix hN e1 (I.ok.inj _ _ _ e hc ▸ hi))
  ·by_cases hcc : c' = c
   ·subst hcc; exact ⟨_,hc'⟩
   ·obtain ⟨w2,z2⟩:=I.cell y c' e
    exact ⟨w2,z2.sameBut hs hcc⟩
  ·obtain ⟨e,n,ne,nf,d⟩:=I.pin p hp
   refine ⟨(hs.2 p.1 ?_).trans e,n,ne,nf,d⟩
   intro q
   rw [q,hoc] at e
   have q' : oc = p.2:=Option.some.inj e
   exact d w' (by rw [← q']; exact hocd)
theorem store_ok {M : Model} {A : Around} {E : Value→Shared→Prop} {i : Nat} {x : Str} {v : V} {u : Value} {Q : Unit→Shared→Prop} (I : Inv X pins σ H s) (hN : X.N.Nodup) (hi : X.N[i]? = some x) (hx : Loc X.env.scope x) (r : RelV v u)
  (h : ∀ s',Inv X pins (σ.set i (some v)) H s'→Q () s') (hf : X.fn x = true∨X.env.scope.names.lookup x = some .local:=by first | exact .inl rfl | exact .inr rfl | assumption) : wpAny M A (storeName X.env x u) Q E s :=
 store_ok2 I hN hi hx r (fun s' I' _=>h s' I') hf
theorem Inv.call' {s' : Shared} {ch : List Addr} (I : Inv X pins σ H s) (ho : s'.os = s.os) (u : Un (frs X.stack) ch H H' s.heap s'.heap) (hok : HOk X.prog X.w H' s'.heap) (hg : AllBare s'.gens)
  (hch : ∀ b ∈ ch,(b ∈ X.ex∨X.s_0.heap.objs.size≤b)∧b ≠ X.env.locals∧(∀ x c,X.env.cells.lookup x = some c→c ≠ b)∧∀ p ∈ X.pn++pins,p.1 ≠ b) : Inv X pins σ H' s':=by
 obtain ⟨h',g',d',t',o'⟩:=s'
 have e : o' = s.os:=ho
 subst e
 exact I.call (g':=g') (t':=t') (d':=d') u hok hg hch
end
abbrev XK:=Value→Option Addr→Hp→Prop
abbrev St:=List (Option V)
abbrev VK:=V→Hp→Prop
abbrev TE:=St→Hp→VK→Prop
abbrev TT:=St→Hp→(Bool→Hp→Prop)→Prop
abbrev TA:=St→Hp→(List V→Hp→Prop)→Prop
structure Ends where
 nx : St→Hp→Prop
 rt : VK
 bk : St→Hp→Prop:=fun _ _=>False
 ct : St→Hp→Prop:=fun _ _=>False
abbrev TS:=Ends→St→Hp→Prop
def EP (X : Cx) (pins : List (Addr × Obj)) (σ : St) (Q : VK) (u : Value) (s' : Shared) : Prop:=∃ v H',Inv X pins σ H' s'∧RelV v u∧Q v H'
def TP (X : Cx) (pins : List (Addr × Obj)) (σ : St) (Q : Bool→Hp→Prop) (b : Bool) (s' : Shared) : Prop:=∃ H',Inv X pins σ H' s'∧Q b H'
def AP (X : Cx) (pins : List (Addr × Obj)) (σ : St) (Q : List V→Hp→Prop) (us : List Value) (s' : Shared) : Prop:=∃ vs H',Inv X pins σ H' s'∧Vals vs us∧Q vs H'
def SP (X : Cx) (pins : List (Addr × Obj)) (D : Ends) (f : Flow) (s' : Shared) : Prop :=
 match f with
 | .next=>∃ σ' H',Inv X pins σ' H' s'∧D.nx σ' H'
 | .brk=>∃ σ' H',Inv X pins σ' H' s'∧D.bk σ' H'
 | .cont=>∃ σ' H',Inv X pins σ' H' s'∧D.ct σ' H'
 | .ret u=>∃ v σ' H',Inv X pins σ' H' s'∧RelV v u∧D.rt v H'
def PE (X : Cx) (e : Expr) (t : TE) : Prop :=
 ∀ (pins : List (Addr × Obj)) (s : Shared) (σ : St) (H : Hp) (Q : VK),Inv X pins σ H s→t σ H Q→wpAny (model X.prog X.w) X.A (eval e X.env) (EP X pins σ Q) X.xe s
def PT (X : Cx) (e : Expr) (t : TT) : Prop :=
 ∀ (pins : List (Addr × Obj)) (s : Shared) (σ : St) (H : Hp) (Q : Bool→Hp→Prop),Inv X pins σ H s→t σ H Q→wpAny (model X.prog X.w) X.A (isTrue e X.env (eval e X.env)) (TP X pins σ Q) X.xe s
def PW (X : Cx) (e : Expr) (t : TT) : Prop :=
 ∀ (whole : Sem Value) (pins : List (Addr × Obj)) (s : Shared) (σ : St) (H : Hp) (Q : Bool→Hp→Prop),Inv X pins σ H s→t σ H Q→wpAny (model X.prog X.w) X.A (isTrue e X.env whole) (TP X pins σ Q) X.xe s
theorem PW.pt {X : Cx} {e : Expr} {t : TT} (h : PW X e t) : PT X e t:=h _
def PA (X : Cx) (es : List Expr) (t : TA) : Prop :=
 ∀ (pos : Pos) (pins : List (Addr × Obj)) (s : Shared) (σ : St) (H : Hp) (Q : List V→Hp→Prop),Inv X pins σ H s→t σ H Q→wpAny (model X.prog X.w) X.A (spliced (backTo pos (starEach es X.env))) (AP X pins σ Q) X.xe s
def PS (X : Cx) (st : Stmt) (t : TS) : Prop :=
 ∀ (pins : List (Addr × Obj)) (s : Shared) (σ : St) (H : Hp) (D : Ends),Inv X pins σ H s→t D σ H→wpAny (model X.prog X.w) X.A (exec st X.env) (SP X pins D) X.xe s
def PSs (X : Cx) (st : List Stmt) (t : TS) : Prop :=
 ∀ (pins : List (Addr × Obj)) (s : Shared) (σ : St) (H : Hp) (D : Ends),Inv X pins σ H s→t D σ H→wpAny (model X.prog X.w) X.A (execs st X.env) (SP X pins D) X.xe s
theorem thn {α : Type} {t : Sem α} {Q Q' : α→Shared→Prop} {M : Model} {A : Around} {E : Value→Shared→Prop} {s : Shared} (h : wpAny M A t Q E s) (hQ : ∀ a s,Q a s→Q' a s) : wpAny M A t Q' E s:=wpAny_mono h hQ fun _ _ x=>x
end L2
namespace L2
open PySem PySem.Spec PyProof.Rows
section
variable {X : Cx}
def tVar (i : Nat) : TE:=fun σ H Q=>∃ v,σ[i]? = some (some v)∧Q v H
def tC (v : V) : TE:=fun _ H Q=>Q v H
theorem pe_var {i : Nat} {x : Str} {pos : Pos} (hN : X.N[i]? = some x) (hv : Vis X.env.scope x) (hd : (x == ("__debug__" : Str)) = false:=by decide) (hcd : (x == ("__classdict__" : Str)) = false:=by decide) : PE X (.Name x pos) (tVar i):=by
 intro pins s σ H Q I h
 obtain ⟨v,e,h⟩:=h
 obtain ⟨m,hn,hl⟩:=I.loc
 obtain ⟨u,r,l⟩:=hl i x v hN e hv
 have fin : EP X pins σ Q u s:=⟨v,H,I,r,h⟩
 rcases l with ⟨hk,hm⟩ | ⟨hk,c,hc,hcell⟩
 ·exact wpAny_Name (wpAny_loadName_local I.ok.kind hk hn hm fin) hd
 ·rcases hk with hk | hk
  ·exact wpAny_Name (wpAny_loadName_cell I.ok.kind hk hc hcell fin) hd
  ·exact wpAny_Name (wpAny_loadName_free I.ok.kind hk hc hcell fin hcd) hd
theorem pe_int {i j pos} : PE X (.Constant (.int i) j pos) (tC (.int i)):=fun _ _ _ H _ I h=>wpAny_Constant_int ⟨.int i,H,I.tok _,⟨_,rfl⟩,h⟩
theorem pe_bl {b j pos} : PE X (.Constant (.bool b) j pos) (tC (.bl b)):=fun _ _ _ H _ I h=>Constant_bool ⟨.bl b,H,I,rfl,h⟩
theorem pe_str {x j pos} : PE X (.Constant (.str x) j pos) (tC (.str x)):=fun _ _ _ H _ I h=>Calls.Constant_str ⟨.str x,H,I.tok _,⟨_,rfl⟩,h⟩
def Gl (X : Cx) (x : Str) : Prop:=X.env.kindOf x = some .globalImplicit
theorem ld_glob {E : Value→Shared→Prop} {pins : List (Addr × Obj)} {s : Shared} {σ : St} {H : Hp} {x : Str} {u : Value} {pos : Pos} {Q : Value→Shared→Prop} (I : Inv X pins σ H s) (hg : Gl X x) (hm : X.mg x = some u) (h : Q u s)
  (hd : (x == ("__debug__" : Str)) = false:=by decide) : wpAny (model X.prog X.w) X.A (eval (.Name x pos) X.env) Q E s :=
 Calls.Name_function_global I.ok.kind hg (Calls.loadGlobal_global (by rw [I.ok.glob]; exact I.mod.glob.keeps I.bk) hm h) hd
theorem ld_blt {E : Value→Shared→Prop} {pins : List (Addr × Obj)} {s : Shared} {σ : St} {H : Hp} {x : Str} {u : Value} {pos : Pos} {Q : Value→Shared→Prop} (I : Inv X pins σ H s) (hg : Gl X x) (hm : X.mg x = none) (hv : bootBuiltins x = some u) (h : Q u s)
  (hn : x ≠ "__name__":=by decide) (hd : (x == ("__debug__" : Str)) = false:=by decide) : wpAny (model X.prog X.w) X.A (eval (.Name x pos) X.env) Q E s:=by
 obtain ⟨mb,h1,h2⟩:=I.mod.blt
 exact Calls.Name_function_global I.ok.kind hg (Calls.loadGlobal_builtin (by rw [I.ok.glob]; exact I.mod.glob.keeps I.bk) hm (by rw [I.ok.blt]; exact h1.keeps I.bk) ((h2 x hn).trans hv) h) hd
theorem pe_glob {x : Str} {v : V} {u : Value} {pos : Pos} (hg : Gl X x) (hm : X.mg x = some u) (r : RelV v u) (hd : (x == ("__debug__" : Str)) = false:=by decide) : PE X (.Name x pos) (tC v) :=
 fun _ _ _ H _ I h=>ld_glob I hg hm ⟨v,H,I,r,h⟩ hd
variable {a b : Expr} {ta tb : TE} {pos : Pos}
def PC (X : Cx) (op : CmpOp) (a b : Expr) (t : TE) : Prop :=
 ∀ (pins : List (Addr × Obj)) (s : Shared) (σ : St) (H : Hp) (Q : VK),Inv X pins σ H s→t σ H Q →
  wpAny (model X.prog X.w) X.A (eval a X.env) (fun v s₁=>wpAny (model X.prog X.w) X.A (eval b X.env) (fun u s₂=>wpAny (model X.prog X.w) X.A (compareOp op v u) (EP X pins σ Q) X.xe s₂) X.xe s₁) X.xe s
def tB (t : TE) : TT:=fun σ H Q=>t σ H fun x H1=>∃ c,x = .bl c∧Q c H1
theorem pe_cmp {op : CmpOp} {t : TE} (h : PC X op a b t) (h1 : behindInMarks op b = false:=by first | exact nobehind _ (by decide) (by decide) | rfl) : PE X (.Compare a [op] [b] pos) t:=fun pins s σ H Q I hw=>wpAny_Compare1 (h pins s σ H Q I hw) h1
theorem pt_val {e : Expr} {t : TE} (h : PE X e t) (he : ∀ whole,isTrue e X.env whole = (do let v ← whole; standAt e.pos; holding [v] (truthy v)):=by intro _; rfl) : PT X e (tB t):=by
 intro pins s σ H Q I hw
 refine isTrue_plain (thn (h pins s σ H _ I hw) fun v s1 ⟨x,H1,I1,r1,q1⟩=>?_) (he _)
 obtain ⟨d,rfl,q⟩:=q1
 cases r1
 exact wpAny_truthy_bool ⟨H1,I1,q⟩
variable {tA tB' : TT} {rest : List Expr}
def tAnd (t u : TT) : TT:=fun σ H Q=>t σ H fun c H1=>if c = true then u σ H1 Q else Q false H1
def tOr (t u : TT) : TT:=fun σ H Q=>t σ H fun c H1=>if c = true then Q true H1 else u σ H1 Q
def tNot (t : TT) : TT:=fun σ H Q=>t σ H fun c H1=>Q (!c) H1
theorem pw_and1 (ha : PT X a tA) : PW X (.BoolOp .And [a] pos) tA:=by
 intro wh pins s σ H Q I h
 refine isTrue_and (thn (ha pins s σ H Q I h) fun c s1 e=>?_)
 cases c with
 | true=>exact isTrue_and_nil e
 | false=>exact e
theorem pw_or1 (ha : PT X a tA) : PW X (.BoolOp .Or [a] pos) tA:=by
 intro wh pins s σ H Q I h
 refine isTrue_or (thn (ha pins s σ H Q I h) fun c s1 e=>?_)
 cases c with
 | false=>exact isTrue_or_nil e
 | true=>exact e
theorem pw_and (ha : PT X a tA) (hb : PW X (.BoolOp .And (b::rest) pos) tB') : PW X (.BoolOp .And (a::b::rest) pos) (tAnd tA tB'):=by
 intro wh pins s σ H Q I h
 refine isTrue_and (thn (ha pins s σ H _ I h) fun c s1 ⟨H1,I1,q1⟩=>?_)
 cases c with
 | true=>exact hb wh pins s1 σ H1 Q I1 q1
 | false=>exact ⟨H1,I1,q1⟩
theorem pw_or (ha : PT X a tA) (hb : PW X (.BoolOp .Or (b::rest) pos) tB') : PW X (.BoolOp .Or (a::b::rest) pos) (tOr tA tB'):=by
 intro wh pins s σ H Q I h
 refine isTrue_or (thn (ha pins s σ H _ I h) fun c s1 ⟨H1,I1,q1⟩=>?_)
 cases c with
 | true=>exact ⟨H1,I1,q1⟩
 | false=>exact hb wh pins s1 σ H1 Q I1 q1
theorem pt_not (ha : PT X a tA) : PT X (.UnaryOp .Not a pos) (tNot tA):=by
 intro pins s σ H Q I h
 exact isTrue_not (ha pins s σ H (fun c H1=>Q (!c) H1) I h)
def tAndV (ta tb : TE) : TE:=fun σ H Q=>ta σ H fun x H1=>∃ c,x = .bl c∧if c = true then tb σ H1 Q else Q (.bl false) H1
theorem pe_one {op} {t : TE} (h : PE X a t) : PE X (.BoolOp op [a] pos) t:=fun pins s σ H Q I hw=>BoolOp_one (h pins s σ H Q I hw)
theorem pe_and (ha : PE X a ta) (hb : PE X (.BoolOp .And (b::rest) pos) tb) : PE X (.BoolOp .And (a::b::rest) pos) (tAndV ta tb):=by
 intro pins s σ H Q I h
 refine BoolOp_and (thn (ha pins s σ H _ I h) fun v s1 ⟨x,H1,I1,r1,q1⟩=>?_)
 obtain ⟨c,rfl,q1⟩:=q1
 cases r1
 refine wpAny_truthy_bool ?_
 cases c with
 | true=>exact hb pins s1 σ H1 Q I1 q1
 | false=>exact ⟨.bl false,H1,I1,rfl,q1⟩
def tIf (t : TT) (ta tb : TE) : TE:=fun σ H Q=>t σ H fun c H1=>if c = true then ta σ H1 Q else tb σ H1 Q
theorem pe_ifExp {c : Expr} (hc : PT X c tA) (ha : PE X a ta) (hb : PE X b tb) : PE X (.IfExp c a b pos) (tIf tA ta tb):=by
 intro pins s σ H Q I h
 refine wpAny_IfExp (thn (hc pins s σ H _ I h) fun d s1 ⟨H1,I1,q1⟩=>?_)
 cases d with
 | true=>exact ha pins s1 σ H1 Q I1 q1
 | false=>exact hb pins s1 σ H1 Q I1 q1
end
end L2
namespace L2
open PySem PySem.Spec PyProof.Rows
def SqL (K : PySem.W.Frag) (H : Hp) (a : Addr) (xs : List V) : Prop :=
 Rd H a (.lst xs) ∨
  ∃ (o : Obj) (its : Array Value) (n : Nat),K.lookup a = some o∧o.cls = .type "list"∧o.dict = none∧o.data = .seq its n∧its.size≤sizeLine∧Vals xs its.toList
def SqT (K : PySem.W.Frag) (H : Hp) (a : Addr) (xs : List V) : Prop :=
 Rd H a (.tup xs) ∨
  ∃ (o : Obj) (its : Array Value) (n : Nat),K.lookup a = some o∧o.cls = .type "tuple"∧o.data = .seq its n∧its.size≤sizeLine∧Vals xs its.toList
def absV : Value→Option V
 | .none=>some .non
 | .bool b=>some (.bl b)
 | .int i _=>some (.int i)
 | .str x _=>some (.str x)
 | .bytes b _=>some (.byt b)
 | .float b _=>some (.flt b)
 | .ref a=>some (.ref a)
 | .type n=>some (.ty n)
 | _=>none
theorem RelV.abs {x : V} {u : Value} (r : RelV x u) : absV u = some x:=by
 cases x with
 | non=>cases r; rfl
 | bl _=>cases r; rfl
 | int _=>obtain ⟨t,rfl⟩:=r; rfl
 | str _=>obtain ⟨t,rfl⟩:=r; rfl
 | byt _=>obtain ⟨t,rfl⟩:=r; rfl
 | flt _=>obtain ⟨t,rfl⟩:=r; rfl
 | ref _=>cases r; rfl
 | ty _=>cases r; rfl
theorem RelV.inj {x y : V} {u : Value} (r : RelV x u) (q : RelV y u) : x = y:=Option.some.inj (r.abs.symm.trans q.abs)
theorem Vals.inj : ∀ {xs ys : List V} {us : List Value},Vals xs us→Vals ys us→xs = ys
 | _,_,_,.nil,.nil=>rfl
 | _,_,_,.cons r t,.cons r' t'=>by rw [r.inj r',Vals.inj t t']
section
variable {X : Cx} {pins : List (Addr × Obj)} {σ : St} {H : Hp} {s : Shared} {a : Addr} {xs ys : List V}
theorem SqL.of {K : PySem.W.Frag} (h : H a = some (.lst xs)) : SqL K H a xs:=.inl (.inl h)
theorem SqT.of {K : PySem.W.Frag} (h : H a = some (.tup xs)) : SqT K H a xs:=.inl (.inl h)
theorem Inv.list (I : Inv X pins σ H s) (h : SqL X.K H a xs) : ∃ its : List Value,Vals xs its∧PlainL s.heap a its.toArray∧xs.length≤sizeLine:=by
 rcases h with h | ⟨o,its,n,hk,hc,hd,hs,hz,r⟩
 ·obtain ⟨z,its,n,r,e⟩:=h.ok I.hok
  exact ⟨its,r,⟨_,n,e,rfl,rfl,rfl⟩,z⟩
 ·refine ⟨its.toList,r,⟨o,n,I.kIn a o hk,hc,hd,by simpa using hs⟩,?_⟩
  have e:=r.length
  simp only [Array.length_toList] at e
  omega
theorem Inv.tuple (I : Inv X pins σ H s) (h : SqT X.K H a xs) : ∃ its : List Value,Vals xs its∧IsTup s.heap a its.toArray∧xs.length≤sizeLine:=by
 rcases h with h | ⟨o,its,n,hk,hc,hs,hz,r⟩
 ·obtain ⟨z,its,r,p⟩:=h.ok I.hok
  exact ⟨its,r,p,z⟩
 ·refine ⟨its.toList,r,⟨o,I.kIn a o hk,hc,n,by simpa using hs⟩,?_⟩
  have e:=r.length
  simp only [Array.length_toList] at e
  omega
theorem Inv.list_inj (I : Inv X pins σ H s) (h : SqL X.K H a xs) (h' : SqL X.K H a ys) : xs = ys:=by
 obtain ⟨its,r,⟨o,n,e,_,_,d⟩,_⟩:=I.list h
 obtain ⟨its',r',⟨o',n',e',_,_,d'⟩,_⟩:=I.list h'
 rw [e] at e'; cases e'
 rw [d] at d'
 injection d' with d1 _
 have : its = its':=by simpa using congrArg Array.toList d1
 subst this
 exact r.inj r'
theorem Inv.tuple_inj (I : Inv X pins σ H s) (h : SqT X.K H a xs) (h' : SqT X.K H a ys) : xs = ys:=by
 obtain ⟨its,r,⟨o,e,_,n,d⟩,_⟩:=I.tuple h
 obtain ⟨its',r',⟨o',e',_,n',d'⟩,_⟩:=I.tuple h'
 rw [e] at e'; cases e'
 rw [d] at d'
 injection d' with d1 _
 have : its = its':=by simpa using congrArg Array.toList d1
 subst this
 exact r.inj r'
end
abbrev Cx.wish (X : Cx) (E : Value→Shared→Prop) : Cx:={ X with xe:=E }
abbrev Cx.nox (X : Cx) : Cx:=X.wish fun _ _=>False
theorem Cx.Ok.wish {X : Cx} (ok : X.Ok) (E : Value→Shared→Prop) : (X.wish E).Ok :=
 ⟨ok.mod,ok.kind,ok.glob,ok.blt,ok.above,ok.inj,ok.has,ok.cab,ok.hd,ok.frames,ok.stk,ok.exf,ok.bs,ok.bsz,ok.noex,ok.exfs,ok.funs,ok.frf⟩
theorem Cx.Ok.unwish {X : Cx} {E : Value→Shared→Prop} (ok : (X.wish E).Ok) : X.Ok :=
 ⟨ok.mod,ok.kind,ok.glob,ok.blt,ok.above,ok.inj,ok.has,ok.cab,ok.hd,ok.frames,ok.stk,ok.exf,ok.bs,ok.bsz,ok.noex,ok.exfs,ok.funs,ok.frf⟩
section
variable {X : Cx} {pins : List (Addr × Obj)} {σ : St} {H : Hp} {s : Shared} {E : Value→Shared→Prop}
theorem Inv.wish (I : Inv X pins σ H s) (E : Value→Shared→Prop) : Inv (X.wish E) pins σ H s:=⟨I.ok.wish E,I.os,I.bare,I.base,I.loc,I.cell,I.free,I.freeC,I.pin,I.hok,I.len⟩
theorem Inv.unwish (I : Inv (X.wish E) pins σ H s) : Inv X pins σ H s:=⟨I.ok.unwish,I.os,I.bare,I.base,I.loc,I.cell,I.free,I.freeC,I.pin,I.hok,I.len⟩
theorem SP.unwish {D : Ends} {f : Flow} {s' : Shared} (h : SP (X.wish E) pins D f s') : SP X pins D f s':=by
 cases f with
 | next=>obtain ⟨σ',H',I,q⟩:=h; exact ⟨σ',H',I.unwish,q⟩
 | brk=>obtain ⟨σ',H',I,q⟩:=h; exact ⟨σ',H',I.unwish,q⟩
 | cont=>obtain ⟨σ',H',I,q⟩:=h; exact ⟨σ',H',I.unwish,q⟩
 | ret u=>obtain ⟨v,σ',H',I,r,q⟩:=h; exact ⟨v,σ',H',I.unwish,r,q⟩
theorem PSs.nox {st : List Stmt} {t : TS} (h : PSs X.nox st t) : PSs X st t:=fun pins s σ H D I hw =>
 wpAny_mono (h pins s σ H D (I.wish _) hw) (fun _ _ q=>q.unwish) fun _ _ z=>False.elim z
end
section
variable {X : Cx} {st : Stmt} {rest : List Stmt} {t u : TS} {e : Expr} {te : TE} {pos : Pos}
def tNext : TS:=fun D σ H=>D.nx σ H
def tSeq (t u : TS) : TS:=fun D σ H=>t { D with nx:=u D } σ H
theorem pss_nil : PSs X [] tNext:=fun _ _ σ H _ I h=>wpAny_execs_nil ⟨σ,H,I,h⟩
theorem pss_cons (h1 : PS X st t) (h2 : PSs X rest u) : PSs X (st::rest) (tSeq t u):=by
 intro pins s σ H D I h
 refine wpAny_execs_cons (thn (h1 pins s σ H { D with nx:=u D } I h) fun f s1 q=>?_)
 cases f with
 | next =>
  obtain ⟨σ',H',I',q⟩:=q
  exact h2 pins s1 σ' H' D I' q
 | ret v=>exact q
 | brk=>exact q
 | cont=>exact q
theorem pss_one (h1 : PS X st t) : PSs X [st] t:=by
 intro pins s σ H D I h
 refine wpAny_execs_cons (thn (h1 pins s σ H D I h) fun f s1 q=>?_)
 cases f with
 | next=>exact wpAny_execs_nil q
 | ret v=>exact q
 | brk=>exact q
 | cont=>exact q
theorem Inv.quiet {pins : List (Addr × Obj)} {σ : St} {H : Hp} {s : Shared} (I : Inv X pins σ H s) : interactive X.env = false:=by simp [interactive,I.ok.kind]
def tDrop (te : TE) : TS:=fun D σ H=>te σ H fun _ H1=>D.nx σ H1
theorem ps_expr (he : PE X e te) (hs : swapsWith e none pos.line X.env = pure false:=by rfl) : PS X (.Expr e pos) (tDrop te):=by
 intro pins s σ H D I h
 exact wpAny_Expr_any (thn (he pins s σ H _ I h) fun v s1 ⟨x,H1,I1,r1,q1⟩=>⟨σ,H1,I1,q1⟩) I.quiet hs
def tRet (te : TE) : TS:=fun D σ H=>te σ H D.rt
theorem ps_ret (he : PE X e te) : PS X (.Return (some e) pos) (tRet te):=by
 intro pins s σ H D I h
 exact wpAny_Return_some (thn (he pins s σ H _ I h) fun v s1 ⟨x,H1,I1,r1,q1⟩=>⟨x,σ,H1,I1,r1,q1⟩)
def tIfS (c : TT) (t u : TS) : TS:=fun D σ H=>c σ H fun b H1=>if b = true then t D σ H1 else u D σ H1
theorem ps_if {c : Expr} {a b : List Stmt} {tc : TT} (hc : PT X c tc) (ha : PSs X a t) (hb : PSs X b u) : PS X (.If c a b pos) (tIfS tc t u):=by
 intro pins s σ H D I h
 refine wpAny_If (thn (hc pins s σ H _ I h) fun d s1 ⟨H1,I1,q1⟩=>?_)
 cases d with
 | true=>exact ha pins s1 σ H1 D I1 q1
 | false=>exact hb pins s1 σ H1 D I1 q1
end
abbrev TG:=V→St→Hp→(St→Hp→Prop)→Prop
def PG (X : Cx) (target : Expr) (t : TG) : Prop :=
 ∀ (pins : List (Addr × Obj)) (s : Shared) (σ : St) (H : Hp) (v : V) (u : Value) (Q : St→Hp→Prop),Inv X pins σ H s→RelV v u→t v σ H Q →
  wpAny (model X.prog X.w) X.A (assign target X.env u) (fun _ s'=>∃ σ' H',Inv X pins σ' H' s'∧Q σ' H') X.xe s
abbrev TIp:=V→V→Hp→VK→Prop
def PIp (X : Cx) (op : Operator) (t : TIp) : Prop :=
 ∀ (pins : List (Addr × Obj)) (s : Shared) (σ : St) (H : Hp) (x y : V) (v u : Value) (Q : VK),Inv X pins σ H s→RelV x v→RelV y u→t x y H Q →
  wpAny (model X.prog X.w) X.A (inplaceOp op v u) (EP X pins σ Q) X.xe s
section
variable {X : Cx} {pos : Pos}
def gName (i : Nat) : TG:=fun v σ H Q=>Q (σ.set i (some v)) H
theorem pg_name {i : Nat} {x : Str} (hN : X.N.Nodup) (hi : X.N[i]? = some x) (hx : Loc X.env.scope x) (hf : X.fn x = true∨X.env.scope.names.lookup x = some .local:=by first | exact .inl rfl | exact .inr rfl | assumption) : PG X (.Name x pos) (gName i):=by
 intro pins s σ H v u Q I r h
 exact wpAny_assign_Name (store_ok I hN hi hx r (fun s' I'=>⟨_,H,I',h⟩) hf)
def tAsg (te : TE) (g : TG) : TS:=fun D σ H=>te σ H fun x H1=>g x σ H1 D.nx
theorem ps_set {i : Nat} {x : Str} {e : Expr} {te : TE} {pos' : Pos} (hN : X.N.Nodup) (hi : X.N[i]? = some x) (hx : Loc X.env.scope x) (he : PE X e te) (hs : swapsWith e (some (.Name x pos')) pos.line X.env = pure false:=by rfl) (hf : X.fn x = true∨X.env.scope.names.lookup x = some .local:=by first | exact .inl rfl | exact .inr rfl | assumption) :
  PS X (.Assign [.Name x pos'] e pos) (tAsg te (gName i)):=by
 intro pins s σ H D I h
 refine wpAny_Assign_Name (thn (he pins s σ H _ I h) fun v s1 ⟨y,H1,I1,r1,q1⟩=>?_) hs
 exact store_ok I1 hN hi hx r1 (fun s2 I2=>⟨_,H1,I2,q1⟩) hf
def tAug (i : Nat) (te : TE) (ti : TIp) : TS:=fun D σ H=>∃ x,σ[i]? = some (some x)∧te σ H fun y H1=>ti x y H1 fun z H2=>D.nx (σ.set i (some z)) H2
theorem ps_aug {i : Nat} {x : Str} {e : Expr} {te : TE} {op : Operator} {ti : TIp} {pos' : Pos} (hN : X.N.Nodup) (hi : X.N[i]? = some x) (hx : Loc X.env.scope x) (he : PE X e te) (ho : PIp X op ti) (hf : X.fn x = true∨X.env.scope.names.lookup x = some .local:=by first | exact .inl rfl | exact .inr rfl | assumption) :
  PS X (.AugAssign (.Name x pos') op e pos) (tAug i te ti):=by
 intro pins s σ H D I h
 obtain ⟨v,e1,h⟩:=h
 obtain ⟨m,hn,hl⟩:=I.loc
 have vis : Vis X.env.scope x:=by rcases hx with k | k; exact .inl k; exact .inr (.inl k)
 obtain ⟨u,r,l⟩:=hl i x v hi e1 vis
 refine wpAny_AugAssign_Name ?_
 have go : wpAny (model X.prog X.w) X.A (eval e X.env) (fun w s₂=>wpAny (model X.prog X.w) X.A (inplaceOp op u w) (fun r s₃=>wpAny (model X.prog X.w) X.A (storeName X.env x r) (fun _=>SP X pins D .next) X.xe s₃) X.xe s₂) X.xe s:=by
  refine thn (he pins s σ H _ I h) fun w s1 ⟨y,H1,I1,r1,q1⟩=>?_
  refine thn (ho pins s1 σ H1 v y u w _ I1 r r1 q1) fun z s2 ⟨zv,H2,I2,r2,q2⟩=>?_
  exact store_ok I2 hN hi hx r2 (fun s3 I3=>⟨_,H2,I3,q2⟩) hf
 rcases l with ⟨hk,hm⟩ | ⟨hk,c,hc,hcell⟩
 ·exact wpAny_loadName_local I.ok.kind hk hn hm go
 ·rcases hk with hk | hk
  ·exact wpAny_loadName_cell I.ok.kind hk hc hcell go
  ·rcases hx with k | k
   ·have : X.env.scope.names.lookup x = some .free:=hk
    rw [k] at this; cases this
   ·have : X.env.scope.names.lookup x = some .free:=hk
    rw [k] at this; cases this
def ipI (f : Int→Int→Int) : TIp:=fun x y H Q=>∃ i j,x = .int i∧y = .int j∧Q (.int (f i j)) H
theorem ip_add : PIp X .Add (ipI fun i j=>i + j):=by
 intro pins s σ H x y v u Q I r1 r2 h
 obtain ⟨i,j,e1,e2,q⟩:=h
 subst e1; subst e2
 obtain ⟨t,rfl⟩:=r1
 obtain ⟨t',rfl⟩:=r2
 exact iadd_int ⟨.int _,H,I.tok _,⟨_,rfl⟩,q⟩
end
section
variable {X : Cx} {pos : Pos}
def tWhile (c : TT) (tb : TS) : TS:=fun D σ H=>∃ W : Nat→St→Hp→Prop,(∃ m,W m σ H)∧∀ m σ H,W m σ H →
 c σ H fun b H1=>if b = true then ∃ N : St→Hp→Prop,(∀ σ' H',N σ' H'→∃ m',m' < m∧W m' σ' H')∧tb { D with nx:=N,ct:=N,bk:=D.nx } σ H1 else D.nx σ H1
theorem ps_while {c : Expr} {body : List Stmt} {tc : TT} {tb : TS} (hp : PassesOwn (model X.prog X.w) X.A X.env X.xe) (hc : PT X c tc) (hb : PSs X body tb) : PS X (.While c body [] pos) (tWhile tc tb):=by
 intro pins s σ H D I h
 obtain ⟨W,⟨m0,w0⟩,turn⟩:=h
 refine wpAny_While (codeAny_whileLoop (fun n s'=>∃ σ' H',Inv X pins σ' H' s'∧W n σ' H') ?_ m0 ⟨σ,H,I,w0⟩)
 rintro n s1 ⟨σ1,H1,I1,w1⟩
 refine wpAny_passesOwn hp (thn (hc pins s1 σ1 H1 _ I1 (turn n σ1 H1 w1)) fun b s2 ⟨H2,I2,q2⟩=>?_)
 cases b with
 | true =>
  obtain ⟨N,hN,q2⟩:=q2
  rw [if_pos rfl]
  refine wpAny_passesOwn hp (thn (hb pins s2 σ1 H2 _ I2 q2) fun f s3 q3=>?_)
  cases f with
  | next =>
   obtain ⟨σ3,H3,I3,n3⟩:=q3
   obtain ⟨m',hm,w3⟩:=hN σ3 H3 n3
   exact ⟨m',hm,σ3,H3,I3,w3⟩
  | cont =>
   obtain ⟨σ3,H3,I3,n3⟩:=q3
   obtain ⟨m',hm,w3⟩:=hN σ3 H3 n3
   exact ⟨m',hm,σ3,H3,I3,w3⟩
  | brk=>exact q3
  | ret v=>exact q3
 | false =>
  rw [if_neg Bool.false_ne_true]
  exact wpAny_execs_nil ⟨σ1,H2,I2,q2⟩
end
structure It where
 go : Nat→Hp→Prop
 yld : Nat→Hp→V→Hp→Prop
 stop : Nat→Hp→Prop
def FpOk (X : Cx) (pins : List (Addr × Obj)) (H : Hp) (b : Addr) : Prop :=
 H b = none∧b ≠ X.env.locals∧b ∉ X.fs∧(b ∈ X.ex∨X.s_0.heap.objs.size≤b)∧(∀ x c,X.env.cells.lookup x = some c→c ≠ b)∧∀ p ∈ X.pn++pins,p.1 ≠ b
theorem Inv.fpOk {X : Cx} {pins : List (Addr × Obj)} {σ : St} {H H' : Hp} {s : Shared} {b : Addr} (I : Inv X pins σ H s) (hb : s.heap.objs.size≤b) (hn : H' b = none) : FpOk X pins H' b:=by
 refine ⟨hn,Nat.ne_of_gt (Nat.lt_of_lt_of_le I.lt hb),I.nofs hb,.inr (Nat.le_trans I.sz hb),fun x c e z=>?_,fun p hp z=>?_⟩
 ·obtain ⟨v,q⟩:=I.cell x c e
  exact absurd (Nat.lt_of_lt_of_le q.lt (by rw [z]; exact hb)) (Nat.lt_irrefl _)
 ·exact absurd (Nat.lt_of_lt_of_le (Heap.lt_size (I.pin p hp).1) (by rw [z]; exact hb)) (Nat.lt_irrefl _)
structure Turn (P : Program) (w : World) (K : PySem.W.Frag) (tg : Expr) (J : It) (fp : List Addr) (it : Addr) (tn : Nat→Heap→Prop) : Prop where
 mem : it ∈ fp
 obj : ∀ i h,tn i h→∀ b ∈ fp,∃ o,h.get? b = some o∧∀ v,o.data ≠ .cell v
 keep : ∀ i h h',tn i h→(∀ b ∈ fp,∀ o,h.get? b = some o→h'.get? b = some o)→tn i h'
 item : ∀ (X : Cx),X.prog = P→X.w = w→X.K = K→X.calm = true→∀ (i : Nat) (pins : List (Addr × Obj)) (s : Shared) (σ : St) (H : Hp) (E : Value→Shared→Prop),Inv X pins σ H s→(∀ b ∈ fp,FpOk X pins H b)→tn i s.heap→J.go i H →
  wpAny (model P w) X.A (pyNext (.ref it)) (fun r s1=>∃ u,r = some u ∧
   wpAny (model P w) X.A (letOwnedTupleGo tg (.ref it) u) (fun _ s2=>∃ x H',Inv X pins σ H' s2∧RelV x u∧J.yld i H x H'∧tn (i + 1) s2.heap∧∀ b ∈ fp,H' b = none) E s1) E s
 done : ∀ (X : Cx),X.prog = P→X.w = w→X.K = K→X.calm = true→∀ (i : Nat) (pins : List (Addr × Obj)) (s : Shared) (σ : St) (H : Hp) (E : Value→Shared→Prop),Inv X pins σ H s→(∀ b ∈ fp,FpOk X pins H b)→tn i s.heap→J.stop i H →
  wpAny (model P w) X.A (pyNext (.ref it)) (fun r s1=>r = none∧Inv X pins σ H s1) E s
 self : ∀ (A : Around) (i : Nat) (s : Shared) (Q : Value→Shared→Prop) (E : Value→Shared→Prop),tn i s.heap→Q (.ref it) s→wpAny (model P w) A (pyIter (.ref it)) Q E s
abbrev TI:=St→Hp→(It→Hp→Prop)→Prop
def PIE (X : Cx) (pins : List (Addr × Obj)) (σ : St) (tg : Expr) (R : It→Hp→Prop) (itv : Value) (s2 : Shared) : Prop :=
 ∃ (it : Addr) (fp : List Addr) (tn : Nat→Heap→Prop) (J : It) (H' : Hp),itv = .ref it∧Inv X pins σ H' s2∧Turn X.prog X.w X.K tg J fp it tn∧tn 0 s2.heap∧(∀ b ∈ fp,FpOk X pins H' b)∧R J H'
def PI (X : Cx) (tg iter : Expr) (wi : TI) : Prop :=
 ∀ (pins : List (Addr × Obj)) (s : Shared) (σ : St) (H : Hp) (R : It→Hp→Prop),Inv X pins σ H s→wi σ H R →
  wpAny (model X.prog X.w) X.A (eval iter X.env) (fun v s1=>wpAny (model X.prog X.w) X.A (pyIter v) (PIE X pins σ tg R) X.xe s1) X.xe s
theorem go_of {M : Model} {A : Around} {E : Value → Shared → Prop} {s : Shared} {tg : Expr} {it : Addr} {u : Value} {o : Obj} {n : String} {vs : Array Value} {Q : Unit → Shared → Prop} (ho : s.heap.get? it = some o) (hc : o.cls = .type n) (hd : o.data = .fields vs)
    (hn : ["enumerate", "zip", "dict_itemiterator", "dict_reverseitemiterator", "odict_iterator", "itertools.zip_longest", "itertools.pairwise"].contains n = false) (hQ : Q () s) : wpAny M A (letOwnedTupleGo tg (.ref it) u) Q E s := by
  unfold letOwnedTupleGo
  cases tg <;> first
    | exact wpAny_pure hQ
    | (cases u <;> first
        | exact wpAny_pure hQ
        | (refine wpAny_bind (wpAny_load ho ?_)
           rw [hc, hd]
           show wpAny M A (if (["enumerate", "zip", "dict_itemiterator", "dict_reverseitemiterator", "odict_iterator", "itertools.zip_longest", "itertools.pairwise"].contains n && vs[0]? == some (rawInt _)) = true then _ else _) Q E s
           rw [if_neg (by intro h; rw [hn, Bool.false_and] at h; cases h)]
           exact wpAny_pure hQ))
def Itl (K : PySem.W.Frag) (a : Addr) : It :=
 ⟨fun i H=>∃ xs x,SqL K H a xs∧xs[i]? = some x,fun i H x H'=>H' = H∧∀ xs,SqL K H a xs→xs[i]? = some x,fun i H=>∃ xs,SqL K H a xs∧xs.length≤i⟩
def Itt (K : PySem.W.Frag) (a : Addr) : It :=
 ⟨fun i H=>∃ xs x,SqT K H a xs∧xs[i]? = some x,fun i H x H'=>H' = H∧∀ xs,SqT K H a xs→xs[i]? = some x,fun i H=>∃ xs,SqT K H a xs∧xs.length≤i⟩
def Itr (lo : Int) (n : Nat) : It:=⟨fun i _=>i < n,fun i H x H'=>H' = H∧x = .int (lo + i),fun i _=>n≤i⟩
theorem turn_list {P : Program} {w : World} {K : PySem.W.Frag} {tg : Expr} (a it : Addr) : Turn P w K tg (Itl K a) [it] it (fun i h=>h.IsListIter it a i) where
 mem:=by simp
 obj:=fun i h st b hb=>by
  have e : b = it:=by simpa using hb
  subst e
  obtain ⟨o,e,c,d⟩:=st
  exact ⟨o,e,fun v z=>by rw [d] at z; cases z⟩
 keep:=fun i h h' st k=>st.at fun o e=>k it (by simp) o e
 item:=by
  intro X hP hw hK hc i pins s σ H E I hf st hg
  subst hP hw hK
  obtain ⟨xs,x,hq,hx⟩:=hg
  obtain ⟨its,rv,p,hz⟩:=I.list hq
  obtain ⟨u,hu,ru⟩:=rv.get hx
  obtain ⟨f0,f1,f2,f3,f4,f5⟩:=hf it (by simp)
  refine wpAny_pyNext_list_item st p.isList (x:=u) (by simpa using hu) fun h' st' sb=>?_
  have I1 : Inv X pins σ H { s with heap:=h' }:=I.turned (t':=s.toks) (fun b o hb e=>(sb.2 b hb).trans e) f0 f1 f3 f4 f5
  obtain ⟨o,e,c,d⟩:=id st'
  exact ⟨u,rfl,go_of (s:={ s with heap:=h' }) e c d (by decide) ⟨x,H,I1,ru,⟨rfl,fun ys hy=>by rw [I.list_inj hy hq]; exact hx⟩,st',fun b hb=>(hf b hb).1⟩⟩
 done:=by
  intro X hP hw hK hc i pins s σ H E I hf st hg
  subst hP hw hK
  obtain ⟨xs,hq,hx⟩:=hg
  obtain ⟨its,rv,p,hz⟩:=I.list hq
  obtain ⟨f0,f1,f2,f3,f4,f5⟩:=hf it (by simp)
  have hl:=rv.length
  exact wpAny_pyNext_list_end (I.ok.hd hc) st p.isList (by simp; omega) fun h' eb=>⟨rfl,I.turned (t':=s.toks) (fun b o hb e=>eb b o hb e) f0 f1 f3 f4 f5⟩
 self:=fun _ _ _ _ _ st h=>wpAny_pyIter_listiter st h
theorem turn_tuple {P : Program} {w : World} {K : PySem.W.Frag} {tg : Expr} (a it : Addr) : Turn P w K tg (Itt K a) [it] it (fun i h=>h.IsTupleIter it a i) where
 mem:=by simp
 obj:=fun i h st b hb=>by
  have e : b = it:=by simpa using hb
  subst e
  obtain ⟨o,e,c,d⟩:=st
  exact ⟨o,e,fun v z=>by rw [d] at z; cases z⟩
 keep:=fun i h h' st k=>st.at fun o e=>k it (by simp) o e
 item:=by
  intro X hP hw hK hc i pins s σ H E I hf st hg
  subst hP hw hK
  obtain ⟨xs,x,hq,hx⟩:=hg
  obtain ⟨its,rv,p,hz⟩:=I.tuple hq
  obtain ⟨u,hu,ru⟩:=rv.get hx
  obtain ⟨f0,f1,f2,f3,f4,f5⟩:=hf it (by simp)
  refine wpAny_pyNext_tuple_item st (show s.heap.IsTuple a its.toArray from p) (x:=u) (by simpa using hu) fun h' st' sb=>?_
  have I1 : Inv X pins σ H { s with heap:=h' }:=I.turned (t':=s.toks) (fun b o hb e=>(sb.2 b hb).trans e) f0 f1 f3 f4 f5
  obtain ⟨o,e,c,d⟩:=id st'
  exact ⟨u,rfl,go_of (s:={ s with heap:=h' }) e c d (by decide) ⟨x,H,I1,ru,⟨rfl,fun ys hy=>by rw [I.tuple_inj hy hq]; exact hx⟩,st',fun b hb=>(hf b hb).1⟩⟩
 done:=by
  intro X hP hw hK hc i pins s σ H E I hf st hg
  subst hP hw hK
  obtain ⟨xs,hq,hx⟩:=hg
  obtain ⟨its,rv,p,hz⟩:=I.tuple hq
  obtain ⟨f0,f1,f2,f3,f4,f5⟩:=hf it (by simp)
  have hl:=rv.length
  exact wpAny_pyNext_tuple_end (I.ok.hd hc) st (show s.heap.IsTuple a its.toArray from p) (by simp; omega) fun h' eb=>⟨rfl,I.turned (t':=s.toks) (fun b o hb e=>eb b o hb e) f0 f1 f3 f4 f5⟩
 self:=fun _ _ _ _ _ st h=>wpAny_pyIter_tupleiter st h
theorem turn_range {P : Program} {w : World} {K : PySem.W.Frag} {tg : Expr} (it : Addr) (lo : Int) (n : Nat) : Turn P w K tg (Itr lo n) [it] it (fun i h=>IsRangeIter h it (lo + (i : Nat) * 1) ((n : Int) - (i : Nat)) 1) where
 mem:=by simp
 obj:=fun i h st b hb=>by
  have e : b = it:=by simpa using hb
  subst e
  exact ⟨_,st,fun v z=>by
   have z' : Data.fields _ = Data.cell v:=z
   cases z'⟩
 keep:=fun i h h' st k=>k it (by simp) _ st
 item:=by
  intro X hP hw hK hc i pins s σ H E I hf st hg
  subst hP hw hK
  obtain ⟨f0,f1,f2,f3,f4,f5⟩:=hf it (by simp)
  have W:=Walks.range (prog:=X.prog) (w:=X.w) (I.ok.hd hc) it lo 1 n
  refine W.item i s _ _ hg st fun v h' tk hv st' kk=>?_
  obtain ⟨t,rfl⟩:=hv
  have I1 : Inv X pins σ H { s with heap:=h',toks:=tk }:=I.turned (fun b o hb e=>kk b o (by simpa using hb) e) f0 f1 f3 f4 f5
  refine ⟨_,rfl,go_of (s:={ s with heap:=h',toks:=tk }) (n:="range_iterator") st' rfl rfl (by decide) ⟨.int (lo + i),H,I1,⟨t,?_⟩,⟨rfl,rfl⟩,st',fun b hb=>(hf b hb).1⟩⟩
  rw [Int.mul_one]
 done:=by
  intro X hP hw hK hc i pins s σ H E I hf st hg
  subst hP hw hK
  obtain ⟨f0,f1,f2,f3,f4,f5⟩:=hf it (by simp)
  exact wpAny_pyNext_range_end (I.ok.hd hc) st (by have : n≤i:=hg; omega) fun h' eb=>⟨rfl,I.turned (t':=s.toks) (fun b o hb e=>eb b o hb e) f0 f1 f3 f4 f5⟩
 self:=fun _ _ _ _ _ st h=>wpAny_pyIter_rangeiter st h
end L2
namespace L2
open PySem PySem.Spec PyProof.Rows
section
variable {X : Cx} {tg : Expr}
def iList (K : PySem.W.Frag) (tl : TE) : TI:=fun σ H R=>tl σ H fun x H1=>∃ a,x = .ref a∧(∃ xs,SqL K H1 a xs)∧R (Itl K a) H1
def iTup (K : PySem.W.Frag) (tl : TE) : TI:=fun σ H R=>tl σ H fun x H1=>∃ a,x = .ref a∧(∃ xs,SqT K H1 a xs)∧R (Itt K a) H1
theorem pi_list {l : Expr} {tl : TE} (hl : PE X l tl) : PI X tg l (iList X.K tl):=by
 intro pins s σ H R I h
 refine thn (hl pins s σ H _ I h) fun v s1 ⟨x,H1,I1,r1,q1⟩=>?_
 obtain ⟨a,e,⟨xs,hq⟩,q⟩:=q1
 subst e
 cases r1
 obtain ⟨its,rv,p,hz⟩:=I1.list hq
 refine wpAny_pyIter_list p.isList ?_
 refine ⟨s1.heap.objs.size,[s1.heap.objs.size],_,_,H1,rfl,I1.kept (t':=s1.toks) fun b o e=>Heap.get?_push_of_some _ e,turn_list a _,⟨_,Heap.get?_push_size _ rfl,rfl,rfl⟩,fun b hb=>?_,q⟩
 have e : b = s1.heap.objs.size:=by simpa using hb
 subst e
 exact I1.fpOk (Nat.le_refl _) (I1.hok.fresh (Nat.le_refl _))
theorem pi_tup {l : Expr} {tl : TE} (hl : PE X l tl) : PI X tg l (iTup X.K tl):=by
 intro pins s σ H R I h
 refine thn (hl pins s σ H _ I h) fun v s1 ⟨x,H1,I1,r1,q1⟩=>?_
 obtain ⟨a,e,⟨xs,hq⟩,q⟩:=q1
 subst e
 cases r1
 obtain ⟨its,rv,p,hz⟩:=I1.tuple hq
 refine wpAny_pyIter_tuple (show s1.heap.IsTuple a its.toArray from p) ?_
 refine ⟨s1.heap.objs.size,[s1.heap.objs.size],_,_,H1,rfl,I1.kept (t':=s1.toks) fun b o e=>Heap.get?_push_of_some _ e,turn_tuple a _,⟨_,Heap.get?_push_size _ rfl,rfl,rfl⟩,fun b hb=>?_,q⟩
 have e : b = s1.heap.objs.size:=by simpa using hb
 subst e
 exact I1.fpOk (Nat.le_refl _) (I1.hok.fresh (Nat.le_refl _))
theorem range_it {pins : List (Addr × Obj)} {σ : St} {H : Hp} {s : Shared} {R : It→Hp→Prop} {E : Value→Shared→Prop} {lo hi : Int} {t u v : Tok} {tk : Nat} (I : Inv X pins σ H s) (h1 : -(2 ^ 62)≤lo) (h2 : lo < 2 ^ 62) (h3 : -(2 ^ 62)≤hi) (h4 : hi < 2 ^ 62)
  (q : R (Itr lo (hi - lo).toNat) H) : wpAny (model X.prog X.w) X.A (pyIter (.ref s.heap.objs.size)) (PIE X pins σ tg R) E { s with heap:=s.heap.push { cls:=.type "range",data:=.fields #[.int lo t,.int hi u,.int 1 v] },toks:=tk }:=by
 refine wpAny_pyIter_range (IsRange.new ..) (small_one h1 h2 h3 h4) ?_
 have I1 : Inv X pins σ H { s with heap:=s.heap.push { cls:=.type "range",data:=.fields #[.int lo t,.int hi u,.int 1 v] },toks:=tk }:=I.kept fun b o e=>Heap.get?_push_of_some _ e
 refine ⟨(s.heap.push { cls:=.type "range",data:=.fields #[.int lo t,.int hi u,.int 1 v] }).objs.size,[(s.heap.push { cls:=.type "range",data:=.fields #[.int lo t,.int hi u,.int 1 v] }).objs.size],_,_,H,rfl,
  I1.kept (t':=tk) fun b o e=>Heap.get?_push_of_some _ e,turn_range _ lo (hi - lo).toNat,?_,fun b hb=>?_,q⟩
 ·have e1 : lo + ((0 : Nat) : Int) * 1 = lo:=by simp
  have e2 : (((hi - lo).toNat : Nat) : Int) - ((0 : Nat) : Int) = Builtin.Range.rangeSize lo hi 1:=by rw [rangeSize_one]; split <;> omega
  show IsRangeIter _ _ (lo + ((0 : Nat) : Int) * 1) ((((hi - lo).toNat : Nat) : Int) - ((0 : Nat) : Int)) 1
  rw [e1,e2]
  exact Heap.get?_push_size _ rfl
 ·have e : b = (s.heap.push { cls:=.type "range",data:=.fields #[.int lo t,.int hi u,.int 1 v] }).objs.size:=by simpa using hb
  subst e
  exact I1.fpOk (Nat.le_refl _) (I1.hok.fresh (Nat.le_refl _))
def iRng2 (ta : TA) : TI:=fun σ H R=>ta σ H fun vs H1=>∃ i j : Int,vs = [.int i,.int j]∧(-(2 ^ 62)≤i∧i < 2 ^ 62∧-(2 ^ 62)≤j∧j < 2 ^ 62)∧R (Itr i (j - i).toNat) H1
theorem pi_range2 {a b : Expr} {ta : TA} {p pos : Pos} (hg : Gl X "range") (hm : X.mg "range" = none) (ha : PA X [a,b] ta) (hs : starEach [a,b] X.env = [(false,eval a X.env),(false,eval b X.env)]:=by rfl) (hs2 : starEach [b] X.env = [(false,eval b X.env)]:=by rfl) :
  PI X tg (.Call (.Name "range" p) [a,b] [] pos) (iRng2 ta):=by
 intro pins s σ H R I h
 refine Call_ (ld_blt I hg hm boot_range (PyProof.Rows.callWith_type1 (thn (ha pos pins s σ H _ I h) fun us s1 ⟨vs,H1,I1,r1,q1⟩=>?_) (by rw [hs,hs2]) (by rw [hs2]; rfl)))
 obtain ⟨i,j,e,⟨q1,q2,q3,q4⟩,q⟩:=q1
 subst e
 cases r1 with
 | cons r rr =>
  cases rr with
  | cons r' rr =>
   cases rr
   obtain ⟨t,rfl⟩:=r
   obtain ⟨t',rfl⟩:=r'
   exact call_range_2 (range_it I1 q1 q2 q3 q4 q)
def tFor (wi : TI) (g : TG) (tb : TS) : TS:=fun D σ H=>wi σ H fun J H1=>∃ W : Nat→Nat→St→Hp→Prop,(∃ m,W 0 m σ H1)∧∀ i m σ H,W i m σ H →
 (J.stop i H∧D.nx σ H)∨(J.go i H∧∃ N : St→Hp→Prop,(∀ σ' H',N σ' H'→∃ m',m' < m∧W (i + 1) m' σ' H')∧∀ x H',J.yld i H x H'→g x σ H' fun σ2 H2=>tb { D with nx:=N,ct:=N,bk:=D.nx } σ2 H2)
def pinsAt (fp : List Addr) (h : Heap) : List (Addr × Obj):=fp.filterMap fun b=>(h.get? b).map fun o=>(b,o)
theorem mem_pinsAt {fp : List Addr} {h : Heap} {b : Addr} {o : Obj} (hb : b ∈ fp) (e : h.get? b = some o) : (b,o) ∈ pinsAt fp h:=List.mem_filterMap.mpr ⟨b,hb,by rw [e]; rfl⟩
theorem of_pinsAt {fp : List Addr} {h : Heap} {p : Addr × Obj} (hp : p ∈ pinsAt fp h) : p.1 ∈ fp∧h.get? p.1 = some p.2:=by
 obtain ⟨b,hb,e⟩:=List.mem_filterMap.mp hp
 cases q : h.get? b with
 | none=>rw [q] at e; cases e
 | some o =>
  rw [q] at e
  have e' : (b,o) = p:=Option.some.inj e
  subst e'
  exact ⟨hb,q⟩
theorem Inv.pinned {pins : List (Addr × Obj)} {σ : St} {H : Hp} {s : Shared} {fp : List Addr} (I : Inv X pins σ H s) (hf : ∀ b ∈ fp,FpOk X pins H b) (ho : ∀ b ∈ fp,∃ o,s.heap.get? b = some o∧∀ v,o.data ≠ .cell v) : Inv X (pins++pinsAt fp s.heap) σ H s :=
 I.pins_of fun p hp=>(List.mem_append.mp hp).elim (fun z=>I.pin p (List.mem_append_right _ z)) fun z=>by
  obtain ⟨hb,e⟩:=of_pinsAt z
  obtain ⟨f0,f1,f2,_⟩:=hf p.1 hb
  obtain ⟨o,e',d⟩:=ho p.1 hb
  rw [e] at e'; cases e'
  exact ⟨e,f0,f1,f2,d⟩
theorem Inv.unpinned {pins pl : List (Addr × Obj)} {σ : St} {H : Hp} {s : Shared} (I : Inv X (pins++pl) σ H s) : Inv X pins σ H s:=I.pins_of fun p hp=>I.pin p (List.mem_append_right _ (List.mem_append_left _ hp))
theorem ps_for {iter : Expr} {body : List Stmt} {wi : TI} {g : TG} {tb : TS} {pos : Pos} (hp : PassesOwn (model X.prog X.w) X.A X.env X.xe) (hc : X.calm = true) (hi : PI X tg iter wi) (hg : PG X tg g) (hb : PSs X body tb)
  (hs : ∀ x,foldedSetIterable iter X.env x = pure x:=by intro _; rfl) : PS X (.For tg iter body [] pos) (tFor wi g tb):=by
 intro pins s σ H D I h
 refine wpAny_For (thn (hi pins s σ H _ I h) fun v s1 h1=>thn h1 fun itv s2 h2=>?_) hs
 obtain ⟨it,fp,tn,J,H2,e,I2,T,st2,f2,W,⟨m0,w0⟩,turn⟩:=h2
 subst e
 have stat : ∀ {H' : Hp},(∀ b ∈ fp,H' b = none)→∀ b ∈ fp,FpOk X pins H' b:=fun hn b hb=>⟨hn b hb,(f2 b hb).2⟩
 refine codeAny_forLoop_any (fun n s'=>∃ i σ' H',Inv X pins σ' H' s'∧tn i s'.heap∧(∀ b ∈ fp,H' b = none)∧W i n σ' H') ?_ m0 ⟨0,σ,H2,I2,st2,fun b hb=>(f2 b hb).1,w0⟩
 rintro n s3 ⟨i,σ3,H3,I3,st3,fr3,w3⟩
 rcases turn i n σ3 H3 w3 with ⟨stop,qn⟩ | ⟨go,N,hN,step⟩
 ·refine wpAny_passesOwn hp (thn (T.done X rfl rfl rfl hc i pins s3 σ3 H3 X.xe I3 (stat fr3) st3 stop) fun r s4 ⟨hr,I4⟩=>?_)
  subst hr
  exact wpAny_execs_nil ⟨σ3,H3,I4,qn⟩
 ·refine wpAny_passesOwn hp (thn (T.item X rfl rfl rfl hc i pins s3 σ3 H3 X.xe I3 (stat fr3) st3 go) fun r s4 ⟨u,hr,h4⟩=>?_)
  subst hr
  refine wpAny_passesOwn hp (thn h4 fun _ s5 ⟨x,H5,I5,r5,y5,st5,fr5⟩=>?_)
  have I5':=I5.pinned (stat fr5) (T.obj _ _ st5)
  refine wpAny_passesOwn hp (thn (hg _ s5 σ3 H5 x u _ I5' r5 (step x H5 y5)) fun _ s6 ⟨σ6,H6,I6,q6⟩=>?_)
  refine wpAny_passesOwn hp (thn (hb _ s6 σ6 H6 _ I6 q6) fun f s7 q7=>?_)
  have again : ∀ {σ7 : St} {H7 : Hp},Inv X (pins++pinsAt fp s5.heap) σ7 H7 s7→N σ7 H7→∃ m,m < n∧∃ i σ' H',Inv X pins σ' H' s7∧tn i s7.heap∧(∀ b ∈ fp,H' b = none)∧W i m σ' H':=fun {σ7 H7} I7 n7=>by
   obtain ⟨m',hm,w7⟩:=hN σ7 H7 n7
   refine ⟨m',hm,i + 1,σ7,H7,I7.unpinned,T.keep _ _ _ st5 fun b hb o e=>(I7.pin (b,o) (List.mem_append_right _ (List.mem_append_right _ (mem_pinsAt hb e)))).1,fun b hb=>?_,w7⟩
   obtain ⟨o,e,d⟩:=T.obj _ _ st5 b hb
   exact (I7.pin (b,o) (List.mem_append_right _ (List.mem_append_right _ (mem_pinsAt hb e)))).2.1
  cases f with
  | next=>obtain ⟨σ7,H7,I7,n7⟩:=q7; exact again I7 n7
  | cont=>obtain ⟨σ7,H7,I7,n7⟩:=q7; exact again I7 n7
  | brk=>obtain ⟨σ7,H7,I7,q7⟩:=q7; exact ⟨σ7,H7,I7.unpinned,q7⟩
  | ret v=>obtain ⟨x7,σ7,H7,I7,r7,q7⟩:=q7; exact ⟨x7,σ7,H7,I7.unpinned,r7,q7⟩
end
theorem for_list {K : PySem.W.Frag} {a : Addr} {xs : List V} {g : TG} {tb : TS} {D : Ends} {σ : St} {H : Hp} (Pv : Nat→St→Hp→Prop) (h0 : Pv 0 σ H) (hl : ∀ i σ H,i≤xs.length→Pv i σ H→SqL K H a xs)
  (hs : ∀ i x σ H,xs[i]? = some x→Pv i σ H→g x σ H fun σ2 H2=>tb { D with nx:=Pv (i + 1),ct:=Pv (i + 1),bk:=D.nx } σ2 H2) (hd : ∀ σ H,Pv xs.length σ H→D.nx σ H) :
  ∃ W : Nat→Nat→St→Hp→Prop,(∃ m,W 0 m σ H)∧∀ i m σ H,W i m σ H →
   ((Itl K a).stop i H∧D.nx σ H)∨((Itl K a).go i H∧∃ N : St→Hp→Prop,(∀ σ' H',N σ' H'→∃ m',m' < m∧W (i + 1) m' σ' H')∧∀ x H',(Itl K a).yld i H x H'→g x σ H' fun σ2 H2=>tb { D with nx:=N,ct:=N,bk:=D.nx } σ2 H2):=by
 refine ⟨fun i m σ H=>m = xs.length - i∧i≤xs.length∧Pv i σ H,⟨xs.length,by simp,Nat.zero_le _,h0⟩,?_⟩
 rintro i m σ H ⟨rfl,hi,p⟩
 have q:=hl i σ H hi p
 by_cases hlt : i < xs.length
 ·refine .inr ⟨⟨xs,xs[i],q,by simp [hlt]⟩,Pv (i + 1),fun σ' H' p'=>⟨xs.length - (i + 1),by omega,rfl,hlt,p'⟩,fun x H' y=>?_⟩
  obtain ⟨e,y⟩:=y
  subst e
  exact hs i x σ _ (y xs q) p
 ·have e : i = xs.length:=by omega
  subst e
  exact .inl ⟨⟨xs,q,Nat.le_refl _⟩,hd σ H p⟩
theorem for_tup {K : PySem.W.Frag} {a : Addr} {xs : List V} {g : TG} {tb : TS} {D : Ends} {σ : St} {H : Hp} (Pv : Nat→St→Hp→Prop) (h0 : Pv 0 σ H) (hl : ∀ i σ H,i≤xs.length→Pv i σ H→SqT K H a xs)
  (hs : ∀ i x σ H,xs[i]? = some x→Pv i σ H→g x σ H fun σ2 H2=>tb { D with nx:=Pv (i + 1),ct:=Pv (i + 1),bk:=D.nx } σ2 H2) (hd : ∀ σ H,Pv xs.length σ H→D.nx σ H) :
  ∃ W : Nat→Nat→St→Hp→Prop,(∃ m,W 0 m σ H)∧∀ i m σ H,W i m σ H →
   ((Itt K a).stop i H∧D.nx σ H)∨((Itt K a).go i H∧∃ N : St→Hp→Prop,(∀ σ' H',N σ' H'→∃ m',m' < m∧W (i + 1) m' σ' H')∧∀ x H',(Itt K a).yld i H x H'→g x σ H' fun σ2 H2=>tb { D with nx:=N,ct:=N,bk:=D.nx } σ2 H2):=by
 refine ⟨fun i m σ H=>m = xs.length - i∧i≤xs.length∧Pv i σ H,⟨xs.length,by simp,Nat.zero_le _,h0⟩,?_⟩
 rintro i m σ H ⟨rfl,hi,p⟩
 have q:=hl i σ H hi p
 by_cases hlt : i < xs.length
 ·refine .inr ⟨⟨xs,xs[i],q,by simp [hlt]⟩,Pv (i + 1),fun σ' H' p'=>⟨xs.length - (i + 1),by omega,rfl,hlt,p'⟩,fun x H' y=>?_⟩
  obtain ⟨e,y⟩:=y
  subst e
  exact hs i x σ _ (y xs q) p
 ·have e : i = xs.length:=by omega
  subst e
  exact .inl ⟨⟨xs,q,Nat.le_refl _⟩,hd σ H p⟩
end L2
namespace L2
open PySem PySem.Spec PyProof.Rows
abbrev R2:=V→V→Hp→VK→Prop
def OpR (X : Cx) (f : Value→Value→Sem Value) (r : R2) : Prop :=
 ∀ (pins : List (Addr × Obj)) (s : Shared) (σ : St) (H : Hp) (x y : V) (v u : Value) (Q : VK),Inv X pins σ H s→RelV x v→RelV y u→r x y H Q →
  wpAny (model X.prog X.w) X.A (f v u) (EP X pins σ Q) X.xe s
def UnR (X : Cx) (f : Value→Sem Value) (r : V→Hp→VK→Prop) : Prop :=
 ∀ (pins : List (Addr × Obj)) (s : Shared) (σ : St) (H : Hp) (x : V) (v : Value) (Q : VK),Inv X pins σ H s→RelV x v→r x H Q →
  wpAny (model X.prog X.w) X.A (f v) (EP X pins σ Q) X.xe s
def CallR (X : Cx) (f : Value) (r : List V→Hp→VK→Prop) : Prop :=
 ∀ (pins : List (Addr × Obj)) (s : Shared) (σ : St) (H : Hp) (xs : List V) (us : List Value) (Q : VK),Inv X pins σ H s→Vals xs us→r xs H Q →
  wpAny (model X.prog X.w) X.A (call f us) (EP X pins σ Q) X.xe s
def tOp (r : R2) (ta tb : TE) : TE:=fun σ H Q=>ta σ H fun x H1=>tb σ H1 fun y H2=>r x y H2 Q
def tUn (r : V→Hp→VK→Prop) (ta : TE) : TE:=fun σ H Q=>ta σ H fun x H1=>r x H1 Q
def rI (C : Int→Int→Prop) (g : Int→Int→V) : R2:=fun x y H Q=>∃ i j,x = .int i∧y = .int j∧C i j∧Q (g i j) H
def rI0 (g : Int→Int→V) : R2:=fun x y H Q=>∃ i j,x = .int i∧y = .int j∧Q (g i j) H
def rU (g : Int→V) : V→Hp→VK→Prop:=fun x H Q=>∃ i,x = .int i∧Q (g i) H
section
variable {X : Cx} {a b c : Expr} {ta tb tc : TE} {pos : Pos}
theorem binT (ha : PE X a ta) (hb : PE X b tb) {pins : List (Addr × Obj)} {s : Shared} {σ : St} {H : Hp} {R : V→V→Hp→Prop} (I : Inv X pins σ H s)
  (h : ta σ H fun x H1=>tb σ H1 fun y H2=>R x y H2) {Q : Value→Shared→Prop} {f : Value→Value→Sem Value}
  (hf : ∀ v u s2 x y H2,Inv X pins σ H2 s2→RelV x v→RelV y u→R x y H2→wpAny (model X.prog X.w) X.A (f v u) Q X.xe s2) :
  wpAny (model X.prog X.w) X.A (eval a X.env) (fun v s₁=>wpAny (model X.prog X.w) X.A (eval b X.env) (fun u s₂=>wpAny (model X.prog X.w) X.A (f v u) Q X.xe s₂) X.xe s₁) X.xe s:=by
 refine thn (ha pins s σ H _ I h) fun v s1 ⟨x,H1,I1,r1,q1⟩=>?_
 refine thn (hb pins s1 σ H1 _ I1 q1) fun u s2 ⟨y,H2,I2,r2,q2⟩=>?_
 exact hf v u s2 x y H2 I2 r1 r2 q2
theorem pe_op {op : Operator} {r : R2} (ho : OpR X (binaryOp op) r) (ha : PE X a ta) (hb : PE X b tb) : PE X (.BinOp a op b pos) (tOp r ta tb):=by
 intro pins s σ H Q I h
 exact wpAny_BinOp (binT ha hb I h fun v u s2 x y H2 I2 rx ry q=>ho pins s2 σ H2 x y v u Q I2 rx ry q)
theorem pe_un {op : UnaryOp} {r : V→Hp→VK→Prop} (ho : UnR X (unaryOp op) r) (ha : PE X a ta) : PE X (.UnaryOp op a pos) (tUn r ta):=by
 intro pins s σ H Q I h
 exact UnaryOp_ (thn (ha pins s σ H _ I h) fun v s1 ⟨x,H1,I1,r1,q1⟩=>ho pins s1 σ H1 x v Q I1 r1 q1)
theorem opI {f : Value→Value→Sem Value} {C : Int→Int→Prop} {g : Int→Int→Int}
  (rule : ∀ (i j : Int) (t u : Tok) (s : Shared) (Q : Value→Shared→Prop) (E : Value→Shared→Prop),C i j→Q (.int (g i j) s.toks) { s with toks:=s.toks + 1 }→wpAny (model X.prog X.w) X.A (f (.int i t) (.int j u)) Q E s) :
  OpR X f (rI C fun i j=>.int (g i j)):=by
 intro pins s σ H x y v u Q I rx ry h
 obtain ⟨i,j,rfl,rfl,hc,q⟩:=h
 obtain ⟨t,rfl⟩:=rx
 obtain ⟨t',rfl⟩:=ry
 exact rule i j t t' s _ _ hc ⟨.int (g i j),H,I.tok _,⟨_,rfl⟩,q⟩
theorem opI0 {f : Value→Value→Sem Value} {g : Int→Int→Int}
  (rule : ∀ (i j : Int) (t u : Tok) (s : Shared) (Q : Value→Shared→Prop) (E : Value→Shared→Prop),Q (.int (g i j) s.toks) { s with toks:=s.toks + 1 }→wpAny (model X.prog X.w) X.A (f (.int i t) (.int j u)) Q E s) :
  OpR X f (rI0 fun i j=>.int (g i j)):=by
 intro pins s σ H x y v u Q I rx ry h
 obtain ⟨i,j,rfl,rfl,q⟩:=h
 obtain ⟨t,rfl⟩:=rx
 obtain ⟨t',rfl⟩:=ry
 exact rule i j t t' s _ _ ⟨.int (g i j),H,I.tok _,⟨_,rfl⟩,q⟩
theorem opB0 {f : Value→Value→Sem Value} {g : Int→Int→Bool}
  (rule : ∀ (i j : Int) (t u : Tok) (s : Shared) (Q : Value→Shared→Prop) (E : Value→Shared→Prop),Q (.bool (g i j)) s→wpAny (model X.prog X.w) X.A (f (.int i t) (.int j u)) Q E s) :
  OpR X f (rI0 fun i j=>.bl (g i j)):=by
 intro pins s σ H x y v u Q I rx ry h
 obtain ⟨i,j,rfl,rfl,q⟩:=h
 obtain ⟨t,rfl⟩:=rx
 obtain ⟨t',rfl⟩:=ry
 exact rule i j t t' s _ _ ⟨.bl (g i j),H,I,rfl,q⟩
theorem op_add : OpR X (binaryOp .Add) (rI0 fun i j=>.int (i + j)):=opI0 fun _ _ _ _ _ _ _ q=>add_int q
theorem op_sub : OpR X (binaryOp .Sub) (rI0 fun i j=>.int (i - j)):=opI0 fun _ _ _ _ _ _ _ q=>sub_int q
theorem op_mod : OpR X (binaryOp .Mod) (rI (fun _ j=>0 < j) fun i j=>.int (i % j)):=opI fun i j _ _ _ _ _ hc q=>by
 have h1 : (0 : Int) < j:=hc
 exact mod_int' (by omega) (by rw [Int.fmod_eq_emod_of_nonneg i (by omega)]; exact q)
theorem unI {f : Value→Sem Value} {g : Int→Int}
  (rule : ∀ (i : Int) (t : Tok) (s : Shared) (Q : Value→Shared→Prop) (E : Value→Shared→Prop),Q (.int (g i) s.toks) { s with toks:=s.toks + 1 }→wpAny (model X.prog X.w) X.A (f (.int i t)) Q E s) :
  UnR X f (rU fun i=>.int (g i)):=by
 intro pins s σ H x v Q I rx h
 obtain ⟨i,rfl,q⟩:=h
 obtain ⟨t,rfl⟩:=rx
 exact rule i t s _ _ ⟨.int (g i),H,I.tok _,⟨_,rfl⟩,q⟩
theorem un_neg : UnR X (unaryOp .USub) (rU fun i=>.int (-i)):=unI fun _ _ _ _ _ q=>neg_int q
end
def scal : V→V→Bool
 | .non,.non=>true | .non,.int _=>true | .int _,.non=>true | .non,.bl _=>true | .bl _,.non=>true | .non,.str _=>true | .str _,.non=>true
 | .int _,.int _=>true | .bl _,.bl _=>true | .str _,.str _=>true | .byt _,.byt _=>true
 | .int _,.str _=>true | .str _,.int _=>true | .bl _,.str _=>true | .str _,.bl _=>true
 | _,_=>false
def rEq : R2:=fun x y H Q=>scal x y = true∧Q (.bl (decide (x = y))) H
def rNe : R2:=fun x y H Q=>scal x y = true∧Q (.bl (!decide (x = y))) H
theorem dec_int {i j : Int} : decide (V.int i = V.int j) = (i == j):=by
 rw [Bool.eq_iff_iff]
 simp
theorem dec_bl {i j : Bool} : decide (V.bl i = V.bl j) = (i == j):=by
 rw [Bool.eq_iff_iff]
 simp
theorem dec_str {i j : Str} : decide (V.str i = V.str j) = (i == j):=by
 rw [Bool.eq_iff_iff]
 simp
theorem dec_byt {i j : Array UInt8} : decide (V.byt i = V.byt j) = (i.toList == j.toList):=by
 rw [Bool.eq_iff_iff]
 cases i
 cases j
 simp
section
variable {X : Cx} {a b c : Expr} {ta tb tc : TE} {pos : Pos}
theorem fin_bl {pins : List (Addr × Obj)} {σ : St} {H : Hp} {s : Shared} {Q : VK} {k k' : Bool} (I : Inv X pins σ H s) (q : Q (.bl k) H) (e : k = k') : EP X pins σ Q (.bool k') s:=by
 subst e
 exact ⟨.bl k,H,I,rfl,q⟩
theorem op_eq : OpR X (compareOp .Eq) rEq:=by
 intro pins s σ H x y v u Q I rx ry h
 obtain ⟨hs,q⟩:=h
 cases x with
 | non =>
  cases rx
  cases y with
  | non=>cases ry; exact PySem.EqNone.eq_none_none (fin_bl I q (by simp))
  | bl j=>cases ry; exact PySem.EqNone.eq_none_bool (fin_bl I q (by simp))
  | int j=>obtain ⟨t',rfl⟩:=ry; exact PySem.EqNone.eq_none_int (fin_bl I q (by simp))
  | str j=>obtain ⟨t',rfl⟩:=ry; exact PySem.EqNone.eq_none_str (fin_bl I q (by simp))
  | _=>exact absurd (show false = true from hs) Bool.false_ne_true
 | bl i =>
  cases rx
  cases y with
  | non=>cases ry; exact PySem.EqNone.eq_bool_none (fin_bl I q (by simp))
  | bl j=>cases ry; exact eq_bool (fin_bl I q dec_bl)
  | str j=>obtain ⟨t',rfl⟩:=ry; exact PySem.EqMixed.eq_bool_str (fin_bl I q (by simp))
  | _=>exact absurd (show false = true from hs) Bool.false_ne_true
 | int i =>
  obtain ⟨t,rfl⟩:=rx
  cases y with
  | non=>cases ry; exact PySem.EqNone.eq_int_none (fin_bl I q (by simp))
  | int j=>obtain ⟨t',rfl⟩:=ry; exact eq_int (fin_bl I q dec_int)
  | str j=>obtain ⟨t',rfl⟩:=ry; exact PySem.EqMixed.eq_int_str (fin_bl I q (by simp))
  | _=>exact absurd (show false = true from hs) Bool.false_ne_true
 | str i =>
  obtain ⟨t,rfl⟩:=rx
  cases y with
  | non=>cases ry; exact PySem.EqNone.eq_str_none (fin_bl I q (by simp))
  | bl j=>cases ry; exact PySem.EqMixed.eq_str_bool (fin_bl I q (by simp))
  | int j=>obtain ⟨t',rfl⟩:=ry; exact PySem.EqMixed.eq_str_int (fin_bl I q (by simp))
  | str j=>obtain ⟨t',rfl⟩:=ry; exact eq_str (fin_bl I q dec_str)
  | _=>exact absurd (show false = true from hs) Bool.false_ne_true
 | byt i =>
  obtain ⟨t,rfl⟩:=rx
  cases y with
  | byt j=>obtain ⟨t',rfl⟩:=ry; exact PySem.W.eq_bytes (fin_bl I q dec_byt)
  | _=>exact absurd (show false = true from hs) Bool.false_ne_true
 | _=>cases y <;> exact absurd (show false = true from hs) Bool.false_ne_true
theorem op_ne : OpR X (compareOp .NotEq) rNe:=by
 intro pins s σ H x y v u Q I rx ry h
 obtain ⟨hs,q⟩:=h
 cases x with
 | non =>
  cases rx
  cases y with
  | non=>cases ry; exact PySem.EqNone.ne_none_none (fin_bl I q (by simp))
  | bl j=>cases ry; exact PySem.EqNone.ne_none_bool (fin_bl I q (by simp))
  | int j=>obtain ⟨t',rfl⟩:=ry; exact PySem.EqNone.ne_none_int (fin_bl I q (by simp))
  | str j=>obtain ⟨t',rfl⟩:=ry; exact PySem.EqNone.ne_none_str (fin_bl I q (by simp))
  | _=>exact absurd (show false = true from hs) Bool.false_ne_true
 | bl i =>
  cases rx
  cases y with
  | non=>cases ry; exact PySem.EqNone.ne_bool_none (fin_bl I q (by simp))
  | bl j=>cases ry; exact ne_bool (fin_bl I q (congrArg not dec_bl))
  | str j=>obtain ⟨t',rfl⟩:=ry; exact PySem.EqMixed.ne_bool_str (fin_bl I q (by simp))
  | _=>exact absurd (show false = true from hs) Bool.false_ne_true
 | int i =>
  obtain ⟨t,rfl⟩:=rx
  cases y with
  | non=>cases ry; exact PySem.EqNone.ne_int_none (fin_bl I q (by simp))
  | int j=>obtain ⟨t',rfl⟩:=ry; exact ne_int (fin_bl I q (congrArg not dec_int))
  | str j=>obtain ⟨t',rfl⟩:=ry; exact PySem.EqMixed.ne_int_str (fin_bl I q (by simp))
  | _=>exact absurd (show false = true from hs) Bool.false_ne_true
 | str i =>
  obtain ⟨t,rfl⟩:=rx
  cases y with
  | non=>cases ry; exact PySem.EqNone.ne_str_none (fin_bl I q (by simp))
  | bl j=>cases ry; exact PySem.EqMixed.ne_str_bool (fin_bl I q (by simp))
  | int j=>obtain ⟨t',rfl⟩:=ry; exact PySem.EqMixed.ne_str_int (fin_bl I q (by simp))
  | str j=>obtain ⟨t',rfl⟩:=ry; exact ne_str (fin_bl I q (congrArg not dec_str))
  | _=>exact absurd (show false = true from hs) Bool.false_ne_true
 | byt i =>
  obtain ⟨t,rfl⟩:=rx
  cases y with
  | byt j=>obtain ⟨t',rfl⟩:=ry; exact PySem.W.ne_bytes (fin_bl I q (congrArg not dec_byt))
  | _=>exact absurd (show false = true from hs) Bool.false_ne_true
 | _=>cases y <;> exact absurd (show false = true from hs) Bool.false_ne_true
theorem op_lt : OpR X (compareOp .Lt) (rI0 fun i j=>.bl (decide (i < j))):=opB0 fun _ _ _ _ _ _ _ q=>lt_int q
theorem op_le : OpR X (compareOp .LtE) (rI0 fun i j=>.bl (decide (i≤j))):=opB0 fun _ _ _ _ _ _ _ q=>le_int q
theorem op_gt : OpR X (compareOp .Gt) (rI0 fun i j=>.bl (decide (j < i))):=opB0 fun _ _ _ _ _ _ _ q=>gt_int q
theorem op_ge : OpR X (compareOp .GtE) (rI0 fun i j=>.bl (decide (j≤i))):=opB0 fun _ _ _ _ _ _ _ q=>ge_int q
theorem nomark (b : Expr) {op : CmpOp} (h : op ≠ .In:=by decide) (h2 : op ≠ .NotIn:=by decide) : behindInMarks op b = false:=by
 have e1 : (op == CmpOp.In) = false:=by cases op <;> first | rfl | exact absurd rfl h
 have e2 : (op == CmpOp.NotIn) = false:=by cases op <;> first | rfl | exact absurd rfl h2
 cases b <;> simp [behindInMarks,e1,e2]
theorem pe_cmpR {op : CmpOp} {r : R2} (ho : OpR X (compareOp op) r) (ha : PE X a ta) (hb : PE X b tb) (hm : behindInMarks op b = false) : PE X (.Compare a [op] [b] pos) (tOp r ta tb):=by
 intro pins s σ H Q I h
 exact wpAny_Compare1 (binT ha hb I h fun v u s2 x y H2 I2 rx ry q=>ho pins s2 σ H2 x y v u Q I2 rx ry q) hm
def tTest (t : TE) : TT:=fun σ H Q=>t σ H fun x H'=>∃ k,x = .bl k∧Q k H'
theorem pt_cmpR {op : CmpOp} {r : R2} (ho : OpR X (compareOp op) r) (ha : PE X a ta) (hb : PE X b tb) (hm : behindInMarks op b = false) : PT X (.Compare a [op] [b] pos) (tTest (tOp r ta tb)):=by
 intro pins s σ H Q I h
 refine wpAny_isTrue_Compare1 (thn (ha pins s σ H _ I h) fun v s1 ⟨x,H1,I1,r1,q1⟩=>thn (hb pins s1 σ H1 _ I1 q1) fun u s2 ⟨y,H2,I2,r2,q2⟩ =>
  thn (ho pins s2 σ H2 x y v u _ I2 r1 r2 q2) fun c s3 ⟨z,H3,I3,r3,k,e,q3⟩=>?_) hm
 subst e
 cases r3
 exact wpAny_truthy_bool ⟨H3,I3,q3⟩
theorem line63 : (sizeLine : Nat) < 2 ^ 63:=by rw [sizeLine_eq]; decide
theorem op_add_str : OpR X (binaryOp .Add) (fun x y H Q=>∃ i j,x = .str i∧y = .str j∧i.length + j.length≤sizeLine∧Q (.str (i++j)) H):=by
 intro pins s σ H x y v u Q I rx ry h
 obtain ⟨i,j,rfl,rfl,hz,q⟩:=h
 obtain ⟨t,rfl⟩:=rx
 obtain ⟨t',rfl⟩:=ry
 exact add_str (fun t' tk=>⟨.str (i++j),H,I.tok _,⟨_,rfl⟩,q⟩) hz
theorem vals1 {x : V} {us : List Value} (r : Vals [x] us) : ∃ u,us = [u]∧RelV x u:=by
 cases r with
 | cons r1 r2=>cases r2; exact ⟨_,rfl,r1⟩
theorem vals2 {x y : V} {us : List Value} (r : Vals [x,y] us) : ∃ u w',us = [u,w']∧RelV x u∧RelV y w':=by
 cases r with
 | cons r1 r2 =>
  cases r2 with
  | cons r3 r4=>cases r4; exact ⟨_,_,rfl,r1,r3⟩
theorem call_str_int : CallR X (.type "str") (fun xs H Q=>∃ i,xs = [.int i]∧i.natAbs.log2 < 1920∧Q (.str (toString i)) H):=by
 intro pins s σ H xs us Q I r h
 obtain ⟨i,rfl,hz,q⟩:=h
 obtain ⟨u,rfl,t,rfl⟩:=vals1 r
 exact PySem.P.str_of_int hz ⟨.str _,H,I.tok _,⟨_,rfl⟩,q⟩
theorem call_ord : CallR X (.builtin "ord") (fun xs H Q=>∃ x,xs = [.str x]∧x.length = 1∧Q (.int (x.cps.getD 0 0 : Nat)) H):=by
 intro pins s σ H xs us Q I r h
 obtain ⟨x,rfl,hz,q⟩:=h
 obtain ⟨u,rfl,t,rfl⟩:=vals1 r
 exact ord_of_one hz ⟨.int _,H,I.tok _,⟨_,rfl⟩,q⟩
end
end L2
namespace L2
open PySem PySem.Spec PyProof.Rows
structure ObjM (h : Heap) (x dx C : Addr) (mA : Str→Option Value) : Prop where
 obj : h.get? x = some (PySem.W.instObj C dx)
 ns : h.Ns1 dx mA
 ne : dx ≠ x
theorem lookIn_ns {h : Heap} {dx : Addr} {mA : Str→Option Value} (n : h.Ns1 dx mA) : ∃ od,h.get? dx = some od∧∀ name,PySem.W.lookIn name od = some (mA name):=by
 obtain ⟨o,es,ep,ho,hd,hk,_,hm⟩:=n
 refine ⟨o,ho,fun name=>?_⟩
 have e:=hm name
 unfold nsFind findBy at e
 rw [← Array.find?_toList] at e
 unfold PySem.W.lookIn
 rw [hd]
 dsimp only
 split
 ·rename_i y q
  rw [q] at e
  exact congrArg some e
 ·rename_i q
  rw [q] at e
  have a : es.toList.any (·.refKey) = false:=by
   rw [List.any_eq_false]
   intro y hy
   obtain ⟨z,t,hkey⟩:=hk y (Array.mem_toList_iff.mp hy)
   simp [DictEntry.refKey,hkey]
  have a' : ¬ es.toList.any (·.refKey) = true:=by rw [a]; exact Bool.false_ne_true
  rw [if_neg a']
  exact congrArg some e
theorem ObjM.look {h : Heap} {x dx C : Addr} {mA : Str→Option Value} (I : ObjM h x dx C mA) : ∃ od,PySem.W.InstAt h x (PySem.W.instObj C dx) C (some od)∧∀ name,PySem.W.lookIn name od = some (mA name) :=
 let ⟨od,ho,hl⟩:=lookIn_ns I.ns
 ⟨od,⟨I.obj,rfl,rfl,ho⟩,hl⟩
section
variable {prog : Program} {w : World} {A : Around} {E : Value→Shared→Prop} {s : Shared} {K : PySem.W.Frag} {x dx C f : Addr} {mA : Str→Option Value} {name : Str} {v : Value}
theorem get_map {expr : Bool} {Q : Value→Shared→Prop} (X : K.In s.heap) (I : ObjM s.heap x dx C mA) (hg : PySem.W.plainGet K C name = true) (hh : PySem.W.hasDictIn K C = true)
  (ha : PySem.W.findIn K (.ref C) name = some none) (hv : mA name = some v) (hv' : PySem.W.handedIn v = true) (h : Q v { s with toks:=s.toks + 1 }) :
  wpAny (model prog w) A (getAttr (.ref x) name expr) Q E s:=by
 obtain ⟨od,J,hl⟩:=I.look
 exact PySem.W.get_value X J (PySem.W.plainGet_of hg).1 (PySem.W.findObj_own hh ha rfl (by rw [hl,hv])) hv' h
theorem get_meth {pl : Sem Bool} {Q : Value × List Value→Shared→Prop} (X : K.In s.heap) (I : ObjM s.heap x dx C mA) (hg : PySem.W.plainGet K C name = true)
  (hf : PySem.W.findIn K (.ref C) name = some (some (.ref f))) (ht : PySem.W.isFn K (.ref f) = true) (hv : mA name = none) (h : Q (.ref f,[.ref x]) s) :
  wpAny (model prog w) A (getMethod (.ref x) name pl) Q E s:=by
 obtain ⟨od,J,hl⟩:=I.look
 exact PySem.W.method_fn X J (PySem.W.plainGet_of hg).1 (PySem.W.plainGet_of hg).2 hf (beq_iff_eq.mp ht) (by show (PySem.W.lookIn name od).map (·.isSome) = some false; rw [hl,hv]; rfl) h
theorem set_map {ns : List Str} {Q : Unit→Shared→Prop} (X : K.In s.heap) (I : ObjM s.heap x dx C mA)
  (hs : PySem.W.findIn K (.ref C) "__setattr__" = some (some (.builtin "object.__setattr__"))) (hp : PySem.W.plainOver K C = true) (ht : PySem.W.takerIn K C name = some none) (hh : PySem.W.hasDictIn K C = true)
  (hw : PySem.Within mA ns) (hsz : ns.length≤sizeLine)
  (h : ∀ h',ObjM h' x dx C (fun y=>if y = name then some v else mA y)→Heap.SameBut dx s.heap h'→Q () { s with heap:=h',toks:=s.toks + 2 }) :
  wpAny (model prog w) A (setAttr (.ref x) name v) Q E s:=by
 obtain ⟨od,J,hl⟩:=I.look
 refine PySem.W.set_plain X J hs (PySem.W.osa_open (s:={ s with toks:=s.toks + 1 }) (r:=none) X J hp ht fun b=>?_)
 obtain ⟨cd,hc,hd'⟩:=PySem.W.any_some hh
 have hx : s.heap.get? x = some ⟨.ref C,some dx,.plain,#[]⟩:=I.obj
 refine wpAny_bind (wpAny_pure (wpAny_bind (wpAny_bind (wpAny_loadPart hx (wpAny_bind (PySem.W.Looks.here (s:={ s with toks:=s.toks + 1 }) (PySem.W.looks_clsIn X hc) ?_))))))
 rw [hd']
 refine wpAny_pure (a:=some dx) (wpAny_bind (wpAny_pure (wpAny_bind ?_)))
 refine wpAny_nsSet1 (s:={ s with toks:=s.toks + 1 }) I.ns fun h' hn2 hs2=>?_
 obtain ⟨oD,esD,epD,hoD,hdD,hcD⟩:=hn2.count (PySem.Within.cons name v hw)
 refine wpAny_bind (wpAny_lookBehind hoD (by rw [hdD]; exact pastItsLine_dict (Nat.le_trans hcD (by rw [List.length_cons]; omega))) ?_)
 exact wpAny_pure (h _ ⟨(hs2.2 _ (Ne.symm I.ne)).trans I.obj,hn2,I.ne⟩ hs2)
theorem make_map {R : Result→Shared→Prop} {vs : List Value} {kw : List (Str × Value)} (X : K.In s.heap) (hm : PySem.W.makesIn K C = true)
  (hi : PySem.W.findIn K (.ref C) "__init__" = some (some (.ref f))) (hf : PySem.W.typeIn K (.ref f) = some (.type "function"))
  (h : codeAny (model prog w) (A.under (.builtin "type.__call__" ⟨.ref C::vs,kw⟩)) (.call (.ref f) ⟨.ref (s.heap.objs.size + 1)::vs,kw⟩) (PySem.W.InitBack (s.heap.objs.size + 1) R)
   { s with heap:=(s.heap.push PySem.W.emptyDict).push (PySem.W.instObj C s.heap.objs.size) }) :
  codeAny (model prog w) A (.call (.ref C) ⟨vs,kw⟩) R s:=by
 obtain ⟨hh,g,d,t,os⟩:=s
 exact PySem.W.make_core (PySem.W.makes_of X hm) (PySem.W.looks_findIn X hi) (fun self=>PySem.W.bind_fn X self hf) (.inl rfl) h
end
def putF (f : Str) (v : V) : List (Str × V)→List (Str × V)
 | []=>[(f,v)]
 | (g,x)::r=>if g = f then (g,v)::r else (g,x)::putF f v r
theorem lookup_putF (f g : Str) (v : V) : ∀ fs : List (Str × V),(putF f v fs).lookup g = if g = f then some v else fs.lookup g
 | []=>by
  show List.lookup g [(f,v)] = _
  by_cases h : g = f
  ·have hb : (g == f) = true:=beq_iff_eq.mpr h
   simp only [List.lookup,hb,if_pos h]
  ·have hb : (g == f) = false:=beq_eq_false_iff_ne.mpr h
   simp only [List.lookup,hb,if_neg h]
 | (k,x)::r=>by
  have ih:=lookup_putF f g v r
  rw [show putF f v ((k,x)::r) = (if k = f then (k,v)::r else (k,x)::putF f v r) from rfl]
  by_cases hk : k = f
  ·rw [if_pos hk]
   by_cases h : g = k
   ·have hb : (g == k) = true:=beq_iff_eq.mpr h
    simp only [List.lookup,hb,if_pos (h.trans hk)]
   ·have hb : (g == k) = false:=beq_eq_false_iff_ne.mpr h
    simp only [List.lookup,hb,if_neg (fun e : g = f=>h (e.trans hk.symm))]
  ·rw [if_neg hk]
   by_cases h : g = k
   ·have hb : (g == k) = true:=beq_iff_eq.mpr h
    simp only [List.lookup,hb,if_neg (fun e : g = f=>hk (h.symm.trans e))]
   ·have hb : (g == k) = false:=beq_eq_false_iff_ne.mpr h
    simp only [List.lookup,hb]
    exact ih
theorem keys_putF (f : Str) (v : V) : ∀ fs : List (Str × V),f ∈ (putF f v fs).map (·.1)∧∀ g,g ∈ fs.map (·.1)→g ∈ (putF f v fs).map (·.1)
 | []=>⟨by simp [putF],fun g h=>by simp at h⟩
 | (k,x)::r=>by
  obtain ⟨i1,i2⟩:=keys_putF f v r
  rw [show putF f v ((k,x)::r) = (if k = f then (k,v)::r else (k,x)::putF f v r) from rfl]
  by_cases hk : k = f
  ·rw [if_pos hk]
   subst hk
   exact ⟨by simp,fun g h=>by simpa using h⟩
  ·rw [if_neg hk]
   refine ⟨?_,fun g h=>?_⟩
   ·rw [List.map_cons]
    exact List.mem_cons_of_mem _ i1
   ·rw [List.map_cons] at h ⊢
    rcases List.mem_cons.mp h with e | e
    ·exact List.mem_cons.mpr (.inl e)
    ·exact List.mem_cons_of_mem _ (i2 g e)
theorem length_putF (f : Str) (v : V) : ∀ fs : List (Str × V),(putF f v fs).length≤fs.length + 1
 | []=>by simp [putF]
 | (k,x)::r=>by
  have ih:=length_putF f v r
  rw [show putF f v ((k,x)::r) = (if k = f then (k,v)::r else (k,x)::putF f v r) from rfl]
  by_cases hk : k = f
  ·rw [if_pos hk,List.length_cons,List.length_cons]; omega
  ·rw [if_neg hk,List.length_cons,List.length_cons]; omega
theorem RelO.some_of {v : V} {o : Option Value} (r : RelO (some v) o) : ∃ u,o = some u∧RelV v u:=by
 cases o with
 | none=>exact (show False from r).elim
 | some u=>exact ⟨u,rfl,r⟩
theorem RelO.none_of {o : Option Value} (r : RelO none o) : o = none:=by
 cases o with
 | none=>rfl
 | some u=>exact (show False from r).elim
theorem handed_of {v : V} {u : Value} (r : RelV v u) : PySem.W.handedIn u = true:=by
 cases v with
 | non=>cases (show u = Value.none from r); rfl
 | bl b=>cases (show u = Value.bool b from r); rfl
 | int i=>obtain ⟨t,e⟩:=(show ∃ t,u = Value.int i t from r); cases e; rfl
 | str x=>obtain ⟨t,e⟩:=(show ∃ t,u = Value.str x t from r); cases e; rfl
 | byt b=>obtain ⟨t,e⟩:=(show ∃ t,u = Value.bytes b t from r); cases e; rfl
 | flt b=>obtain ⟨t,e⟩:=(show ∃ t,u = Value.float b t from r); cases e; rfl
 | ref a=>cases (show u = Value.ref a from r); rfl
 | ty n=>cases (show u = Value.type n from r); rfl
section
variable {P : Program} {w : World} {H H' : Hp} {h h' : Heap} {a C dx : Addr} {fs fs' : List (Str × V)}
theorem ins_get (hok : HOk P w H h) (e : H a = some (.ins C dx fs)) : ∃ mA,ObjM h a dx C mA∧(∀ f,RelO (fs.lookup f) (mA f))∧PySem.Within mA (fs.map (·.1))∧fs.length≤1000∧H dx = some (.own a):=by
 obtain ⟨d,z,ne,ob,mA,n,r,q⟩:=(show ObjOk P w H h a (.ins C dx fs) from hok a _ e)
 exact ⟨mA,⟨ob,n,ne⟩,r,q,z,d⟩
end
structure Cls (K : PySem.W.Frag) (C : Addr) : Prop where
 pg : PySem.W.plainGet K C Str.empty = true
 hd : PySem.W.hasDictIn K C = true
 po : PySem.W.plainOver K C = true
 sa : PySem.W.findIn K (.ref C) "__setattr__" = some (some (.builtin "object.__setattr__"))
theorem Cls.get {K : PySem.W.Frag} {C : Addr} (c : Cls K C) (f : Str) : PySem.W.plainGet K C f = true:=c.pg
def NoAttr (K : PySem.W.Frag) (C : Addr) (f : Str) : Prop:=PySem.W.findIn K (.ref C) f = some none
theorem NoAttr.taker {K : PySem.W.Frag} {C : Addr} {f : Str} (n : NoAttr K C f) : PySem.W.takerIn K C f = some none:=by
 unfold PySem.W.takerIn
 rw [show PySem.W.findIn K (.ref C) f = some none from n]
 rfl
structure Meth (K : PySem.W.Frag) (C : Addr) (m : Str) (f : Addr) : Prop where
 at_ : PySem.W.findIn K (.ref C) m = some (some (.ref f))
 fn : PySem.W.isFn K (.ref f) = true
 kp : PySem.W.keepIn K (.ref f) = true
section
variable {X : Cx} {pins : List (Addr × Obj)} {σ : St} {H : Hp} {s : Shared} {a C dx : Addr} {fs : List (Str × V)} {f : Str} {v : V} {A : Around} {E : Value→Shared→Prop}
theorem getattr_ok {b : Bool} {Q : Value→Shared→Prop} (I : Inv X pins σ H s) (e : H a = some (.ins C dx fs)) (c : Cls X.K C) (n : NoAttr X.K C f) (l : fs.lookup f = some v)
  (h : ∀ u s',Inv X pins σ H s'→RelV v u→Q u s') : wpAny (model X.prog X.w) A (getAttr (.ref a) f b) Q E s:=by
 obtain ⟨mA,O,r,_,_,_⟩:=ins_get I.hok e
 obtain ⟨u,hu,ru⟩:=RelO.some_of (v:=v) (o:=mA f) (by rw [← l]; exact r f)
 exact get_map I.kIn O (c.get f) c.hd n hu (handed_of ru) (h u _ (I.tok _) ru)
theorem getmeth_ok {m : Str} {g : Addr} {pl : Sem Bool} {Q : Value × List Value→Shared→Prop} (I : Inv X pins σ H s) (e : H a = some (.ins C dx fs)) (c : Cls X.K C) (k : Meth X.K C m g) (l : fs.lookup m = none)
  (h : Q (.ref g,[.ref a]) s) : wpAny (model X.prog X.w) A (getMethod (.ref a) m pl) Q E s:=by
 obtain ⟨mA,O,r,_,_,_⟩:=ins_get I.hok e
 have hn : mA m = none:=RelO.none_of (by rw [← l]; exact r m)
 exact get_meth I.kIn O (c.get m) k.at_ k.fn hn h
theorem setattr_ok {y : V} {u : Value} {Q : Unit→Shared→Prop} (I : Inv X pins σ H s) (e : H a = some (.ins C dx fs)) (c : Cls X.K C) (n : NoAttr X.K C f) (hl : fs.length < 1000) (ry : RelV y u)
  (h : ∀ s',Inv X pins σ (upd H a (.ins C dx (putF f y fs))) s'→Q () s') : wpAny (model X.prog X.w) A (setAttr (.ref a) f u) Q E s:=by
 obtain ⟨mA,O,r,wi,_,ho⟩:=ins_get I.hok e
 have hz : (fs.map (·.1)).length≤sizeLine:=by rw [List.length_map,sizeLine_eq]; omega
 refine set_map I.kIn O c.sa c.po n.taker c.hd wi hz fun h' O' sb=>h _ ?_
 have hd : ∃ o,h'.get? dx = some o:=let ⟨o,_,_,e',_⟩:=O'.ns; ⟨o,e'⟩
 refine I.write (x:=a) (e:=dx) (by rw [e]; exact True.intro) (.inr ho) (fun b q hb z=>(sb.2 b hb).trans z) hd ?_
 refine ⟨by rw [upd_ne O.ne]; exact ho,?_,O.ne,O'.obj,_,O'.ns,fun g=>?_,fun g hg=>?_⟩
 ·have:=length_putF f y fs; omega
 ·show RelO ((putF f y fs).lookup g) (if g = f then some u else mA g)
  rw [lookup_putF]
  by_cases q : g = f
  ·rw [if_pos q,if_pos q]; exact ry
  ·rw [if_neg q,if_neg q]; exact r g
 ·by_cases q : g = f
  ·rw [q]; exact (keys_putF f y fs).1
  ·refine (keys_putF f y fs).2 g (wi g fun z=>hg ?_)
   show (if g = f then some u else mA g) = none
   rw [if_neg q]; exact z
theorem Inv.made (I : Inv X pins σ H s) : Inv X pins σ (upd (upd H s.heap.objs.size (.own (s.heap.objs.size + 1))) (s.heap.objs.size + 1) (.ins C s.heap.objs.size []))
  { s with heap:=(s.heap.push PySem.W.emptyDict).push (PySem.W.instObj C s.heap.objs.size) }:=by
 have e1 : (s.heap.push PySem.W.emptyDict).get? s.heap.objs.size = some PySem.W.emptyDict:=Heap.get?_push_size s.heap rfl
 have e2 : ((s.heap.push PySem.W.emptyDict).push (PySem.W.instObj C s.heap.objs.size)).get? (s.heap.objs.size + 1) = some (PySem.W.instObj C s.heap.objs.size):=by
  have:=Heap.get?_push_size (s.heap.push PySem.W.emptyDict) (o:=PySem.W.instObj C s.heap.objs.size) rfl
  rwa [Heap.size_push] at this
 have e3 : (s.heap.push PySem.W.emptyDict).Ns s.heap.objs.size (fun _=>none):=⟨PySem.W.emptyDict,#[],_,e1,rfl,(fun e he=>absurd he (by simp)),fun _=>rfl⟩
 have I1:=I.laid (a:=s.heap.objs.size) (o:=.own (s.heap.objs.size + 1)) (h':=s.heap.push PySem.W.emptyDict) (t':=s.toks) (fun b u q=>Heap.get?_push_of_some _ q) (Nat.le_refl _) ⟨_,e1⟩
 refine I1.laid (a:=s.heap.objs.size + 1) (o:=.ins C s.heap.objs.size []) (t':=s.toks) (fun b u q=>Heap.get?_push_of_some _ q) (Nat.le_of_eq (Heap.size_push _ _)) ?_
 have ne : s.heap.objs.size ≠ s.heap.objs.size + 1:=Nat.ne_of_lt (Nat.lt_succ_self _)
 refine ⟨by rw [upd_ne ne,upd_same],Nat.zero_le _,ne,e2,fun _=>none,(Heap.Ns1.of_empty e3).at fun o q=>Heap.get?_push_of_some _ q,fun _=>True.intro,fun y hy=>absurd rfl hy⟩
theorem attr_of {prog : Program} {w : World} {env : Env} {e : Expr} {f : Str} {pos : Pos} {s : Shared} {Q : Value→Shared→Prop} (hb : attributeBase e f env (eval e env) = eval e env)
  (h : wpAny (model prog w) A (eval e env) (fun o s₁=>wpAny (model prog w) A (getAttr o f true) Q E s₁) E s) : wpAny (model prog w) A (eval (.Attribute e f pos) env) Q E s :=
 Attribute_any_ h (by rw [arm_eval_Attribute,hb])
end
def tFld (K : PySem.W.Frag) (ta : TE) (f : Str) : TE:=fun σ H Q=>ta σ H fun x H1=>∃ a C dx fs v,x = .ref a∧H1 a = some (.ins C dx fs)∧Cls K C∧NoAttr K C f∧fs.lookup f = some v∧Q v H1
def sFld (K : PySem.W.Frag) (ta tv : TE) (f : Str) : TS:=fun D σ H=>tv σ H fun y H1=>ta σ H1 fun x H2=>∃ a C dx fs,x = .ref a∧H2 a = some (.ins C dx fs)∧Cls K C∧NoAttr K C f∧fs.length < 1000 ∧
 D.nx σ (upd H2 a (.ins C dx (putF f y fs)))
def InOp (X : Cx) (op : Operator) (rd : V→V→Hp→VK→Prop) : Prop :=
 ∀ (pins : List (Addr × Obj)) (s : Shared) (σ : St) (H : Hp) (x y : V) (u v : Value) (Q : VK),Inv X pins σ H s→RelV x u→RelV y v→rd x y H Q→wpAny (model X.prog X.w) X.A (inplaceOp op u v) (EP X pins σ Q) X.xe s
def sFldAug (K : PySem.W.Frag) (ta tv : TE) (rd : V→V→Hp→VK→Prop) (f : Str) : TS:=fun D σ H=>ta σ H fun x H1=>∃ a C dx fs v,x = .ref a∧H1 a = some (.ins C dx fs)∧Cls K C∧NoAttr K C f∧fs.lookup f = some v ∧
 tv σ H1 fun y H2=>rd v y H2 fun z H3=>∃ dx' fs',H3 a = some (.ins C dx' fs')∧fs'.length < 1000∧D.nx σ (upd H3 a (.ins C dx' (putF f z fs')))
section
variable {X : Cx} {o e value : Expr} {f : Str} {pos pos' tpos : Pos} {ta tv : TE}
theorem pe_fld (he : PE X e ta) (hb : attributeBase e f X.env (eval e X.env) = eval e X.env) : PE X (.Attribute e f pos) (tFld X.K ta f):=by
 intro pins s σ H Q I h
 refine attr_of hb (thn (he pins s σ H _ I h) fun u s1 ⟨x,H1,I1,rx,a,C,dx,fs,v,ex,ea,c,n,l,q⟩=>?_)
 subst ex
 obtain rfl : u = Value.ref a:=rx
 exact getattr_ok I1 ea c n l fun u' s2 I2 ru=>⟨v,H1,I2,ru,q⟩
theorem ps_fld (ha : PE X o ta) (hv : PE X value tv) (hs : swapsWith value (some (.Attribute o f pos')) pos.line X.env = pure false) : PS X (.Assign [.Attribute o f pos'] value pos) (sFld X.K ta tv f):=by
 intro pins s σ H D I h
 refine plainObj_wpAny_Assign_Attribute (thn (hv pins s σ H _ I h) fun u s1 ⟨y,H1,I1,ry,q⟩=>thn (ha pins s1 σ H1 _ I1 q) fun ov s2 ⟨x,H2,I2,rx,a,C,dx,fs,ex,ea,c,n,l,q2⟩=>?_) hs
 subst ex
 obtain rfl : ov = Value.ref a:=rx
 exact setattr_ok I2 ea c n l ry fun s3 I3=>⟨σ,_,I3,q2⟩
theorem ps_fldaug {op : Operator} {rd : V→V→Hp→VK→Prop} (ha : PE X o ta) (hv : PE X value tv) (hop : InOp X op rd) : PS X (.AugAssign (.Attribute o f tpos) op value pos) (sFldAug X.K ta tv rd f):=by
 intro pins s σ H D I h
 refine wpAny_AugAssign_AttributeAny (thn (ha pins s σ H _ I h) fun ov s1 ⟨x,H1,I1,rx,a,C,dx,fs,v,ex,ea,c,n,l,q⟩=>?_)
 subst ex
 obtain rfl : ov = Value.ref a:=rx
 refine getattr_ok I1 ea c n l fun u s2 I2 ru=>thn (hv pins s2 σ H1 _ I2 q) fun w3 s3 ⟨y,H2,I3,ry,q3⟩=>thn (hop pins s3 σ H2 v y u w3 _ I3 ru ry q3) fun w4 s4 ⟨z,H3,I4,rz,dx',fs',ea',l',q4⟩=>?_
 exact setattr_ok I4 ea' c n l' rz fun s5 I5=>⟨σ,_,I5,q4⟩
def rAdd : V→V→Hp→VK→Prop:=fun x y H Q=>∃ i j,x = .int i∧y = .int j∧Q (.int (i + j)) H
theorem in_add : InOp X .Add rAdd:=by
 rintro pins s σ H x y u v Q I rx ry ⟨i,j,rfl,rfl,q⟩
 obtain ⟨t,rfl⟩:=(show ∃ t,u = Value.int i t from rx)
 obtain ⟨t',rfl⟩:=(show ∃ t',v = Value.int j t' from ry)
 exact PyProof.Rows.iadd_int ⟨.int (i + j),H,I.tok _,⟨_,rfl⟩,q⟩
end
end L2
namespace L2
open PySem PySem.Spec PyProof.Rows
structure Room (k : Nat) (A : Around) : Prop where
 hd : A.handled = none
 dp : A.depth + 3 * k + 5 < recursionLimit
 un : A.units + 16 * k + 200 < cLine
theorem Room.mono {j k : Nat} {A : Around} (r : Room k A) (h : j≤k) : Room j A:=⟨r.hd,by have:=r.dp; omega,by have:=r.un; omega⟩
theorem Room.deeper {k : Nat} {A : Around} (r : Room (k + 1) A) (env : Env) : Room k (A.deeper env) :=
 ⟨r.hd,by have:=r.dp; show A.depth + 1 + 3 * k + 5 < _; omega,by have:=r.un; show A.units + 3 + 16 * k + 200 < _; omega⟩
theorem make_depth {A : Around} {C : Addr} {us : List Value} {kw : List (Str × Value)} : (A.under (.builtin "type.__call__" ⟨.ref C::us,kw⟩)).depth = A.depth + 1:=by
 first | rfl | simp [Around.under,Code.weight,Code.isCreation,Code.isGuard,Code.isCaller,Code.frames,Code.isFrame,guardIds]
theorem make_units {A : Around} {C : Addr} {us : List Value} {kw : List (Str × Value)} : (A.under (.builtin "type.__call__" ⟨.ref C::us,kw⟩)).units = A.units + 1:=by
 first | rfl | simp [Around.under,Code.cUnits,Code.frames,Code.isFrame]
theorem Room.make {k : Nat} {A : Around} (r : Room (k + 1) A) (C : Addr) (us : List Value) (kw : List (Str × Value)) : Room k (A.under (.builtin "type.__call__" ⟨.ref C::us,kw⟩)) :=
 ⟨r.hd,by have:=r.dp; rw [make_depth]; omega,by have:=r.un; rw [make_units]; omega⟩
theorem Room.depth {k : Nat} {A : Around} (r : Room k A) : A.depth < recursionLimit:=by have:=r.dp; omega
theorem Room.units {k : Nat} {A : Around} (r : Room k A) : A.units + 64 < cLine:=by have:=r.un; omega
def tNil : TA:=fun _ H Q=>Q [] H
def tCons (ta : TE) (tr : TA) : TA:=fun σ H Q=>ta σ H fun x H1=>tr σ H1 fun xs H2=>Q (x::xs) H2
section
variable {X : Cx} {e : Expr} {es : List Expr} {te : TE} {t : TA} {pos : Pos}
theorem pa_nil : PA X [] tNil:=fun _ _ _ _ H Q I h=>Calls.spliced_nil ⟨[],H,I,.nil,h⟩
theorem pa_cons (ha : PE X e te) (hr : PA X es t) (hs : starEach (e::es) X.env = (false,eval e X.env)::starEach es X.env:=by rfl) : PA X (e::es) (tCons te t):=by
 intro pos pins s σ H Q I h
 rw [hs]
 show wpAny _ _ (spliced ((false,eval e X.env)::backTo pos (starEach es X.env))) _ _ s
 refine Calls.spliced_cons (thn (ha pins s σ H _ I h) fun u s1 ⟨x,H1,I1,r1,q1⟩=>?_)
 exact thn (hr pos pins s1 σ H1 _ I1 q1) fun us s2 ⟨xs,H2,I2,r2,q2⟩=>⟨x::xs,H2,I2,.cons r1 r2,q2⟩
def tTup (t : TA) : TE:=fun σ H Q=>t σ H fun xs H1=>xs.length≤sizeLine∧∀ p,H1 p = none→Q (.ref p) (upd H1 p (.tup xs))
def tLst (t : TA) : TE:=fun σ H Q=>t σ H fun xs H1=>xs.length≤sizeLine∧∀ p,H1 p = none→Q (.ref p) (upd H1 p (.lst xs))
theorem pe_tup {x1} (h : PA X es t) : PE X (.Tuple es x1 pos) (tTup t):=by
 intro pins s σ H Q I hq
 refine wpAny_Tuple_spliced (thn (h pos pins s σ H _ I hq) fun us s1 ⟨xs,H1,I1,r,z,q⟩=>⟨by rw [← r.length]; exact z,?_⟩)
 have hf : H1 s1.heap.objs.size = none:=I1.hok.fresh (Nat.le_refl _)
 refine ⟨.ref s1.heap.objs.size,upd H1 s1.heap.objs.size (.tup xs),I1.laid (t':=s1.toks) (fun b u e=>Heap.get?_push_of_some _ e) (Nat.le_refl _) ?_,rfl,q _ hf⟩
 exact ⟨z,us,r,⟨_,Heap.get?_push_size _ rfl,rfl,_,rfl⟩⟩
theorem pe_lst (h : PA X es t) : PE X (.List es pos) (tLst t):=by
 intro pins s σ H Q I hq
 refine wpAny_List_spliced (thn (h pos pins s σ H _ I hq) fun us s1 ⟨xs,H1,I1,r,z,q⟩=>⟨by rw [← r.length]; exact z,?_⟩)
 have hf : H1 s1.heap.objs.size = none:=I1.hok.fresh (Nat.le_refl _)
 refine ⟨.ref s1.heap.objs.size,upd H1 s1.heap.objs.size (.lst xs),I1.laid (t':=s1.toks) (fun b u e=>Heap.get?_push_of_some _ e) (Nat.le_refl _) ?_,rfl,q _ hf⟩
 exact ⟨z,us,0,r,Heap.get?_push_size _ rfl⟩
end
abbrev Sp:=List V→Hp→VK→XK→Prop
abbrev CXT:=List Env→Hp→Shared→XK→Value→Shared→Prop
structure Env0 (P : Program) (w : World) (K : PySem.W.Frag) (mg : Str→Option Value) (base : Heap) (A : Around) (outer : List Env) (s : Shared) (H : Hp) : Prop where
 frames : A.frames = some outer
 mod : Mod K mg base
 bs : ∀ b o,base.get? b = some o→s.heap.get? b = some o∧H b = none
 bsz : base.objs.size≤s.heap.objs.size
 funs : s.heap.FunFrames base outer
 frf : ∀ b ∈ frs outer,H b = none
 hok : HOk P w H s.heap
 bare : AllBare s.gens
def CE (outer : List Env) (P : Program) (w : World) (H : Hp) (s : Shared) (Q : VK) (u : Value) (s' : Shared) : Prop :=
 ∃ v H',s'.os = s.os∧AllBare s'.gens∧Un (frs outer) [] H H' s.heap s'.heap∧HOk P w H' s'.heap∧RelV v u∧Q v H'
def CR (CX : CXT) (outer : List Env) (P : Program) (w : World) (H : Hp) (s : Shared) (Q : VK) (E : XK) (r : Result) (s' : Shared) : Prop :=
 match r with
 | .ok (.ret u)=>CE outer P w H s Q u s'
 | .ok _=>False
 | .error e=>CX outer H s E e s'
structure FnOk (P : Program) (w : World) (K : PySem.W.Frag) (mg : Str→Option Value) (base : Heap) (CX : CXT) (k : Nat) (f : Addr) (fd : FuncData) (ps : List Str) (sp : Sp) : Prop where
 len : ∀ vs H Q E,sp vs H Q E→vs.length = ps.length
 run : ∀ (A : Around) (outer : List Env) (s : Shared) (H : Hp) (args : Args) (us : List Value) (vs : List V) (Q : VK) (E : XK),Room k A→Env0 P w K mg base A outer s H→BindsTo s fd args (ps.zip us)→Vals vs us→sp vs H Q E →
  codeAny (model P w) A (.call (.ref f) args) (CR CX outer P w H s Q E) s
theorem FnOk.mono {P : Program} {w : World} {K : PySem.W.Frag} {mg : Str→Option Value} {base : Heap} {CX : CXT} {j k : Nat} {f : Addr} {fd : FuncData} {ps : List Str} {sp : Sp} (F : FnOk P w K mg base CX j f fd ps sp) (h : j≤k) :
  FnOk P w K mg base CX k f fd ps sp:=⟨F.len,fun A outer s H args us vs Q E hr=>F.run A outer s H args us vs Q E (hr.mono h)⟩
theorem Env0.make {P : Program} {w : World} {K : PySem.W.Frag} {mg : Str→Option Value} {base : Heap} {A : Around} {outer : List Env} {s : Shared} {H : Hp} (e : Env0 P w K mg base A outer s H) (C : Addr) (us : List Value) (kw : List (Str × Value)) :
  Env0 P w K mg base (A.under (.builtin "type.__call__" ⟨.ref C::us,kw⟩)) outer s H:=⟨by first | exact e.frames | (simpa [Around.under,Code.envs,Code.isFrame,pushEnvs] using e.frames),e.mod,e.bs,e.bsz,e.funs,e.frf,e.hok,e.bare⟩
section
variable {X : Cx} {pins : List (Addr × Obj)} {σ : St} {H : Hp} {s s' : Shared}
theorem Inv.env0 (I : Inv X pins σ H s) : Env0 X.prog X.w X.K X.mg X.base X.A X.stack s H :=
 ⟨I.ok.frames,I.ok.mod,I.bs,Nat.le_trans I.ok.bsz I.sz,I.stack,I.stkFree,I.hok,I.bare⟩
theorem Inv.after {Q : VK} {u : Value} (I : Inv X pins σ H s) (h : CE X.stack X.prog X.w H s Q u s') : EP X pins σ Q u s':=by
 obtain ⟨v,H',os,bare,un,hok,r,q⟩:=h
 obtain ⟨hh,g,d,t,os'⟩:=s'
 obtain rfl : os' = s.os:=os
 exact ⟨v,H',I.call (h':=hh) (g':=g) (d':=d) (t':=t) (ch:=[]) un hok bare (fun b z=>absurd z (by simp)),r,q⟩
end
def tCall (sp : Sp) (dvs : List V) (E : XK) (t : TA) : TE:=fun σ H Q=>t σ H fun vs H1=>sp (vs++dvs) H1 Q E
def tMeth (C : Addr) (m : Str) (sp : Sp) (dvs : List V) (E : XK) (ta : TE) (t : TA) : TE:=fun σ H Q=>ta σ H fun x H1=>∃ a dx fs,x = .ref a∧H1 a = some (.ins C dx fs)∧fs.lookup m = none ∧
 t σ H1 fun vs H2=>sp (x::(vs++dvs)) H2 Q E
def tMake (C : Addr) (sp : Sp) (dvs : List V) (E : XK) (t : TA) : TE:=fun σ H Q=>t σ H fun vs H1=>∀ x dx,H1 x = none→H1 dx = none→dx ≠ x →
 sp (.ref x::(vs++dvs)) (upd (upd H1 dx (.own x)) x (.ins C dx [])) (fun v H2=>v = .non∧Q (.ref x) H2) E
def Binds (K : PySem.W.Frag) (fd : FuncData) (ps : List Str) (ds : List Value) : Prop :=
 ∀ (s : Shared) (us : List Value),K.In s.heap→(us++ds).length = ps.length→BindsTo s fd ⟨us,[]⟩ (ps.zip (us++ds))
theorem Binds.all {K : PySem.W.Frag} {fd : FuncData} {ps : List Str} (h : ∀ us : List Value,us.length = ps.length→bindArgs fd ⟨us,[]⟩ = pure (ps.zip us)) : Binds K fd ps []:=fun s us _ hl=>by
 rw [List.append_nil] at hl ⊢
 exact .of_eq (h us hl)
def Passes (CX : CXT) (X : Cx) (E : XK) : Prop:=∀ (pins : List (Addr × Obj)) (σ : St) (H : Hp) (s : Shared) (e : Value) (s' : Shared),Inv X pins σ H s→CX X.stack H s E e s'→X.xe e s'
section
variable {X : Cx} {CX : CXT} {k : Nat} {f C : Addr} {fd : FuncData} {ps : List Str} {sp : Sp} {dvs : List V} {ds : List Value} {E : XK} {x m : Str} {p pos apos : Pos} {e o : Expr} {es : List Expr} {ta : TE} {t : TA}
theorem run_fn {pins : List (Addr × Obj)} {σ : St} {H : Hp} {s : Shared} {Q : VK} {us : List Value} {vs : List V} (F : FnOk X.prog X.w X.K X.mg X.base CX k f fd ps sp) (hr : Room k X.A) (hb : Binds X.K fd ps ds) (hd : Vals dvs ds) (hx : Passes CX X E)
  (I : Inv X pins σ H s) (r : Vals vs us) (h : sp (vs++dvs) H Q E) : wpAny (model X.prog X.w) X.A (call (.ref f) us) (EP X pins σ Q) X.xe s:=by
 have r2 : Vals (vs++dvs) (us++ds):=r.append hd
 have hl : (us++ds).length = ps.length:=by rw [← r2.length]; exact F.len _ _ _ _ h
 refine wpAny_call (codeAny_mono (F.run X.A X.stack s H ⟨us,[]⟩ (us++ds) (vs++dvs) Q E hr I.env0 (hb s us I.kIn hl) r2 h) fun r s' hq=>?_)
 cases r with
 | error e=>exact hx pins σ H s e s' I hq
 | ok fl =>
  cases fl with
  | ret u=>exact I.after hq
  | next=>exact False.elim hq
  | brk=>exact False.elim hq
  | cont=>exact False.elim hq
theorem pe_call (F : FnOk X.prog X.w X.K X.mg X.base CX k f fd ps sp) (hr : Room k X.A) (hg : Gl X x) (hm : X.mg x = some (.ref f)) (hk : PySem.W.keepIn X.K (.ref f) = true) (hb : Binds X.K fd ps ds) (hd : Vals dvs ds) (hx : Passes CX X E)
  (ha : PA X (e::es) t) (hdb : (x == ("__debug__" : Str)) = false:=by decide) (he : starEach (e::es) X.env = (false,eval e X.env)::starEach es X.env:=by rfl) (hpl : (backTo pos (starEach es X.env)).any (·.1) = false:=by rfl) :
  PE X (.Call (.Name x p) (e::es) [] pos) (tCall sp dvs E t):=by
 intro pins s σ H Q I h
 refine wpAny_Call_Name_kw (ld_glob I hg hm ?_ hdb)
 refine PySem.W.callWith_K (h₀:=X.base) I.ok.mod.kin hk (thn (ha pos pins s σ H _ I h) fun us s1 ⟨vs,H1,I1,r,q⟩=>⟨I1.kIn,?_⟩) he hpl
 exact run_fn F hr hb hd hx I1 r q
theorem pe_meth {pl : Sem Bool} (he : PE X o ta) (c : Cls X.K C) (hm : Meth X.K C m f) (F : FnOk X.prog X.w X.K X.mg X.base CX k f fd ps sp) (hr : Room k X.A) (hb : Binds X.K fd ps ds) (hd : Vals dvs ds) (hx : Passes CX X E) (ha : PA X (e::es) t)
  (hst : starEach (e::es) X.env = (false,eval e X.env)::starEach es X.env:=by rfl) (hpl : (backTo pos (starEach es X.env)).any (·.1) = false:=by rfl)
  (ht : eval (.Call (.Attribute o m apos) (e::es) [] pos) X.env = (do
   let ov ← eval o X.env
   standAt apos.atName
   let (f,first) ← holding [ov] (getMethod ov m pl)
   callWith pos f first (backTo pos (starEach (e::es) X.env)) (backToKw pos (keywordEach [] X.env))):=by rfl) :
  PE X (.Call (.Attribute o m apos) (e::es) [] pos) (tMeth C m sp dvs E ta t):=by
 intro pins s σ H Q I h
 refine PySem.W.methodCall_KW (pl:=pl) (thn (he pins s σ H _ I h) fun u s1 ⟨x,H1,I1,rx,a,dx,fs,ex,ea,l,q⟩=>?_) ht
 subst ex
 obtain rfl : u = Value.ref a:=rx
 refine getmeth_ok I1 ea c hm l ?_
 refine PySem.W.callWith_K (first:=[.ref a]) (h₀:=X.base) I.ok.mod.kin hm.kp (thn (ha pos pins s1 σ H1 _ I1 q) fun us s2 ⟨vs,H2,I2,r,q2⟩=>⟨I2.kIn,?_⟩) hst hpl
 exact run_fn (us:=.ref a::us) (vs:=.ref a::vs) F hr hb hd hx I2 (.cons rfl r) q2
theorem pe_meth0 {pl : Sem Bool} (he : PE X o ta) (c : Cls X.K C) (hm : Meth X.K C m f) (F : FnOk X.prog X.w X.K X.mg X.base CX k f fd ps sp) (hr : Room k X.A) (hb : Binds X.K fd ps ds) (hd : Vals dvs ds) (hx : Passes CX X E)
  (ht : eval (.Call (.Attribute o m apos) [] [] pos) X.env = (do
   let ov ← eval o X.env
   standAt apos.atName
   let (f,first) ← holding [ov] (getMethod ov m pl)
   callWith pos f first (backTo pos (starEach [] X.env)) (backToKw pos (keywordEach [] X.env))):=by rfl) :
  PE X (.Call (.Attribute o m apos) [] [] pos) (tMeth C m sp dvs E ta tNil):=by
 intro pins s σ H Q I h
 refine PySem.W.methodCall_KW (pl:=pl) (thn (he pins s σ H _ I h) fun u s1 ⟨x,H1,I1,rx,a,dx,fs,ex,ea,l,q⟩=>?_) ht
 subst ex
 obtain rfl : u = Value.ref a:=rx
 refine getmeth_ok I1 ea c hm l ?_
 exact PySem.W.callWith_K0 (first:=[.ref a]) I1.kIn hm.kp (run_fn (us:=[.ref a]) (vs:=[.ref a]) F hr hb hd hx I1 (.cons rfl .nil) q)
structure Mk (K : PySem.W.Frag) (C f : Addr) : Prop where
 makes : PySem.W.makesIn K C = true
 init : PySem.W.findIn K (.ref C) "__init__" = some (some (.ref f))
 fn : PySem.W.isFn K (.ref f) = true
 kp : PySem.W.keepIn K (.ref C) = true
theorem run_make {pins : List (Addr × Obj)} {σ : St} {H : Hp} {s : Shared} {Q : VK} {us : List Value} {vs : List V} (M : Mk X.K C f) (F : FnOk X.prog X.w X.K X.mg X.base CX k f fd ps sp) (hr : Room (k + 1) X.A) (hb : Binds X.K fd ps ds) (hd : Vals dvs ds)
  (hx : Passes CX X E) (I : Inv X pins σ H s) (r : Vals vs us)
  (h : ∀ x dx,H x = none→H dx = none→dx ≠ x→sp (.ref x::(vs++dvs)) (upd (upd H dx (.own x)) x (.ins C dx [])) (fun v H2=>v = .non∧Q (.ref x) H2) E) :
  wpAny (model X.prog X.w) X.A (call (.ref C) us) (EP X pins σ Q) X.xe s:=by
 have hq:=h (s.heap.objs.size + 1) s.heap.objs.size (I.hok.fresh (Nat.le_succ _)) (I.hok.fresh (Nat.le_refl _)) (Nat.ne_of_lt (Nat.lt_succ_self _))
 have I2:=Inv.made (C:=C) I
 have r2 : Vals (V.ref (s.heap.objs.size + 1)::(vs++dvs)) (Value.ref (s.heap.objs.size + 1)::(us++ds)):=.cons rfl (r.append hd)
 have hl : (Value.ref (s.heap.objs.size + 1)::us++ds).length = ps.length:=by
  have e:=r2.length
  rw [F.len _ _ _ _ hq] at e
  exact e.symm
 refine wpAny_call (make_map (f:=f) I.kIn M.makes M.init (beq_iff_eq.mp M.fn) (codeAny_mono (F.run _ X.stack _ _ ⟨Value.ref (s.heap.objs.size + 1)::us,[]⟩ (Value.ref (s.heap.objs.size + 1)::(us++ds)) _ _ E (hr.make C us [])
  (I2.env0.make C us []) (hb _ (Value.ref (s.heap.objs.size + 1)::us) I2.kIn hl) r2 hq) fun r s' hq'=>?_))
 cases r with
 | error e=>exact hx pins σ _ _ e s' I2 hq'
 | ok fl =>
  cases fl with
  | ret u =>
   obtain ⟨v,H',I3,rv,ev,q3⟩:=I2.after hq'
   subst ev
   exact ⟨rv,⟨V.ref (s.heap.objs.size + 1),H',I3,rfl,q3⟩⟩
  | next=>exact False.elim hq'
  | brk=>exact False.elim hq'
  | cont=>exact False.elim hq'
theorem pe_make (M : Mk X.K C f) (F : FnOk X.prog X.w X.K X.mg X.base CX k f fd ps sp) (hr : Room (k + 1) X.A) (hg : Gl X x) (hm : X.mg x = some (.ref C)) (hb : Binds X.K fd ps ds) (hd : Vals dvs ds) (hx : Passes CX X E)
  (ha : PA X (e::es) t) (hdb : (x == ("__debug__" : Str)) = false:=by decide) (he : starEach (e::es) X.env = (false,eval e X.env)::starEach es X.env:=by rfl) (hpl : (backTo pos (starEach es X.env)).any (·.1) = false:=by rfl) :
  PE X (.Call (.Name x p) (e::es) [] pos) (tMake C sp dvs E t):=by
 intro pins s σ H Q I h
 refine wpAny_Call_Name_kw (ld_glob I hg hm ?_ hdb)
 refine PySem.W.callWith_K (h₀:=X.base) I.ok.mod.kin M.kp (thn (ha pos pins s σ H _ I h) fun us s1 ⟨vs,H1,I1,r,q⟩=>⟨I1.kIn,?_⟩) he hpl
 exact run_make M F hr hb hd hx I1 r q
end
structure FnScope (N P : List Str) (sc : Scope) : Prop where
 kind : sc.kind = .function
 co : sc.isCoroutine = false
 gen : sc.isGenerator = false
 nd : N.Nodup
 pre : N.take P.length = P
 par : ∀ x ∈ P,sc.names.lookup x = some .local∨sc.names.lookup x = some .cell
 nofree : ∀ y ∈ sc.names,y.2 ≠ .free
theorem bindL_out {kindOf : Str→Option NameKind} {x : Str} : ∀ {binds : List (Str × Value)} {m : Str→Option Value},(∀ v,(x,v) ∉ binds)→bindL kindOf binds m x = m x
 | [],_,_=>rfl
 | (n,v)::r,m,h=>by
  unfold bindL
  rw [bindL_out fun w hw=>h w (List.mem_cons_of_mem _ hw)]
  split
  ·have : x ≠ n:=by rintro rfl; exact h v List.mem_cons_self
   simp [this]
  ·rfl
theorem bindC_out {kindOf : Str→Option NameKind} {x : Str} : ∀ {binds : List (Str × Value)} {m : Str→Option Value},(∀ v,(x,v) ∉ binds)→bindC kindOf binds m x = m x
 | [],_,_=>rfl
 | (n,v)::r,m,h=>by
  unfold bindC
  rw [bindC_out fun w hw=>h w (List.mem_cons_of_mem _ hw)]
  split
  ·rfl
  ·have : x ≠ n:=by rintro rfl; exact h v List.mem_cons_self
   simp [this]
theorem bindL_get {kindOf : Str→Option NameKind} {x : Str} {v : Value} : ∀ {P : List Str} {vs : List Value} {i : Nat} {m : Str→Option Value},P.Nodup→P[i]? = some x→vs[i]? = some v→kindOf x = some .local →
  bindL kindOf (P.zip vs) m x = some v
 | [],_,_,_,_,h,_,_=>by simp at h
 | _::_,[],_,_,_,_,h,_=>by simp at h
 | p::P,w::vs,0,m,nd,h1,h2,hk=>by
  simp at h1 h2; subst h1; subst h2
  show bindL kindOf ((p,w)::P.zip vs) m p = _
  unfold bindL
  rw [bindL_out fun v hv=>(List.nodup_cons.mp nd).1 (List.of_mem_zip hv).1,if_pos hk]
  simp
 | p::P,w::vs,i + 1,m,nd,h1,h2,hk=>by
  show bindL kindOf ((p,w)::P.zip vs) m x = _
  unfold bindL
  exact bindL_get (i:=i) (List.nodup_cons.mp nd).2 (by simpa using h1) (by simpa using h2) hk
theorem bindC_get {kindOf : Str→Option NameKind} {x : Str} {v : Value} : ∀ {P : List Str} {vs : List Value} {i : Nat} {m : Str→Option Value},P.Nodup→P[i]? = some x→vs[i]? = some v→kindOf x ≠ some .local →
  bindC kindOf (P.zip vs) m x = some v
 | [],_,_,_,_,h,_,_=>by simp at h
 | _::_,[],_,_,_,_,h,_=>by simp at h
 | p::P,w::vs,0,m,nd,h1,h2,hk=>by
  simp at h1 h2; subst h1; subst h2
  show bindC kindOf ((p,w)::P.zip vs) m p = _
  unfold bindC
  rw [bindC_out fun v hv=>(List.nodup_cons.mp nd).1 (List.of_mem_zip hv).1,if_neg hk]
  simp
 | p::P,w::vs,i + 1,m,nd,h1,h2,hk=>by
  show bindC kindOf ((p,w)::P.zip vs) m x = _
  unfold bindC
  exact bindC_get (i:=i) (List.nodup_cons.mp nd).2 (by simpa using h1) (by simpa using h2) hk
def start (N : List Str) (vs : List V) : St:=vs.map some++List.replicate (N.length - vs.length) none
def cxOf (CX : CXT) (P : Program) (w : World) (K : PySem.W.Frag) (mg : Str→Option Value) (base : Heap) (N : List Str) (qual : Str) (scope : Scope) (f : Addr) (cd : Value) (A : Around) (outer : List Env) (s : Shared) (H : Hp) (E : XK) : Cx where
 prog:=P
 w:=w
 K:=K
 mg:=mg
 base:=base
 A:=A.deeper (envOfC qual scope s.heap.objs.size f cd)
 N:=N
 s_0:=s
 H_0:=H
 env:=envOfC qual scope s.heap.objs.size f cd
 outer:=outer
 stack:=envOfC qual scope s.heap.objs.size f cd::outer
 ex:=[]
 calm:=true
 fn:=fun _=>true
 pn:=[]
 xe:=fun e s'=>wpAny (model P w) (A.deeper (envOfC qual scope s.heap.objs.size f cd)) (leaving (envOfC qual scope s.heap.objs.size f cd) e) (fun _ s''=>CX outer H s E e s'') (fun e' s''=>CX outer H s E e' s'') s'
theorem cell_has {sc : Scope} {n : Nat} {x : Str} (h : sc.names.lookup x = some .cell) : ∃ c,(cellsFrom n sc.names []).lookup x = some c:=by
 have q:=PySem.W.cellsFrom_some sc.names n [] (.inl h)
 exact Option.isSome_iff_exists.mp q
theorem inv_start {CX : CXT} {P : Program} {w : World} {K : PySem.W.Frag} {mg : Str→Option Value} {base : Heap} {N ps : List Str} {qual : Str} {scope : Scope} {f : Addr} {cd : Value} {A : Around} {outer : List Env} {s s1 : Shared} {H : Hp} {E : XK} {us : List Value} {vs : List V}
  (S : FnScope N ps scope) (hd : A.handled = none) (e0 : Env0 P w K mg base A outer s H) (hl : vs.length = ps.length) (r : Vals vs us)
  (x : InCallC s s.heap.objs.size (bindL (envOfC qual scope s.heap.objs.size f cd).kindOf (ps.zip us) fun _=>none) (cellsFrom (s.heap.objs.size + 1) scope.names []) (bindC (envOfC qual scope s.heap.objs.size f cd).kindOf (ps.zip us) fun _=>none) s1) :
  Inv (cxOf CX P w K mg base N qual scope f cd A outer s H E) [] (start N vs) H s1:=by
 have hpl : ps.length≤N.length:=by have:=congrArg List.length S.pre; rw [List.length_take] at this; omega
 obtain ⟨h1,tk,rfl,hk⟩:=x.done
 have noA : ∀ b : Addr,b ∉ (cxOf CX P w K mg base N qual scope f cd A outer s H E).ex:=fun b z=>absurd (show b ∈ ([] : List Addr) from z) (by simp)
 refine ⟨⟨e0.mod,S.kind,rfl,rfl,Nat.le_refl _,fun y z c h1 h2=>?_,fun y hy=>?_,fun y c _ h=>?_,fun _=>hd,Around.frames_deeper e0.frames,.inr ⟨rfl,rfl⟩,fun b z=>absurd z (noA b),e0.bs,e0.bsz,fun b _ _=>noA b,fun b z=>absurd z (noA b),e0.funs,e0.frf⟩,
  rfl,e0.bare,Un.kept hk,⟨_,x.toInCall.ns,fun i y v h1 h2 h3=>?_⟩,fun y c h=>⟨_,x.cell y c h⟩,e0.hok.fresh (Nat.le_refl _),fun y c h=>?_,fun p hp=>absurd (show p ∈ ([] : List (Addr × Obj)) from hp) (by simp),e0.hok.kept hk,?_⟩
 ·exact name_of_addr x.apart (PySem.mem_of_lookup h1) (PySem.mem_of_lookup h2)
 ·have hy : scope.names.lookup y = some .cell∨scope.names.lookup y = some .free:=hy
  rcases hy with hy | hy
  ·exact cell_has hy
  ·exact absurd rfl (S.nofree _ (PySem.mem_of_lookup hy))
 ·exact Nat.le_of_lt (x.above y c (PySem.mem_of_lookup h))
 ·have hi : i < vs.length:=by
   unfold start at h2
   by_cases hi : i < vs.length
   ·exact hi
   ·rw [List.getElem?_append_right (by simpa using hi)] at h2
    rw [List.getElem?_replicate] at h2
    split at h2 <;> cases h2
  have ha : vs[i]? = some v:=by
   unfold start at h2
   rw [List.getElem?_append_left (by simpa using hi),List.getElem?_map] at h2
   cases e : vs[i]? with
   | none=>rw [e] at h2; cases h2
   | some a=>rw [e] at h2; cases h2; rfl
  obtain ⟨u,hu,rv⟩:=r.get ha
  have hp : ps[i]? = some y:=by
   rw [← S.pre,List.getElem?_take_of_lt (by omega)]; exact h1
  have ndP : ps.Nodup:=by rw [← S.pre]; exact S.nd.sublist (List.take_sublist _ _)
  refine ⟨u,rv,?_⟩
  rcases S.par y (List.mem_of_getElem? hp) with k | k
  ·exact .inl ⟨k,bindL_get ndP hp hu k⟩
  ·obtain ⟨c,e⟩:=cell_has (n:=s.heap.objs.size + 1) k
   refine .inr ⟨.inl k,c,e,?_⟩
   have q:=x.cell y c e
   rw [bindC_get ndP hp hu (by show scope.names.lookup y ≠ _; rw [k]; decide)] at q
   exact q
 ·exact e0.hok.fresh (Nat.le_of_lt (x.above y c (PySem.mem_of_lookup h)))
 ·unfold start
  show _ = N.length
  rw [List.length_append,List.length_map,List.length_replicate]
  omega
theorem fn_of {CX : CXT} {P : Program} {w : World} {K : PySem.W.Frag} {mg : Str→Option Value} {base : Heap} {k : Nat} {f : Addr} {name qual : Str} {params : Arguments} {body : List Stmt} {scope : Scope} {dV kV doc pm cdv ct oc : Value} {an od : Option Addr}
  {osl : Array (Option Value)} {N ps : List Str} {sp : Sp} (lk : K.lookup f = some ⟨oc,od,.func (PySem.W.fnOf name qual params body scope dV kV doc pm an cdv ct),osl⟩) (hcd : PySem.W.codeIn K cdv qual = true) (S : FnScope N ps scope)
  (len : ∀ vs H Q E,sp vs H Q E→vs.length = ps.length)
  (hbody : ∀ (A : Around) (outer : List Env) (s : Shared) (H : Hp) (vs : List V) (Q : VK) (E : XK),Room k (A.deeper (envOfC qual scope s.heap.objs.size f cdv))→sp vs H Q E →
   ∃ t,PSs (cxOf CX P w K mg base N qual scope f cdv A outer s H E) body t∧t { nx:=fun _ H'=>Q .non H',rt:=Q } (start N vs) H) :
  FnOk P w K mg base CX (k + 1) f (PySem.W.fnOf name qual params body scope dV kV doc pm an cdv ct) ps sp:=by
 refine ⟨len,fun A outer s H args us vs Q E hr e0 hb r hsp=>?_⟩
 have hl:=len _ _ _ _ hsp
 have KX : K.In s.heap:=e0.mod.kin.keeps fun b o e=>(e0.bs b o e).1
 have lim : s.heap.NoLimit:=e0.mod.nolimit.keeps fun b o e=>(e0.bs b o e).1
 have hkind : ∀ y ∈ ps.zip us,scope.names.lookup y.1 = some .local∨(scope.names.lookup y.1 = some .cell∧((cellsFrom (s.heap.objs.size + 1) scope.names []).lookup y.1).isSome = true):=fun ⟨n,v⟩ hy=>by
  rcases S.par n (List.of_mem_zip hy).1 with q | q
  ·exact .inl q
  ·exact .inr ⟨q,PySem.W.cellsFrom_some _ _ _ (.inl q)⟩
 refine codeAny_call_function hr.depth (KX _ _ lk) rfl S.co S.gen rfl (PySem.W.codeRec_of KX hcd) (hb _ _ _ _ ?_)
 refine wpAny_newFunctionEnv_cells S.kind hkind fun env he s1 x=>?_
 subst he
 refine ⟨lim.keeps x.toInCall.keep,codeAny_func ?_⟩
 obtain ⟨t,ht,hq⟩:=hbody A outer s H vs Q E (hr.deeper _) hsp
 have I : Inv (cxOf CX P w K mg base N qual scope f cdv A outer s H E) [] (start N vs) H s1:=inv_start S hr.hd e0 hl r x
 refine wpAny_mono (ht [] s1 (start N vs) H _ I hq) (fun fl s' hs=>?_) fun e s' hs=>hs
 have fin : ∀ {σ' : St} {H' : Hp} {v : V} {u : Value},Inv (cxOf CX P w K mg base N qual scope f cdv A outer s H E) [] σ' H' s'→RelV v u→Q v H'→CE outer P w H s Q u s' :=
  fun {σ' H' v u} J rv q=>⟨v,H',J.os,J.bare,J.base,J.hok,rv,q⟩
 cases fl with
 | ret u =>
  obtain ⟨v,σ',H',J,rv,q⟩:=hs
  exact fin J rv q
 | next =>
  obtain ⟨σ',H',J,q⟩:=hs
  exact fin (v:=V.non) (u:=Value.none) J rfl q
 | brk =>
  obtain ⟨_,_,_,q⟩:=hs
  exact False.elim q
 | cont =>
  obtain ⟨_,_,_,q⟩:=hs
  exact False.elim q
end L2
namespace L2
open PySem PySem.Spec PyProof.Rows
section
variable {X : Cx} {x : Str} {p pos : Pos} {e : Expr} {es : List Expr} {t : TA} {id T : String} {r : List V→Hp→VK→Prop}
def tCB (r : List V→Hp→VK→Prop) (t : TA) : TE:=fun σ H Q=>t σ H fun vs H1=>r vs H1 Q
theorem pe_callB (hc : CallR X (.builtin id) r) (hg : Gl X x) (hm : X.mg x = none) (hv : bootBuiltins x = some (.builtin id)) (ha : PA X (e::es) t) (hn : x ≠ "__name__":=by decide) (hdb : (x == ("__debug__" : Str)) = false:=by decide)
  (he : starEach (e::es) X.env = (false,eval e X.env)::starEach es X.env:=by rfl) (hpl : (backTo pos (starEach es X.env)).any (·.1) = false:=by rfl) : PE X (.Call (.Name x p) (e::es) [] pos) (tCB r t):=by
 intro pins s σ H Q I h
 refine wpAny_Call_Name_kw (ld_blt I hg hm hv ?_ hn hdb)
 exact PyProof.Rows.callWith_builtin1 (thn (ha pos pins s σ H _ I h) fun us s1 ⟨vs,H1,I1,r1,q1⟩=>hc pins s1 σ H1 vs us Q I1 r1 q1) he hpl
theorem pe_callTy (hc : CallR X (.type T) r) (hg : Gl X x) (hm : X.mg x = none) (hv : bootBuiltins x = some (.type T)) (ha : PA X (e::es) t) (hn : x ≠ "__name__":=by decide) (hdb : (x == ("__debug__" : Str)) = false:=by decide)
  (he : starEach (e::es) X.env = (false,eval e X.env)::starEach es X.env:=by rfl) (hpl : (backTo pos (starEach es X.env)).any (·.1) = false:=by rfl) : PE X (.Call (.Name x p) (e::es) [] pos) (tCB r t):=by
 intro pins s σ H Q I h
 refine wpAny_Call_Name_kw (ld_blt I hg hm hv ?_ hn hdb)
 exact PyProof.Rows.callWith_type1 (thn (ha pos pins s σ H _ I h) fun us s1 ⟨vs,H1,I1,r1,q1⟩=>hc pins s1 σ H1 vs us Q I1 r1 q1) he hpl
end
end L2
namespace HT
open PySem PyProof.Rows
section
variable {prog : Program} {w : World} {A : Around} {E : Value→Shared→Prop} {s : Shared}
def sIx (n d : Nat) : Option Int→Nat
 | none=>d
 | some v=>if v < 0 then (v + (n : Int)).toNat else min v.toNat n
theorem sIx_nat (n d k : Nat) : sIx n d (some (k : Int)) = min k n:=by
 show (if (k : Int) < 0 then ((k : Int) + (n : Int)).toNat else min (k : Int).toNat n) = min k n
 rw [if_neg (by omega),Int.toNat_natCast]
theorem sIx_le (n d : Nat) (hd : d≤n) (o : Option Int) : sIx n d o≤n:=by
 cases o with
 | none=>exact hd
 | some v =>
  show (if v < 0 then (v + (n : Int)).toNat else min v.toNat n)≤n
  by_cases hv : v < 0
  ·rw [if_pos hv]; omega
  ·rw [if_neg hv]; exact Nat.min_le_right _ _
end
end HT
namespace L2
open PySem PySem.Spec PyProof.Rows
abbrev TO:=St→Hp→(Option Int→Hp→Prop)→Prop
def PO (X : Cx) (e : Option Expr) (t : TO) : Prop :=
 ∀ (pins : List (Addr × Obj)) (s : Shared) (σ : St) (H : Hp) (Q : Option Int→Hp→Prop),Inv X pins σ H s→t σ H Q →
  wpAny (model X.prog X.w) X.A (evalPart e X.env) (fun u s'=>∃ o H',Inv X pins σ H' s'∧IsPart u o∧Q o H') X.xe s
def tPart (t : TE) : TO:=fun σ H Q=>t σ H fun x H1=>∃ i,x = .int i∧Q (some i) H1
section
variable {X : Cx} {e : Expr} {te : TE} {lo hi : Option Expr} {tl th : TO} {pos p2 : Pos}
theorem po_some (h : PE X e te) : PO X (some e) (tPart te):=by
 intro pins s σ H Q I hw
 rw [evalPart_some]
 refine thn (h pins s σ H _ I hw) fun u s1 ⟨x,H1,I1,r1,q1⟩=>?_
 obtain ⟨i,rfl,q⟩:=q1
 obtain ⟨t,rfl⟩:=r1
 exact ⟨some i,H1,I1,.int i t,q⟩
def SlR (X : Cx) (r : V→Option Int→Option Int→Hp→VK→Prop) : Prop :=
 ∀ (pins : List (Addr × Obj)) (s : Shared) (σ : St) (H : Hp) (x : V) (v vl vu : Value) (lo hi : Option Int) (sl : Addr) (Q : VK),Inv X pins σ H s→RelV x v→s.heap.IsSliceOf sl vl vu .none→IsPart vl lo→IsPart vu hi→r x lo hi H Q →
  ∃ T id,typeLookup (.type T) "__getitem__" = pure (some (.builtin id))∧s.TypeIs v T∧wpAny (model X.prog X.w) X.A (getItem v (.ref sl)) (EP X pins σ Q) X.xe s
def tSl (r : V→Option Int→Option Int→Hp→VK→Prop) (te : TE) (tl th : TO) : TE:=fun σ H Q=>te σ H fun x H1=>tl σ H1 fun l H2=>th σ H2 fun u H3=>r x l u H3 Q
theorem pe_slice {r : V→Option Int→Option Int→Hp→VK→Prop} (hr : SlR X r) (he : PE X e te) (hl : PO X lo tl) (hu : PO X hi th) : PE X (.Subscript e (.Slice lo hi none p2) pos) (tSl r te tl th):=by
 intro pins s σ H Q I h
 refine Subscript_ (thn (he pins s σ H _ I h) fun v s1 ⟨x,H1,I1,r1,q1⟩=>?_)
 refine wpAny_Slice (thn (hl pins s1 σ H1 _ I1 q1) fun vl s2 ⟨l,H2,I2,pl,q2⟩=>thn (hu pins s2 σ H2 _ I2 q2) fun vu s3 ⟨u,H3,I3,pu,q3⟩=>?_)
 rw [evalPart_none]
 refine wpAny_pure ?_
 have I4 : Inv X pins σ H3 { s3 with heap:=s3.heap.push { cls:=.type "slice",data:=.fields #[vl,vu,.none] } }:=I3.kept (t':=s3.toks) fun b ob q=>Heap.get?_push_of_some _ q
 obtain ⟨T,id,hT,ht,hg⟩:=hr pins { s3 with heap:=s3.heap.push { cls:=.type "slice",data:=.fields #[vl,vu,.none] } } σ H3 x v vl vu l u s3.heap.objs.size Q I4 r1 (Heap.IsSliceOf.new ..) pl pu q3
 show wpAny (model X.prog X.w) X.A (subscriptTail e (.Slice lo hi none p2) v (.ref s3.heap.objs.size)) (EP X pins σ Q) X.xe { s3 with heap:=s3.heap.push { cls:=.type "slice",data:=.fields #[vl,vu,.none] } }
 exact tail_any (ops:=[.ref s3.heap.objs.size,v]) ht hT hg (by with_unfolding_all rfl)
end
end L2
namespace L2
open PySem PySem.Spec PyProof.Rows
def ixN (n : Nat) (i : Int) : Option Nat:=if 0≤i then (if i < n then some i.toNat else none) else if -(n : Int)≤i then some (i + n).toNat else none
def atI {α : Type} (xs : List α) (i : Int) : Option α:=(ixN xs.length i).bind fun j=>xs[j]?
theorem ixN_seq {n : Nat} {i : Int} {j : Nat} (h : ixN n i = some j) : seqIndex? i n = some j∧j < n∧-(n : Int)≤i∧i < n:=by
 unfold ixN at h
 by_cases h0 : 0≤i
 ·rw [if_pos h0] at h
  by_cases h1 : i < n
  ·rw [if_pos h1] at h
   have e : i.toNat = j:=Option.some.inj h
   exact ⟨by rw [seqIndex_of h0 h1,e],by omega,by omega,h1⟩
  ·rw [if_neg h1] at h; cases h
 ·rw [if_neg h0] at h
  by_cases h1 : -(n : Int)≤i
  ·rw [if_pos h1] at h
   have e : (i + n).toNat = j:=Option.some.inj h
   exact ⟨by rw [seqIndex_neg (by omega) h1,e],by omega,h1,by omega⟩
  ·rw [if_neg h1] at h; cases h
theorem atI_get {α : Type} {xs : List α} {i : Int} {v : α} (h : atI xs i = some v) : ∃ j,seqIndex? i xs.length = some j∧xs[j]? = some v∧j < xs.length∧-(xs.length : Int)≤i∧i < xs.length:=by
 unfold atI at h
 cases e : ixN xs.length i with
 | none=>rw [e] at h; cases h
 | some j =>
  rw [e] at h
  obtain ⟨h1,h2,h3,h4⟩:=ixN_seq e
  exact ⟨j,h1,h,h2,h3,h4⟩
theorem atI_nat {α : Type} {xs : List α} {j : Nat} {v : α} (h : xs[j]? = some v) : atI xs (j : Int) = some v:=by
 have hj : j < xs.length:=(List.getElem?_eq_some_iff.mp h).1
 have e : ixN xs.length (j : Int) = some j:=by
  unfold ixN
  rw [if_pos (by omega),if_pos (by omega)]; simp
 unfold atI; rw [e]; exact h
theorem atI_last {α : Type} (xs : List α) (v : α) : atI (xs++[v]) (-1) = some v:=by
 have hl : (xs++[v]).length = xs.length + 1:=by simp
 have e : ixN (xs++[v]).length (-1) = some xs.length:=by
  unfold ixN
  rw [hl,if_neg (by decide),if_pos (by omega)]
  congr 1
  omega
 unfold atI
 rw [e]
 show (xs++[v])[xs.length]? = some v
 simp
def PlainIx (b : Expr) : Prop:=∀ o i,subscripted b false o i = operate [o,i] (getItem o i)
def IxR (X : Cx) (r : R2) : Prop :=
 ∀ (value slice : Expr) (pins : List (Addr × Obj)) (s : Shared) (σ : St) (H : Hp) (x y : V) (v u : Value) (Q : VK),Inv X pins σ H s→RelV x v→RelV y u→r x y H Q →
  subscripted slice false v u = operate [v,u] (getItem v u)→wpAny (model X.prog X.w) X.A (subscriptTail value slice v u) (EP X pins σ Q) X.xe s
def MtR (X : Cx) (id : String) (r : V→List V→Hp→VK→Prop) : Prop :=
 ∀ (pins : List (Addr × Obj)) (s : Shared) (σ : St) (H : Hp) (x : V) (xs : List V) (v : Value) (us : List Value) (Q : VK),Inv X pins σ H s→RelV x v→Vals xs us→r x xs H Q →
  wpAny (model X.prog X.w) X.A (call (.builtin id) (v::us)) (EP X pins σ Q) X.xe s
section
variable {X : Cx} {a b : Expr} {ta tb : TE} {pos : Pos}
theorem pe_ix {r : R2} (hr : IxR X r) (ha : PE X a ta) (hb : PE X b tb) (hs : PlainIx b) : PE X (.Subscript a b pos) (tOp r ta tb):=by
 intro pins s σ H Q I h
 exact Subscript_ (binT ha hb I h fun v u s2 x y H2 I2 rx ry q=>hr a b pins s2 σ H2 x y v u Q I2 rx ry q (hs _ _))
def rIxL (K : PySem.W.Frag) : R2:=fun x y H Q=>∃ p xs i v,x = .ref p∧y = .int i∧SqL K H p xs∧atI xs i = some v∧Q v H
def rIxS : R2:=fun x y H Q=>∃ z i c,x = .str z∧y = .int i∧z.length≤sizeLine∧atI z.cps.toList i = some c∧Q (.str ⟨#[c]⟩) H
theorem ix_list : IxR X (rIxL X.K):=by
 intro value slice pins s σ H x y v u Q I rx ry h hs
 obtain ⟨p,xs,i,z,rfl,rfl,hq,he,q⟩:=h
 cases rx
 obtain ⟨t,rfl⟩:=ry
 obtain ⟨its,r,pl,hz⟩:=I.list hq
 obtain ⟨j,h1,h2,h3,h4,h5⟩:=atI_get he
 obtain ⟨w,ew,rw'⟩:=r.get h2
 have hl:=r.length
 have hn:=line63
 have fin : EP X pins σ Q w s:=⟨z,H,I,rw',q⟩
 by_cases h0 : 0≤i
 ·have hj : i.toNat = j:=by
   rw [seqIndex_of h0 h5] at h1
   exact Option.some.inj h1
  exact item_listR pl.isList h0 (by omega) (by rw [hj]; simpa using ew) fin hs
 ·have hj : (i + (its.toArray.size : Int)).toNat = j:=by
   rw [seqIndex_neg (by omega) h4] at h1
   rw [List.size_toArray,← hl]
   exact Option.some.inj h1
  exact subscriptTail_builtinR (x:=w) pl.isList.typeIs slot_list_getitem.lookup
   (wpAny_getItem_list_neg (Q:=fun r s'=>r = w∧EP X pins σ Q r s') pl.isList (by omega) (by rw [List.size_toArray] <;> omega) (by omega) (by rw [hj]; simpa using ew) ⟨rfl,fin⟩) hs
theorem ix_str : IxR X rIxS:=by
 intro value slice pins s σ H x y v u Q I rx ry h hs
 obtain ⟨z,i,c,rfl,rfl,hz,he,q⟩:=h
 obtain ⟨t,rfl⟩:=rx
 obtain ⟨t',rfl⟩:=ry
 obtain ⟨j,h1,h2,h3,h4,h5⟩:=atI_get he
 have hl : z.cps.toList.length = z.length:=by simp [Str.length]
 rw [hl] at h1 h4 h5
 have hn:=line63
 exact tail_any (typeIs_str s z t) slot_str_getitem.lookup (getItem_str (c:=c) (by
  have e1 : decide (i < -(2 ^ 63 : Int)) = false:=decide_eq_false (by omega)
  have e2 : decide (i ≥ 2 ^ 63) = false:=decide_eq_false (by omega)
  rw [e1,e2,Bool.or_false]) (by rw [h1]; simpa using h2) ⟨.str ⟨#[c]⟩,H,I.tok _,⟨_,rfl⟩,q⟩) hs
def flatV : V→Bool
 | .non=>true
 | .bl _=>true
 | .int _=>true
 | .str _=>true
 | _=>false
def eqV : V→V→Bool
 | .non,.non=>true
 | .bl a,.bl b=>a == b
 | .bl a,.int b=>(if a then 1 else 0) == b
 | .int a,.bl b=>a == (if b then 1 else 0)
 | .int a,.int b=>a == b
 | .str a,.str b=>a == b
 | _,_=>false
theorem eqAt_V {A : Around} {s : Shared} {y x : V} {u v : Value} (ry : RelV y u) (rx : RelV x v) (fy : flatV y = true) (fx : flatV x = true) : SeqAt.EqAt A s u v (eqV y x):=by
 cases y with
 | non =>
  cases ry
  cases x with
  | non=>cases rx; exact SeqAt.EqAt.same _
  | bl b=>cases rx; exact SeqAt.EqAt.none_bool b
  | int b=>obtain ⟨t,rfl⟩:=rx; exact SeqAt.EqAt.none_int b t
  | str b=>obtain ⟨t,rfl⟩:=rx; exact SeqAt.EqAt.none_str b t
  | _=>exact absurd (show false = true from fx) Bool.false_ne_true
 | bl a =>
  cases ry
  cases x with
  | non=>cases rx; exact SeqAt.EqAt.bool_none a
  | bl b=>cases rx; exact SeqAt.EqAt.bool_bool a b
  | int b=>obtain ⟨t,rfl⟩:=rx; exact SeqAt.EqAt.bool_int a b t
  | str b=>obtain ⟨t,rfl⟩:=rx; exact SeqAt.EqAt.bool_str a b t
  | _=>exact absurd (show false = true from fx) Bool.false_ne_true
 | int a =>
  obtain ⟨t',rfl⟩:=ry
  cases x with
  | non=>cases rx; exact SeqAt.EqAt.int_none a t'
  | bl b=>cases rx; exact SeqAt.EqAt.int_bool a t' b
  | int b=>obtain ⟨t,rfl⟩:=rx; exact SeqAt.EqAt.int_int a t' b t
  | str b=>obtain ⟨t,rfl⟩:=rx; exact SeqAt.EqAt.int_str a t' b t
  | _=>exact absurd (show false = true from fx) Bool.false_ne_true
 | str a =>
  obtain ⟨t',rfl⟩:=ry
  cases x with
  | non=>cases rx; exact SeqAt.EqAt.str_none a t'
  | bl b=>cases rx; exact SeqAt.EqAt.str_bool a t' b
  | int b=>obtain ⟨t,rfl⟩:=rx; exact SeqAt.EqAt.str_int a t' b t
  | str b=>obtain ⟨t,rfl⟩:=rx; exact SeqAt.EqAt.str_str a t' b t
  | _=>exact absurd (show false = true from fx) Bool.false_ne_true
 | _=>exact absurd (show false = true from fy) Bool.false_ne_true
def eqU (x : V) (u : Value) : Bool:=match u with
 | .none=>eqV .non x
 | .bool b=>eqV (.bl b) x
 | .int i _=>eqV (.int i) x
 | .str z _=>eqV (.str z) x
 | _=>false
theorem eqU_of {x y : V} {u : Value} (r : RelV y u) (f : flatV y = true) : eqU x u = eqV y x:=by
 cases y with
 | non=>cases r; rfl
 | bl b=>cases r; rfl
 | int i=>obtain ⟨t,rfl⟩:=r; rfl
 | str z=>obtain ⟨t,rfl⟩:=r; rfl
 | _=>exact absurd (show false = true from f) Bool.false_ne_true
theorem any_eqU {x : V} : ∀ {xs : List V} {us : List Value},Vals xs us→xs.all flatV = true→us.any (eqU x) = xs.any fun y=>eqV y x
 | _,_,.nil,_=>rfl
 | y::xs,u::us,.cons r t,f=>by
  rw [List.all_cons,Bool.and_eq_true] at f
  rw [List.any_cons,List.any_cons,eqU_of r f.1,any_eqU t f.2]
theorem mem_eqAt {A : Around} {s : Shared} {x : V} {v : Value} (rx : RelV x v) (fx : flatV x = true) : ∀ {xs : List V} {us : List Value},Vals xs us→xs.all flatV = true→∀ u ∈ us,SeqAt.EqAt A s u v (eqU x u)
 | _,_,.nil,_=>fun u hu=>by cases hu
 | y::xs,u::us,.cons r t,f=>fun u' hu=>by
  rw [List.all_cons,Bool.and_eq_true] at f
  rcases List.mem_cons.mp hu with rfl | hu
  ·rw [eqU_of r f.1]; exact eqAt_V r rx f.1 fx
  ·exact mem_eqAt rx fx t f.2 u' hu
def inV (x : V) (xs : List V) : Bool:=xs.any fun y=>eqV y x
def rIn (K : PySem.W.Frag) (neg : Bool) : R2:=fun x y H Q=>∃ p xs,y = .ref p∧(SqL K H p xs∨SqT K H p xs)∧flatV x = true∧xs.all flatV = true∧Q (.bl (if neg then !inV x xs else inV x xs)) H
theorem op_in_seq : OpR X (compareOp .In) (rIn X.K false):=by
 intro pins s σ H x y v u Q I rx ry h
 obtain ⟨p,xs,rfl,hq,fx,fs,q⟩:=h
 cases ry
 rcases hq with hq | hq
 ·obtain ⟨its,r,pl,hz⟩:=I.list hq
  refine SeqAt.in_listAt (eqU x) pl.isList (fun w hw=>mem_eqAt rx fx r fs w (by simpa using hw)) ⟨.bl _,H,I,rfl,?_⟩
  rw [show its.toArray.any (eqU x) = its.any (eqU x) by simp,any_eqU r fs]
  exact q
 ·obtain ⟨its,r,pl,hz⟩:=I.tuple hq
  refine SeqAt.in_tupleAt (eqU x) pl (fun w hw=>mem_eqAt rx fx r fs w (by simpa using hw)) ⟨.bl _,H,I,rfl,?_⟩
  rw [show its.toArray.any (eqU x) = its.any (eqU x) by simp,any_eqU r fs]
  exact q
theorem op_notIn_seq : OpR X (compareOp .NotIn) (rIn X.K true):=by
 intro pins s σ H x y v u Q I rx ry h
 obtain ⟨p,xs,rfl,hq,fx,fs,q⟩:=h
 cases ry
 rcases hq with hq | hq
 ·obtain ⟨its,r,pl,hz⟩:=I.list hq
  refine SeqAt.notIn_listAt (eqU x) pl.isList (fun w hw=>mem_eqAt rx fx r fs w (by simpa using hw)) ⟨.bl _,H,I,rfl,?_⟩
  rw [show its.toArray.any (eqU x) = its.any (eqU x) by simp,any_eqU r fs]
  exact q
 ·obtain ⟨its,r,pl,hz⟩:=I.tuple hq
  refine SeqAt.notIn_tupleAt (eqU x) pl (fun w hw=>mem_eqAt rx fx r fs w (by simpa using hw)) ⟨.bl _,H,I,rfl,?_⟩
  rw [show its.toArray.any (eqU x) = its.any (eqU x) by simp,any_eqU r fs]
  exact q
theorem call_len_seq : CallR X (.builtin "len") (fun xs H Q=>∃ p ys,xs = [.ref p]∧(SqL X.K H p ys∨SqT X.K H p ys)∧Q (.int ys.length) H):=by
 intro pins s σ H xs us Q I r h
 obtain ⟨p,ys,rfl,hq,q⟩:=h
 obtain ⟨u,rfl,rx⟩:=vals1 r
 cases rx
 have hn:=line63
 rcases hq with hq | hq
 ·obtain ⟨its,r',pl,hz⟩:=I.list hq
  have hlen:=r'.length
  exact Calls.call_len_list pl.isList (by simp only [List.size_toArray] <;> omega) ⟨.int ys.length,H,I.tok _,⟨s.toks + 1,by rw [List.size_toArray,hlen]⟩,q⟩
 ·obtain ⟨its,r',pl,hz⟩:=I.tuple hq
  have hlen:=r'.length
  exact len_tuple pl (by simp only [List.size_toArray] <;> omega) ⟨.int ys.length,H,I.tok _,⟨s.toks + 1,by rw [List.size_toArray,hlen]⟩,q⟩
theorem call_len_str : CallR X (.builtin "len") (fun xs H Q=>∃ z,xs = [.str z]∧z.length≤sizeLine∧Q (.int z.length) H):=by
 intro pins s σ H xs us Q I r h
 obtain ⟨z,rfl,hz,q⟩:=h
 obtain ⟨u,rfl,t,rfl⟩:=vals1 r
 have hn:=line63
 exact len_str (by omega) ⟨.int z.length,H,I.tok _,⟨_,rfl⟩,q⟩
theorem call_list_of : CallR X (.type "list") (fun xs H Q=>∃ p ys,xs = [.ref p]∧(SqL X.K H p ys∨SqT X.K H p ys)∧∀ l,H l = none→Q (.ref l) (upd H l (.lst ys))):=by
 intro pins s σ H xs us Q I r h
 obtain ⟨p,ys,rfl,hq,q⟩:=h
 obtain ⟨u,rfl,rx⟩:=vals1 r
 cases rx
 have fin : ∀ (its : List Value),Vals ys its→ys.length≤sizeLine→∀ (h' : Heap) (c' : Nat),(∀ b o',s.heap.get? b = some o'→h'.get? b = some o') →
   h'.get? s.heap.objs.size = some { cls:=.type "list",dict:=none,data:=.seq its.toArray c',slots:=#[] }→EP X pins σ Q (.ref s.heap.objs.size) { s with heap:=h' }:=fun its r' hz h' c' kp e =>
  ⟨.ref s.heap.objs.size,_,I.laid (t':=s.toks) kp (Nat.le_refl _) (show ObjOk X.prog X.w _ h' _ (.lst ys) from ⟨hz,its,c',r',e⟩),rfl,q _ (I.hok.fresh (Nat.le_refl _))⟩
 rcases hq with hq | hq
 ·obtain ⟨its,r',pl,hz⟩:=I.list hq
  have hlen:=r'.length
  obtain ⟨o,ho,hc,n,hd⟩:=pl.isList
  exact call_list_seq p (.inl rfl) ho hc hd (fun h' c' kp e=>fin its r' hz h' c' kp e) (by simp only [List.size_toArray] <;> omega)
 ·obtain ⟨its,r',pl,hz⟩:=I.tuple hq
  have hlen:=r'.length
  obtain ⟨o,ho,hc,n,hd⟩:=pl
  exact call_list_seq p (.inr rfl) ho hc hd (fun h' c' kp e=>fin its r' hz h' c' kp e) (by simp only [List.size_toArray] <;> omega)
def tyV (K : PySem.W.Frag) (T : String) (x : V) (H : Hp) : Prop:=match x with
 | .str _=>T = "str"
 | .int _=>T = "int"
 | .ref p=>(T = "list"∧∃ xs,SqL K H p xs)∨(T = "tuple"∧∃ o,K.lookup p = some o∧o.cls = .type "tuple"∧o.dict = none) ∨
   (T = "dict"∧((∃ kvs,H p = some (.dK kvs))∨∃ kvs,H p = some (.dT kvs)))∨(T = "set"∧∃ S n,H p = some (.set S n))
 | _=>False
theorem tyV_is {pins : List (Addr × Obj)} {σ : St} {H : Hp} {s : Shared} {T : String} {x : V} {v : Value} (I : Inv X pins σ H s) (r : RelV x v) (ty : tyV X.K T x H) :
  s.TypeIs v T∧∀ a,v = .ref a→∃ ob,s.heap.get? a = some ob∧ob.dict = none:=by
 cases x with
 | str z =>
  obtain ⟨t,rfl⟩:=r
  cases (show T = "str" from ty)
  exact ⟨typeIs_str s z t,fun _ e=>nomatch e⟩
 | int i =>
  obtain ⟨t,rfl⟩:=r
  cases (show T = "int" from ty)
  exact ⟨typeIs_int s i t,fun _ e=>nomatch e⟩
 | ref p =>
  cases r
  rcases ty with ⟨rfl,xs,hq⟩ | ⟨rfl,o,hk,hc,hd⟩ | ⟨rfl,hk⟩ | ⟨rfl,S,n,hk⟩
  ·obtain ⟨its,_,pl,_⟩:=I.list hq
   refine ⟨pl.isList.typeIs,fun a e=>?_⟩
   cases e
   obtain ⟨o,n,e,c,hd,_⟩:=pl
   exact ⟨o,e,hd⟩
  ·refine ⟨⟨o,I.kIn p o hk,hc⟩,fun a e=>?_⟩
   cases e
   exact ⟨o,I.kIn _ o hk,hd⟩
  ·have z : ∃ o,s.heap.get? p = some o∧o.ExactDict:=by
    rcases hk with ⟨kvs,hk⟩ | ⟨kvs,hk⟩
    ·obtain ⟨_,_,_,_,o,_,_,e,ex,_⟩:=I.hok p _ hk
     exact ⟨o,e,ex⟩
    ·obtain ⟨_,_,_,_,o,_,_,e,ex,_⟩:=I.hok p _ hk
     exact ⟨o,e,ex⟩
   obtain ⟨o,e,ex⟩:=z
   refine ⟨⟨o,e,ex.1⟩,fun a e2=>?_⟩
   cases e2
   exact ⟨o,e,ex.2.1⟩
  ·obtain ⟨o,_,_,_,e,ex,_⟩:=I.hok p _ hk
   refine ⟨⟨o,e,ex.1⟩,fun a e2=>?_⟩
   cases e2
   exact ⟨o,e,ex.2.1⟩
 | _=>exact False.elim ty
def tBM0 (K : PySem.W.Frag) (T : String) (r : V→List V→Hp→VK→Prop) (to : TE) : TE:=fun σ H Q=>to σ H fun x H1=>tyV K T x H1∧r x [] H1 Q
def tBM (K : PySem.W.Frag) (T : String) (r : V→List V→Hp→VK→Prop) (to : TE) (t : TA) : TE:=fun σ H Q=>to σ H fun x H1=>tyV K T x H1∧t σ H1 fun xs H2=>r x xs H2 Q
variable {o e : Expr} {es : List Expr} {to : TE} {t : TA} {name : Str} {apos cpos : Pos} {T id : String} {r : V→List V→Hp→VK→Prop}
theorem pe_bm0 (pa : PlainAttrs T) (slot : Slot T name id) (hty : typeOf (.builtin id) = pure (.type "method_descriptor")) (hm : MtR X id r) (ho : PE X o to)
  (hbase : attributeBase o name X.env (eval o X.env) = eval o X.env:=by rfl) (hline : (apos.endLine == cpos.line) = true:=by rfl) : PE X (.Call (.Attribute o name apos) [] [] cpos) (tBM0 X.K T r to):=by
 intro pins s σ H Q I h
 refine wpAny_Call_method0_late hbase hline (thn (ho pins s σ H _ I h) fun v s1 ⟨x,H1,I1,r1,ty,q1⟩=>?_)
 obtain ⟨h1,h2⟩:=tyV_is I1 r1 ty
 exact ⟨T,id,pa,slot,hty,h1,h2,Calls.callWith_builtin rfl (PySem.evalArgs_none (hm pins s1 σ H1 x [] v [] Q I1 r1 .nil q1))⟩
theorem pe_bm (pa : PlainAttrs T) (slot : Slot T name id) (hty : typeOf (.builtin id) = pure (.type "method_descriptor")) (hm : MtR X id r) (ho : PE X o to) (ha : PA X (e::es) t)
  (hbase : attributeBase o name X.env (eval o X.env) = eval o X.env:=by rfl)
  (hfew : ((backTo cpos (starEach (e::es) X.env)).all (fun x=>!x.1) && (backToKw cpos (keywordEach [] X.env)).all (fun x=>x.1.isSome)
   && decide ((e::es).length + ([] : List Keyword).length + (if ([] : List Keyword).isEmpty then 0 else 1) < 30)) = true:=by rfl)
  (hline : (apos.endLine == cpos.line) = true:=by rfl) (hs : starEach (e::es) X.env = (false,eval e X.env)::starEach es X.env:=by rfl) (hplain : (backTo cpos (starEach es X.env)).any (·.1) = false:=by rfl) :
  PE X (.Call (.Attribute o name apos) (e::es) [] cpos) (tBM X.K T r to t):=by
 intro pins s σ H Q I h
 refine wpAny_Call_method_late hbase hfew hline rfl (thn (ho pins s σ H _ I h) fun v s1 ⟨x,H1,I1,r1,ty,q1⟩=>?_)
 obtain ⟨h1,h2⟩:=tyV_is I1 r1 ty
 refine ⟨T,id,pa,slot,hty,h1,h2,?_⟩
 have hA:=ha cpos pins s1 σ H1 _ I1 q1
 rw [hs] at hA ⊢
 refine Calls.callWith_builtin (by show (false || (backTo cpos (starEach es X.env)).any (·.1)) = false; rw [hplain] <;> rfl) (Calls.evalArgs_plain ?_)
 exact thn hA fun us s2 ⟨vs,H2,I2,r2,q2⟩=>hm pins s2 σ H2 x vs v us Q I2 r1 r2 q2
end
end L2
namespace L2
open PySem PySem.Spec PyProof.Rows
def MtM (X : Cx) (id : String) (r : V→List V→Hp→VK→Prop) : Prop :=
 ∀ (pins : List (Addr × Obj)) (s : Shared) (σ : St) (H : Hp) (x : V) (xs : List V) (v : Value) (us : List Value) (Q : VK),Inv X pins σ H s→RelV x v→Vals xs us→r x xs H Q →
  wpAny (model X.prog X.w) X.A (call (.builtin id) (v::us)) (EP X pins σ Q) X.xe s
theorem Vals.one : ∀ {x : V} {us : List Value},Vals [x] us→∃ u,us = [u]∧RelV x u
 | _,_,.cons r .nil=>⟨_,rfl,r⟩
theorem Vals.zero : ∀ {us : List Value},Vals [] us→us = []
 | _,.nil=>rfl
theorem Vals.dropLast {xs : List V} {us : List Value} (h : Vals xs us) : Vals xs.dropLast us.dropLast:=by
 induction h with
 | nil=>exact .nil
 | cons r t ih =>
  cases t with
  | nil=>exact .nil
  | cons q t'=>exact .cons r ih
theorem erase_last {α : Type} (l : List α) : l.eraseIdx (l.length - 1) = l.dropLast:=by
 induction l with
 | nil=>rfl
 | cons a r ih =>
  cases r with
  | nil=>rfl
  | cons b r =>
   have e : (a::b::r).length - 1 = ((b::r).length - 1) + 1:=by
    have h1 : (a::b::r).length = r.length + 2:=rfl
    have h2 : (b::r).length = r.length + 1:=rfl
    omega
   rw [e,List.eraseIdx_cons_succ,ih]
   all_goals rfl
section
variable {X : Cx} {pins : List (Addr × Obj)} {σ : St} {H : Hp} {s : Shared} {l b : Addr} {xs ys zs : List V}
theorem Inv.lset {its its' : List Value} {n : Nat} {f : Array Value→Array Value} {t' : Nat} (I : Inv X pins σ H s) (hH : H l = some (.lst xs))
  (e : s.heap.get? l = some { cls:=.type "list",data:=.seq its.toArray n }) (hf : f its.toArray = its'.toArray) (hv : Vals ys its') (hz : ys.length≤sizeLine) :
  Inv X pins σ (upd H l (.lst ys)) { s with heap:=s.heap.update l (Obj.mapSeq f),toks:=t' }:=by
 have q:=PySem.IsL.update e f
 rw [hf] at q
 refine I.write (x:=l) (e:=l) (by rw [hH]; exact trivial) (.inl rfl) (fun b' u hb hu=>(Heap.get?_update_other s.heap (Obj.mapSeq f) (Ne.symm hb)).trans hu) ⟨_,q⟩ ?_
 exact ⟨hz,its',_,hv,q⟩
theorem Inv.lnew {its : List Value} {t' : Nat} (I : Inv X pins σ H s) (hv : Vals ys its) (hz : ys.length≤sizeLine) :
  Inv X pins σ (upd H s.heap.objs.size (.lst ys)) { s with heap:=s.heap.push { cls:=.type "list",data:=.seq its.toArray },toks:=t' } :=
 I.laid (fun _ _ q=>Heap.get?_push_of_some _ q) (Nat.le_refl _) ⟨hz,its,0,hv,Heap.get?_push_size _ rfl⟩
theorem Inv.fresh (I : Inv X pins σ H s) : H s.heap.objs.size = none:=I.hok.fresh (Nat.le_refl _)
theorem Inv.lstM (I : Inv X pins σ H s) (hH : H l = some (.lst xs)) : xs.length≤sizeLine∧∃ (its : List Value) (n : Nat),Vals xs its∧xs.length = its.length∧s.heap.get? l = some { cls:=.type "list",data:=.seq its.toArray n }:=by
 obtain ⟨z,its,n,r,e⟩:=I.hok l _ hH
 exact ⟨z,its,n,r,r.length,e⟩
end
section
variable {X : Cx}
def rAppend : V→List V→Hp→VK→Prop:=fun x vs H Q=>∃ l xs y,x = .ref l∧vs = [y]∧H l = some (.lst xs)∧xs.length < sizeLine∧Q .non (upd H l (.lst (xs++[y])))
theorem mt_append : MtM X "list.append" rAppend:=by
 intro pins s σ H x vs v us Q I rx rv h
 obtain ⟨l,xs,y,rfl,rfl,hH,hz,q⟩:=h
 cases rx
 obtain ⟨u,rfl,ru⟩:=rv.one
 obtain ⟨z,its,n,r,hl,e⟩:=I.lstM hH
 refine call_meets F.slot_list_append ⟨_,e,rfl⟩ F.entry_list_append (F.args_list_append_2 _ _) (PySem.list_append l its.toArray n u (by rw [List.size_toArray]; omega)) ⟨e,?_⟩
 refine ⟨.non,_,I.lset (its':=its++[u]) hH e (by simp) (r.append (.cons ru .nil)) ?_,rfl,q⟩
 rw [List.length_append,List.length_singleton]
 omega
def rPop : V→List V→Hp→VK→Prop:=fun x vs H Q=>∃ l xs y,x = .ref l∧vs = []∧H l = some (.lst xs)∧xs[xs.length - 1]? = some y∧Q y (upd H l (.lst xs.dropLast))
theorem mt_pop : MtM X "list.pop" rPop:=by
 intro pins s σ H x vs v us Q I rx rv h
 obtain ⟨l,xs,y,rfl,rfl,hH,hy,q⟩:=h
 cases rx
 have hus:=rv.zero
 subst hus
 obtain ⟨z,its,n,r,hl,e⟩:=I.lstM hH
 obtain ⟨u,hu,ru⟩:=r.get hy
 have hy' : its.toArray[its.toArray.size - 1]? = some u:=by
  show its.toArray[its.length - 1]? = some u
  rw [← Array.getElem?_toList,← hl]
  exact hu
 refine call_meets F.slot_list_pop ⟨_,e,rfl⟩ F.entry_list_pop (F.args_list_pop_1 _) (MeetsSeq.list_pop_last l its.toArray n u hy' (by rw [List.size_toArray]; omega)) ⟨e,?_⟩
 refine ⟨y,_,I.lset (its':=its.dropLast) hH e ?_ r.dropLast ?_,ru,q⟩
 ·show its.toArray.eraseIdxIfInBounds (its.toArray.size - 1) = its.dropLast.toArray
  rw [List.size_toArray,List.eraseIdxIfInBounds_toArray,erase_last]
 ·rw [List.length_dropLast]
  omega
def rCat : R2:=fun x y H Q=>∃ l b xs zs,x = .ref l∧y = .ref b∧H l = some (.lst xs)∧H b = some (.lst zs)∧xs.length + zs.length≤sizeLine∧∀ p,H p = none→Q (.ref p) (upd H p (.lst (xs++zs)))
theorem op_cat : OpR X (binaryOp .Add) rCat:=by
 intro pins s σ H x y v u Q I rx ry h
 obtain ⟨l,b,xs,zs,rfl,rfl,hH,hB,hz,q⟩:=h
 cases rx
 cases ry
 obtain ⟨z,its,n,r,hl,e⟩:=I.lstM hH
 obtain ⟨z2,its2,n2,r2,hl2,e2⟩:=I.lstM hB
 refine PySem.P.add_list e e2 ?_ (by rw [List.size_toArray,List.size_toArray]; omega)
 have ea : its.toArray++its2.toArray = (its++its2).toArray:=by simp
 rw [ea]
 exact ⟨.ref _,_,I.lnew (t':=s.toks) (r.append r2) (by rw [List.length_append]; omega),rfl,q _ I.fresh⟩
end
end L2
namespace L2
open PySem PySem.Spec PyProof.Rows
theorem Vals.ints : ∀ {ns : List Int} {us : List Value},Vals (ns.map V.int) us→IntsAre us ns
 | [],us,h=>by
  rw [List.map_nil] at h
  cases h
  exact IntsAre.nil
 | n::ns,us,h=>by
  rw [List.map_cons] at h
  cases h with
  | cons r t =>
   obtain ⟨k,rfl⟩:=r
   exact IntsAre.cons n k (Vals.ints t)
theorem Vals.bls : ∀ {bs : List Bool} {us : List Value},Vals (bs.map V.bl) us→us = bs.map Value.bool
 | [],us,h=>by
  rw [List.map_nil] at h
  cases h
  rfl
 | b::bs,us,h=>by
  rw [List.map_cons] at h
  cases h with
  | cons r t =>
   cases r
   rw [Vals.bls t,List.map_cons]
theorem Vals.ref1 {a : Addr} {us : List Value} (r : Vals [V.ref a] us) : us = [Value.ref a]:=by
 cases r with
 | cons r t =>
  cases t
  cases r
  rfl
section
variable {prog : Program} {w : World} {A : Around} {E : Value→Shared→Prop} {s : Shared} {l : Addr} {its : List Value} {ns : List Int} {Q : Value→Shared→Prop}
theorem sum_raw (hh : A.handled = none) (hl : s.heap.IsList l its.toArray) (hi : IntsAre its ns)
  (h : ∀ h' tk t',(∀ b o,s.heap.get? b = some o→h'.get? b = some o)→Q (.int ns.sum t') { s with heap:=h',toks:=tk }) : wpAny (model prog w) A (call (.builtin "sum") [.ref l]) Q E s:=by
 obtain ⟨xs,e⟩:=hi.allInts.items
 have hn : numsOf (intItems xs).toList = ns:=by rw [← e]; exact hi.numsOf
 rw [nums_intItems] at hn
 rw [e] at hl
 refine PySem.sum_intListG hh hl fun h' tk t' hk=>?_
 have:=h h' tk t' hk
 rw [preSum_eq,List.take_of_length_le (by simp),hn]; exact this
end
section
variable {X : Cx}
def rSum (K : PySem.W.Frag) : List V→Hp→VK→Prop:=fun vs H Q=>∃ (a : Addr) (ns : List Int),vs = [V.ref a]∧SqL K H a (ns.map V.int)∧Q (.int ns.sum) H
theorem cr_sum (hc : X.calm = true) : CallR X (.builtin "sum") (rSum X.K):=by
 intro pins s σ H vs us Q I r h
 obtain ⟨a,ns,rfl,hs,q⟩:=h
 obtain ⟨its,rv,hl,_⟩:=I.list hs
 rw [Vals.ref1 r]
 exact sum_raw (I.ok.hd hc) hl.isList rv.ints fun h' tk t' hk=>⟨.int _,H,I.kept hk,⟨_,rfl⟩,q⟩
end
theorem iter_any {prog : Program} {w : World} {A : Around} {E : Value→Shared→Prop} {s : Shared} {l : Addr} {items : Array Value} {Q : Value→Shared→Prop} (hl : s.heap.IsList l items)
  (h : ∀ s₂ : Shared,s₂ = { s with heap:=s.heap.push { cls:=.type "list_iterator",data:=.fields #[.ref l,.int 0 0] } } →
   (s₂.heap.IsListIter s.heap.objs.size l 0∧s₂.heap.IsList l items)→l ≠ s.heap.objs.size→Q (.ref s.heap.objs.size) s₂) : wpAny (model prog w) A (pyIter (.ref l)) Q E s:=by
 have hlt : l < s.heap.objs.size:=by obtain ⟨_,e,_⟩:=hl; exact Heap.lt_size e
 exact wpAny_pyIter_list hl (h _ rfl ⟨⟨_,Heap.get?_push_size _ rfl,rfl,rfl⟩,hl.push _⟩ (Nat.ne_of_lt hlt))
theorem truth_bools {prog : Program} {w : World} {A : Around} {bs : List Bool} {its : List Value} (e : its = bs.map Value.bool) :
  TruthOf prog w A (fun i v=>its.toArray[i]? = some v) (fun i=>bs.getD i false):=fun i v s Q E hv hq=>by
 have hv' : its[i]? = some v:=by simpa using hv
 rw [e,List.getElem?_map] at hv'
 obtain ⟨b,hb,rfl⟩:=Option.map_eq_some_iff.mp hv'
 have hg : bs.getD i false = b:=by rw [List.getD_eq_getElem?_getD,hb] <;> rfl
 have hq' : Q (bs.getD i false) s:=hq
 rw [hg] at hq'
 exact wpAny_truthy_bool hq'
theorem any_range : ∀ bs : List Bool,(List.range bs.length).any (fun i=>bs.getD i false) = bs.any id
 | []=>rfl
 | b::bs=>by
  rw [List.length_cons,List.range_succ_eq_map,List.any_cons,List.any_map,List.any_cons,← any_range bs]
  all_goals rfl
theorem all_range : ∀ bs : List Bool,(List.range bs.length).all (fun i=>bs.getD i false) = bs.all id
 | []=>rfl
 | b::bs=>by
  rw [List.length_cons,List.range_succ_eq_map,List.all_cons,List.all_map,List.all_cons,← all_range bs]
  all_goals rfl
section
variable {X : Cx}
def rAny (K : PySem.W.Frag) : List V→Hp→VK→Prop:=fun vs H Q=>∃ (a : Addr) (bs : List Bool),vs = [V.ref a]∧SqL K H a (bs.map V.bl)∧Q (.bl (bs.any id)) H
def rAll (K : PySem.W.Frag) : List V→Hp→VK→Prop:=fun vs H Q=>∃ (a : Addr) (bs : List Bool),vs = [V.ref a]∧SqL K H a (bs.map V.bl)∧Q (.bl (bs.all id)) H
theorem cr_any (hc : X.calm = true) : CallR X (.builtin "any") (rAny X.K):=by
 intro pins s σ H vs us Q I r h
 obtain ⟨a,bs,rfl,hs,q⟩:=h
 obtain ⟨its,rv,hl,_⟩:=I.list hs
 rw [Vals.ref1 r]
 have hb:=rv.bls
 refine call_any_walk (iter_any hl.isList fun s₂ e2 st hne=>?_)
 subst e2
 refine ⟨_,_,_,_,_,_,_,rfl,Walks.list (A:=X.A.in1) (I.ok.hd hc) _ a hne its.toArray,st,truth_bools hb,fun h' tk hk=>?_⟩
 refine ⟨.bl _,H,I.kept fun b o eo=>hk b o (fun hmem=>?_) (Heap.get?_push_of_some _ eo),?_,q⟩
 ·rcases List.mem_cons.mp hmem with e1 | hmem
  ·exact absurd (e1 ▸ Heap.lt_size eo) (Nat.lt_irrefl _)
  ·cases hmem
 ·show Value.bool _ = Value.bool _
  rw [← any_range,hb,List.size_toArray,List.length_map]
theorem cr_all (hc : X.calm = true) : CallR X (.builtin "all") (rAll X.K):=by
 intro pins s σ H vs us Q I r h
 obtain ⟨a,bs,rfl,hs,q⟩:=h
 obtain ⟨its,rv,hl,_⟩:=I.list hs
 rw [Vals.ref1 r]
 have hb:=rv.bls
 refine call_all_walk (iter_any hl.isList fun s₂ e2 st hne=>?_)
 subst e2
 refine ⟨_,_,_,_,_,_,_,rfl,Walks.list (A:=X.A.in1) (I.ok.hd hc) _ a hne its.toArray,st,truth_bools hb,fun h' tk hk=>?_⟩
 refine ⟨.bl _,H,I.kept fun b o eo=>hk b o (fun hmem=>?_) (Heap.get?_push_of_some _ eo),?_,q⟩
 ·rcases List.mem_cons.mp hmem with e1 | hmem
  ·exact absurd (e1 ▸ Heap.lt_size eo) (Nat.lt_irrefl _)
  ·cases hmem
 ·show Value.bool _ = Value.bool _
  rw [← all_range,hb,List.size_toArray,List.length_map]
end
end L2
namespace L2
open PySem PySem.Spec PyProof.Rows
abbrev CellAt (h : Heap) (c : Addr) (v : Option Value) : Prop:=h.IsCell c v
def relS (scope sc : Scope) : Scope :=
 { scope with names:=scope.names.map fun (n,k)=>if (k == .free && sc.kind == .function && sc.names.lookup n == some .cell) then (n,.cell) else (n,k) }
def cloFrom (cells : List (Str × Addr)) : List (Str × NameKind)→List (Str × Addr)→List (Str × Addr)
 | [],acc=>acc
 | (n,k)::r,acc=>if k == .free then cloFrom cells r ((n,(cells.lookup n).getD 0)::acc) else cloFrom cells r acc
theorem closure_loop (env : Env) (f : Str × NameKind→List (Str × Addr)→Sem (ForInStep (List (Str × Addr))))
  (hf : ∀ n k c,f (n,k) c = if k == .free then (do let a ← cellOf env n; pure (.yield ((n,a)::c))) else pure (.yield c)) :
  ∀ (names : List (Str × NameKind)) (acc : List (Str × Addr)),(∀ y ∈ names,y.2 = .free→∃ c,env.cells.lookup y.1 = some c)→forIn names acc f = pure (cloFrom env.cells names acc)
 | [],acc,_=>by rw [List.forIn_nil]; rfl
 | (n,k)::r,acc,h=>by
  rw [List.forIn_cons,hf]
  have ih:=fun acc=>closure_loop env f hf r acc fun y hy=>h y (List.mem_cons_of_mem _ hy)
  unfold cloFrom
  by_cases hk : (k == NameKind.free) = true
  ·rw [if_pos hk,if_pos hk]
   obtain ⟨c,hc⟩:=h (n,k) List.mem_cons_self (by simpa using hk)
   have e : cellOf env n = pure c:=by unfold cellOf; rw [hc]
   rw [e]
   have e2 : (env.cells.lookup n).getD 0 = c:=by rw [hc]; rfl
   rw [e2]
   exact ih _
  ·rw [if_neg hk,if_neg hk]
   exact ih _
theorem closure_ok {scope : Scope} {env : Env} (h : ∀ y ∈ scope.names,y.2 = .free→∃ c,env.cells.lookup y.1 = some c) : closureFor scope env = pure (cloFrom env.cells scope.names []):=by
 simp only [closureFor]
 rw [closure_loop env _ (fun n k c=>rfl) scope.names [] h]
 rfl
theorem mem_lookup {α : Type} : ∀ {l : List (Str × α)} {n : Str} {c : α},(n,c) ∈ l→∃ c',l.lookup n = some c'
 | (k,v)::r,n,c,h=>by
  rw [List.lookup_cons]
  cases hb : n == k with
  | true=>exact ⟨_,rfl⟩
  | false =>
   rcases List.mem_cons.mp h with e | h
   ·cases e; simp at hb
   ·exact mem_lookup h
theorem cloFrom_mem {cells : List (Str × Addr)} : ∀ {names : List (Str × NameKind)} {acc : List (Str × Addr)} {n : Str} {c : Addr},(n,c) ∈ cloFrom cells names acc→(n,c) ∈ acc∨((n,.free) ∈ names∧c = (cells.lookup n).getD 0)
 | [],_,_,_,h=>.inl h
 | (m,k)::r,acc,n,c,h=>by
  unfold cloFrom at h
  split at h
  ·rename_i hk
   have hk : k = .free:=by simpa using hk
   rcases cloFrom_mem h with h | ⟨h1,h2⟩
   ·rcases List.mem_cons.mp h with e | h
    ·cases e; exact .inr ⟨hk ▸ List.mem_cons_self,rfl⟩
    ·exact .inl h
   ·exact .inr ⟨List.mem_cons_of_mem _ h1,h2⟩
  ·rcases cloFrom_mem h with h | ⟨h1,h2⟩
   ·exact .inl h
   ·exact .inr ⟨List.mem_cons_of_mem _ h1,h2⟩
theorem cloFrom_acc {cells : List (Str × Addr)} : ∀ {names : List (Str × NameKind)} {acc : List (Str × Addr)} {p : Str × Addr},p ∈ acc→p ∈ cloFrom cells names acc
 | [],_,_,h=>h
 | (m,k)::r,acc,p,h=>by
  unfold cloFrom
  split
  ·exact cloFrom_acc (List.mem_cons_of_mem _ h)
  ·exact cloFrom_acc h
theorem cloFrom_has {cells : List (Str × Addr)} : ∀ {names : List (Str × NameKind)} {acc : List (Str × Addr)} {n : Str},(n,.free) ∈ names→(n,(cells.lookup n).getD 0) ∈ cloFrom cells names acc
 | (m,k)::r,acc,n,h=>by
  unfold cloFrom
  rcases List.mem_cons.mp h with e | h
  ·cases e
   exact cloFrom_acc List.mem_cons_self
  ·split
   ·exact cloFrom_has h
   ·exact cloFrom_has h
theorem cells_mem : ∀ {names : List (Str × NameKind)} {h : Heap} {acc : List (Str × Addr)} {x : Str} {c : Addr},(x,c) ∈ cellsFrom h.objs.size names acc →
  (x,c) ∈ acc∨((x,.cell) ∈ names∧h.objs.size≤c∧CellAt (pushCells h names) c none)
 | [],_,_,_,_,h=>.inl h
 | (n,k)::r,h,acc,x,c,hm=>by
  unfold cellsFrom at hm
  unfold pushCells
  split at hm
  ·rename_i hk
   rw [if_pos hk]
   have hk : k = .cell:=by simpa using hk
   rw [← Heap.size_push h { cls:=.type "cell",data:=.cell none }] at hm
   rcases cells_mem hm with hm | ⟨h1,h2,h3⟩
   ·rcases List.mem_cons.mp hm with e | hm
    ·cases e
     exact .inr ⟨hk ▸ List.mem_cons_self,Nat.le_refl _,_,pushCells_keeps r _ _ _ (Heap.get?_push_size _ rfl),rfl⟩
    ·exact .inl hm
   ·rw [Heap.size_push] at h2
    exact .inr ⟨List.mem_cons_of_mem _ h1,Nat.le_of_succ_le h2,h3⟩
  ·rename_i hk
   rw [if_neg hk]
   rcases cells_mem hm with hm | ⟨h1,h2,h3⟩
   ·exact .inl hm
   ·exact .inr ⟨List.mem_cons_of_mem _ h1,h2,h3⟩
theorem cells_acc : ∀ {names : List (Str × NameKind)} {n : Nat} {acc : List (Str × Addr)} {p : Str × Addr},p ∈ acc→p ∈ cellsFrom n names acc
 | [],_,_,_,h=>h
 | (m,k)::r,n,acc,p,h=>by
  unfold cellsFrom
  split
  ·exact cells_acc (List.mem_cons_of_mem _ h)
  ·exact cells_acc h
theorem cells_has : ∀ {names : List (Str × NameKind)} {n : Nat} {acc : List (Str × Addr)} {x : Str},(x,.cell) ∈ names→∃ c,(x,c) ∈ cellsFrom n names acc
 | (m,k)::r,n,acc,x,h=>by
  unfold cellsFrom
  rcases List.mem_cons.mp h with e | h
  ·cases e
   exact ⟨n,cells_acc List.mem_cons_self⟩
  ·split
   ·exact cells_has h
   ·exact cells_has h
theorem cells_inj : ∀ {names : List (Str × NameKind)} {h : Heap} {acc : List (Str × Addr)} {x y : Str} {c : Addr},(∀ p ∈ acc,p.2 < h.objs.size)→(∀ x y c,(x,c) ∈ acc→(y,c) ∈ acc→x = y) →
  (x,c) ∈ cellsFrom h.objs.size names acc→(y,c) ∈ cellsFrom h.objs.size names acc→x = y
 | [],_,_,_,_,_,_,hi,h1,h2=>hi _ _ _ h1 h2
 | (n,k)::r,h,acc,x,y,c,hl,hi,h1,h2=>by
  unfold cellsFrom at h1 h2
  split at h1
  ·rename_i hk
   rw [if_pos hk] at h2
   rw [← Heap.size_push h { cls:=.type "cell",data:=.cell none }] at h1 h2
   refine cells_inj (h:=h.push _) (fun p hp=>?_) (fun x y c a b=>?_) h1 h2
   ·rw [Heap.size_push]
    rcases List.mem_cons.mp hp with rfl | hp
    ·exact Nat.lt_succ_self _
    ·exact Nat.lt_succ_of_lt (hl p hp)
   ·rcases List.mem_cons.mp a with e | a <;> rcases List.mem_cons.mp b with e' | b
    ·cases e; cases e'; rfl
    ·cases e; exact absurd (hl _ b) (Nat.lt_irrefl _)
    ·cases e'; exact absurd (hl _ a) (Nat.lt_irrefl _)
    ·exact hi _ _ _ a b
  ·rename_i hk
   rw [if_neg hk] at h2
   exact cells_inj hl hi h1 h2
theorem newEnv_comp {M : Model} {A : Around} {E : Value→Shared→Prop} {s : Shared} {scope : Scope} {globals : Addr} {closure : List (Str × Addr)} {qual : Str} {func : Option Addr} {code : Value} {around : Env} {builtins : Addr} {Q : Env→Shared→Prop}
  (h : Q (newEnv scope s.heap.objs.size globals (cellsFrom (s.heap.objs.size + 1) scope.names closure) qual func code (some around) builtins)
   { s with heap:=pushCells (s.heap.push { cls:=.type "dict",data:=.dict #[] }) scope.names }) :
  wpAny M A (newFunctionEnv scope globals closure [] qual func code (some around) builtins) Q E s:=by
 simp only [newFunctionEnv,Option.isSome_some,if_true]
 refine wpAny_bind (wpAny_alloc ?_)
 refine wpAny_bind (wpAny_layCells _ (fun n k c=>rfl) scope.names closure _ _ ?_)
 rw [show ({ s with heap:=s.heap.push { cls:=.type "dict",data:=.dict #[] } } : Shared).heap.objs.size = s.heap.objs.size + 1 from Heap.size_push ..]
 rw [List.forIn_nil]
 exact wpAny_bind (wpAny_pure (wpAny_pure h))
theorem lookup_relS {sc : Scope} : ∀ {names : List (Str × NameKind)} {x : Str} {k : NameKind},
  (names.map fun (n,k)=>if (k == NameKind.free && sc.kind == .function && sc.names.lookup n == some .cell) then (n,NameKind.cell) else (n,k)).lookup x = some k →
  ∃ k',names.lookup x = some k'∧(k = k'∨(k' = .free∧k = .cell))
 | [],_,_,h=>by simp at h
 | (n,k₀)::r,x,k,h=>by
  have ih:=@lookup_relS sc r x k
  have h' : List.lookup x ((if (k₀ == NameKind.free && sc.kind == .function && sc.names.lookup n == some .cell) = true then (n,NameKind.cell) else (n,k₀))::(r.map _)) = some k:=h
  cases hx : x == n with
  | true =>
   simp only [List.lookup_cons,hx]
   by_cases hc : (k₀ == NameKind.free && sc.kind == .function && sc.names.lookup n == some .cell) = true
   ·rw [if_pos hc] at h'
    simp only [List.lookup_cons,hx] at h'
    cases h'
    simp only [Bool.and_eq_true,beq_iff_eq] at hc
    exact ⟨k₀,rfl,.inr ⟨hc.1.1,rfl⟩⟩
   ·rw [if_neg hc] at h'
    simp only [List.lookup_cons,hx] at h'
    cases h'
    exact ⟨_,rfl,.inl rfl⟩
  | false =>
   simp only [List.lookup_cons,hx]
   by_cases hc : (k₀ == NameKind.free && sc.kind == .function && sc.names.lookup n == some .cell) = true
   ·rw [if_pos hc] at h'
    simp only [List.lookup_cons,hx] at h'
    exact ih h'
   ·rw [if_neg hc] at h'
    simp only [List.lookup_cons,hx] at h'
    exact ih h'
structure BlkOk (N : List Str) (sc scope : Scope) (own : List (Str × Nat)) : Prop where
 kind : scope.kind = .function
 uniq : ∀ y ∈ scope.names,scope.names.lookup y.1 = some y.2
 ix : ∀ p ∈ own,N[p.2]? = some p.1
 free : ∀ y ∈ scope.names,y.2 = .free→sc.names.lookup y.1 = some .cell∨sc.names.lookup y.1 = some .free
 own : ∀ y ∈ scope.names,y.2 = .local∨y.2 = .cell→y.1 ∈ own.map (·.1)∨y.1 ∉ N
def wipe (σ : St) : List Nat→St
 | []=>σ
 | v::vs=>(wipe σ vs).set v none
theorem wipe_length (σ : St) : ∀ vs : List Nat,(wipe σ vs).length = σ.length
 | []=>rfl
 | v::vs=>by unfold wipe; rw [List.length_set,wipe_length σ vs]
theorem wipe_some {σ : St} {i : Nat} {x : V} : ∀ {vs : List Nat},(wipe σ vs)[i]? = some (some x)→σ[i]? = some (some x)∧i ∉ vs
 | [],h=>⟨h,by simp⟩
 | v::vs,h=>by
  unfold wipe at h
  by_cases hi : v = i
  ·subst hi
   by_cases hv : v < (wipe σ vs).length
   ·rw [List.getElem?_set_self hv] at h; cases h
   ·rw [List.getElem?_eq_none (by simpa using hv)] at h; cases h
  ·rw [List.getElem?_set_ne hi] at h
   obtain ⟨h1,h2⟩:=wipe_some h
   exact ⟨h1,by simp only [List.mem_cons,not_or]; exact ⟨fun e=>hi e.symm,h2⟩⟩
abbrev Cx.blk (X : Cx) (s : Shared) (H : Hp) (scope : Scope) (cenv : Env) (fp : List Addr) : Cx:={ X with s_0:=s,H_0:=H,env:=cenv,outer:=X.stack,ex:=fp,fn:=fun x=>scope.names.lookup x == some .cell,pn:=[],xe:=fun _ _=>False }
section
variable {X : Cx} {pins : List (Addr × Obj)} {σ : St} {H : Hp} {s : Shared}
theorem block_start {scope : Scope} {own : List (Str × Nat)} {fp : List Addr} (I : Inv X pins σ H s) (ok : BlkOk X.N X.env.scope scope own) (hN : X.N.Nodup) (hfp : ∀ b ∈ fp,FpOk X pins H b∧b < s.heap.objs.size) :
  Inv (X.blk s H scope (compEnvC scope (cellsFrom (s.heap.objs.size + 1) scope.names (cloFrom X.env.cells scope.names [])) s.heap.objs.size X.env) fp) [] (wipe σ (own.map (·.2))) H { s with heap:=pushCells (s.heap.push { cls:=.type "dict",data:=.dict #[] }) scope.names }:=by
 have hfree : ∀ y ∈ scope.names,y.2 = .free→∃ c,X.env.cells.lookup y.1 = some c:=fun y hy e=>by
  rcases ok.free y hy e with k | k
  ·exact I.ok.has _ (.inl k)
  ·exact I.ok.has _ (.inr k)
 generalize hcenv : compEnvC scope (cellsFrom (s.heap.objs.size + 1) scope.names (cloFrom X.env.cells scope.names [])) s.heap.objs.size X.env = cenv
 have kp : ∀ b o,s.heap.get? b = some o→(pushCells (s.heap.push { cls:=.type "dict",data:=.dict #[] }) scope.names).get? b = some o:=fun b o e=>pushCells_keeps _ _ _ _ (Heap.get?_push_of_some _ e)
 have hL : cenv.locals = s.heap.objs.size:=by rw [← hcenv]; rfl
 have hcl : cenv.cells = cellsFrom (s.heap.objs.size + 1) scope.names (cloFrom X.env.cells scope.names []):=by rw [← hcenv]; rfl
 have hsc : cenv.scope = relS scope X.env.scope:=by rw [← hcenv]; rfl
 rw [← Heap.size_push s.heap { cls:=.type "dict",data:=.dict #[] }] at hcl
 have cm : ∀ {y c},(y,c) ∈ cloFrom X.env.cells scope.names []→X.env.cells.lookup y = some c∧c < s.heap.objs.size:=fun {y c} hm=>by
  rcases cloFrom_mem hm with hm | ⟨h1,rfl⟩
  ·cases hm
  ·obtain ⟨c,hc⟩:=hfree _ h1 rfl
   rw [hc]
   obtain ⟨w,z⟩:=I.cell _ _ hc
   exact ⟨rfl,z.lt⟩
 have mem : ∀ {y c},cenv.cells.lookup y = some c→(X.env.cells.lookup y = some c∧c < s.heap.objs.size)∨(s.heap.objs.size + 1≤c∧CellAt (pushCells (s.heap.push { cls:=.type "dict",data:=.dict #[] }) scope.names) c none):=fun {y c} e=>by
  rw [hcl] at e
  rcases cells_mem (PySem.mem_of_lookup e) with hm | ⟨_,h2,h3⟩
  ·exact .inl (cm hm)
  ·rw [Heap.size_push] at h2; exact .inr ⟨h2,h3⟩
 have look : ∀ {y},scope.names.lookup y = some .free→∃ c,cenv.cells.lookup y = some c∧X.env.cells.lookup y = some c:=fun {y} hl=>by
  have hy : (y,NameKind.free) ∈ scope.names:=PySem.mem_of_lookup hl
  obtain ⟨c',e'⟩:=mem_lookup (cells_acc (names:=scope.names) (n:=(s.heap.push { cls:=.type "dict",data:=.dict #[] }).objs.size) (cloFrom_has (cells:=X.env.cells) (acc:=[]) hy))
  rw [← hcl] at e'
  refine ⟨c',e',?_⟩
  rw [hcl] at e'
  rcases cells_mem (PySem.mem_of_lookup e') with hm | ⟨h1,_,_⟩
  ·exact (cm hm).1
  ·have:=ok.uniq _ h1
   rw [hl] at this; cases this
 have okB : (X.blk s H scope cenv fp).Ok:=by
  refine ⟨I.ok.mod,by show cenv.scope.kind = _; rw [hsc]; exact ok.kind,by show cenv.globals = _; rw [← hcenv]; exact I.ok.glob,by show cenv.builtins = _; rw [← hcenv]; exact I.ok.blt,by show s.heap.objs.size≤cenv.locals; rw [hL]; exact Nat.le_refl _,
   fun y z c e1 e2=>?_,fun y hy=>?_,fun y c z e=>?_,I.ok.hd,I.ok.frames,.inl rfl,fun b hb=>⟨?_,fun y c e z=>?_⟩,I.bs,Nat.le_trans I.ok.bsz I.sz,fun b o e hb=>?_,fun b hb z=>?_,I.stack,I.stkFree⟩
  ·have e1 : cenv.cells.lookup y = some c:=e1
   have e2 : cenv.cells.lookup z = some c:=e2
   rw [hcl] at e1 e2
   refine cells_inj (fun p hp=>?_) (fun y z c a b=>I.ok.inj y z c (cm a).1 (cm b).1) (PySem.mem_of_lookup e1) (PySem.mem_of_lookup e2)
   rw [Heap.size_push]
   exact Nat.lt_succ_of_lt (cm (y:=p.1) (c:=p.2) hp).2
  ·show ∃ c,cenv.cells.lookup y = some c
   have key : ∀ k,cenv.kindOf y = some k→(k = .cell∨k = .free)→∃ c,cenv.cells.lookup y = some c:=fun k hk hk'=>by
    unfold Env.kindOf at hk
    rw [hsc] at hk
    obtain ⟨k',e,r⟩:=lookup_relS hk
    have : k' = .cell∨k' = .free:=by
     rcases r with rfl | ⟨rfl,_⟩
     ·exact hk'
     ·exact .inr rfl
    rcases this with rfl | rfl
    ·obtain ⟨c,hm⟩:=cells_has (n:=(s.heap.push { cls:=.type "dict",data:=.dict #[] }).objs.size) (acc:=cloFrom X.env.cells scope.names []) (PySem.mem_of_lookup e)
     obtain ⟨c',e'⟩:=mem_lookup hm
     exact ⟨c',by rw [hcl]; exact e'⟩
    ·obtain ⟨c,h1,_⟩:=look e
     exact ⟨c,h1⟩
   rcases hy with hy | hy
   ·exact key _ hy (.inl rfl)
   ·exact key _ hy (.inr rfl)
  ·have z : (scope.names.lookup y == some NameKind.cell) = true:=z
   have z : scope.names.lookup y = some .cell:=by simpa using z
   have e : cenv.cells.lookup y = some c:=e
   rw [hcl] at e
   rcases cells_mem (PySem.mem_of_lookup e) with hm | ⟨_,h2,_⟩
   ·rcases cloFrom_mem hm with hm | ⟨h1,_⟩
    ·cases hm
    ·have q:=ok.uniq _ h1
     rw [z] at q; cases q
   ·rw [Heap.size_push] at h2
    exact Nat.le_of_succ_le h2
  ·show b ≠ cenv.locals
   rw [hL]; exact Nat.ne_of_lt (hfp b hb).2
  ·have e : cenv.cells.lookup y = some c:=e
   rcases mem e with ⟨h1,_⟩ | ⟨h1,_⟩
   ·exact (hfp b hb).1.2.2.2.2.1 y c h1 z
   ·have h2 : s.heap.objs.size + 1≤b:=by rw [← z]; exact h1
    exact absurd (Nat.lt_of_lt_of_le (hfp b hb).2 (Nat.le_of_succ_le h2)) (Nat.lt_irrefl _)
  ·rcases (hfp b hb).1.2.2.2.1 with z | z
   ·exact I.ok.noex b o e z
   ·exact absurd (Nat.lt_of_lt_of_le (Heap.lt_size e) (Nat.le_trans I.ok.bsz z)) (Nat.lt_irrefl _)
  ·rcases List.mem_cons.mp (I.stkSub b z) with z | z
   ·exact (hfp b hb).1.2.1 z
   ·exact (hfp b hb).1.2.2.1 z
 refine ⟨okB,rfl,I.bare,Un.kept kp,⟨fun _=>none,?_,fun i y av e1 e2 e3=>?_⟩,fun y c e=>?_,?_,fun y c e=>?_,fun p hp=>?_,I.hok.kept kp,by rw [wipe_length]; exact I.len⟩
 ·show Heap.Ns _ cenv.locals _
  rw [hL]
  exact Heap.Ns.keeps (Heap.Ns.new ..) fun b o e=>pushCells_keeps _ _ _ _ e
 ·obtain ⟨e2,hne⟩:=wipe_some e2
  have hfr : scope.names.lookup y = some .free∧(cenv.kindOf y = some .cell∨cenv.kindOf y = some .free):=by
   have key : ∀ k,cenv.scope.names.lookup y = some k→k = .local∨k = .cell∨k = .free→scope.names.lookup y = some .free∧(cenv.kindOf y = some .cell∨cenv.kindOf y = some .free):=fun k hk hk'=>by
    have hk0:=hk
    rw [hsc] at hk
    obtain ⟨k',e,r⟩:=lookup_relS hk
    have no : ¬ (k' = .local∨k' = .cell):=fun hh=>by
     rcases ok.own _ (PySem.mem_of_lookup e) hh with e' | e'
     ·obtain ⟨p,hp,hpy⟩:=List.mem_map.mp e'
      have e3:=ok.ix p hp
      have : p.1 = y:=hpy
      rw [this] at e3
      exact hne (List.mem_map.mpr ⟨p,hp,nodup_ix hN e3 e1⟩)
     ·exact e' (List.mem_of_getElem? e1)
    rcases r with rfl | ⟨rfl,rfl⟩
    ·rcases hk' with rfl | rfl | rfl
     ·exact absurd (.inl rfl) no
     ·exact absurd (.inr rfl) no
     ·exact ⟨e,.inr hk0⟩
    ·exact ⟨e,.inl hk0⟩
   have e3 : Vis cenv.scope y:=e3
   rcases e3 with e3 | e3 | e3
   ·exact key _ e3 (.inl rfl)
   ·exact key _ e3 (.inr (.inl rfl))
   ·exact key _ e3 (.inr (.inr rfl))
  obtain ⟨m,hn,hl⟩:=I.loc
  have hvis : Vis X.env.scope y:=(ok.free _ (PySem.mem_of_lookup hfr.1) rfl).elim (fun k=>.inr (.inl k)) (fun k=>.inr (.inr k))
  obtain ⟨w,r,q⟩:=hl i y av e1 e2 hvis
  refine ⟨w,r,.inr ⟨hfr.2,?_⟩⟩
  obtain ⟨c,h1,h2⟩:=look hfr.1
  rcases q with ⟨k,_⟩ | ⟨_,c',e',z⟩
  ·have k : X.env.scope.names.lookup y = some .local:=k
   rcases ok.free _ (PySem.mem_of_lookup hfr.1) rfl with k' | k' <;> rw [show X.env.scope.names.lookup y = _ from k'] at k <;> cases k
  ·rw [h2] at e'; cases e'
   exact ⟨c,h1,z.keeps kp⟩
 ·have e : cenv.cells.lookup y = some c:=e
  rcases mem e with ⟨h1,_⟩ | ⟨_,z⟩
  ·obtain ⟨w,z⟩:=I.cell y c h1
   exact ⟨w,z.keeps kp⟩
  ·exact ⟨_,z⟩
 ·show H cenv.locals = none
  rw [hL]; exact I.hok.fresh (Nat.le_refl _)
 ·have e : cenv.cells.lookup y = some c:=e
  rcases mem e with ⟨h1,_⟩ | ⟨h1,_⟩
  ·exact I.freeC y c h1
  ·exact I.hok.fresh (Nat.le_of_succ_le h1)
 ·exact absurd (show p ∈ ([] : List (Addr × Obj))++[] from hp) (by simp)
theorem app_ok {E : Value→Shared→Prop} {D : Addr} {xs : List V} {y : V} {v : Value} {Q : Value→Shared→Prop} (I : Inv X pins σ H s) (hD : H D = some (.lst xs)) (hz : xs.length < sizeLine) (r : RelV y v)
  (h : ∀ s',Inv X pins σ (upd H D (.lst (xs++[y]))) s'→Q .none s') : wpAny (model X.prog X.w) X.A (call (.builtin "list.append") [.ref D,v]) Q E s:=by
 obtain ⟨hz',its,n,ri,e⟩:=I.hok D _ hD
 have hl:=ri.length
 refine append_at (hsz:=by rw [List.size_toArray]; omega) e fun h' sb ho'=>?_
 refine h { s with heap:=h' } (I.write (t':=s.toks) (by rw [hD]; trivial) (.inl rfl) (fun b u hb q=>(sb.2 b hb).trans q) ⟨_,ho'⟩ ⟨by rw [List.length_append]; exact hz,its++[v],n + 1,ri.append (.cons r .nil),?_⟩)
 rw [ho']
 simp
def PTs (X : Cx) (ifs : List Expr) (t : TT) : Prop :=
 ∀ (pins : List (Addr × Obj)) (s : Shared) (σ : St) (H : Hp) (Q : Bool→Hp→Prop),Inv X pins σ H s→t σ H Q →
  wpAny (model X.prog X.w) X.A (forIn ifs true fun c r=>if r = true then do let ok ← isTrue c X.env (eval c X.env); pure (ForInStep.yield ok) else pure (ForInStep.yield r)) (TP X pins σ Q) X.xe s
def tYes : TT:=fun _ H Q=>Q true H
theorem pts_nil : PTs X [] tYes:=fun _ _ _ H _ I h=>wpAny_tests_nil ⟨H,I,h⟩
end
theorem thnF {α : Type} {t : Sem α} {Q Q' : α→Shared→Prop} {M : Model} {A : Around} {E : Value→Shared→Prop} {s : Shared} (h : wpAny M A t Q (fun _ _=>False) s) (hQ : ∀ a s,Q a s→Q' a s) : wpAny M A t Q' E s:=wpAny_mono h hQ fun _ _ z=>False.elim z
theorem compLoop_any {prog : Program} {w : World} {A : Around} {R : Result→Shared→Prop} {s : Shared} {elt target iter : Expr} {ifs : List Expr} {scope : Scope} {pos : Pos} {it acc : Value} {env : Env} (I : Nat→Shared→Prop)
  (turn : ∀ n s,I n s→wpAny (model prog w) A (pyNext it) (fun r s₁=>match r with
   | none=>R (.ok .next) s₁
   | some v=>wpAny (model prog w) A (letOwnedTupleGo target it v) (fun _ s₁'=>wpAny (model prog w) A (assign target env v) (fun _ s₂ =>
     wpAny (model prog w) A (forIn ifs true fun c r=>if r = true then do let ok ← isTrue c env (eval c env); pure (ForInStep.yield ok) else pure (ForInStep.yield r)) (fun ok s₃ =>
      if ok = true then wpAny (model prog w) A (eval elt env) (fun x s₄ =>
       wpAny (model prog w) A (call (.builtin "list.append") [acc,x]) (fun _ s₅=>∃ m,m < n∧I m s₅) (notedBy (model prog w) A env fun e s'=>R (.error e) s') s₄) (notedBy (model prog w) A env fun e s'=>R (.error e) s') s₃
      else ∃ m,m < n∧I m s₃) (notedBy (model prog w) A env fun e s'=>R (.error e) s') s₂) (notedBy (model prog w) A env fun e s'=>R (.error e) s') s₁') (notedBy (model prog w) A env fun e s'=>R (.error e) s') s₁) (notedBy (model prog w) A env fun e s'=>R (.error e) s') s)
  (n : Nat) (h : I n s) :
  codeAny (model prog w) A (.compLoop (.ListComp elt [⟨target,iter,ifs,0⟩] scope pos) 0 it acc env) R s:=by
 refine codeAny_loop rfl I (fun n s hI=>?_) n h
 show wpAny _ A ((compTurn (.ListComp elt [⟨target,iter,ifs,0⟩] scope pos) 0 it acc env).onRaise (fun x=>do noteFrame x env; theTreesLotGoes x)) _ _ s
 refine wpAny_noted ?_
 rw [compTurn_list]
 refine wpAny_bind (wpAny_standAt (wpAny_bind (wpAny_mono (turn n s hI) (fun r s₁ h₁=>?_) fun _ _ h'=>h')))
 cases r with
 | none=>exact wpAny_pure h₁
 | some v =>
  refine wpAny_bind (wpAny_mono h₁ (fun _ s₁' h₁'=>?_) fun _ _ h'=>h')
  refine wpAny_bind (wpAny_mono h₁' (fun _ s₂ h₂=>wpAny_bind (wpAny_mono h₂ (fun ok s₃ h₃=>?_) fun _ _ h'=>h')) fun _ _ h'=>h')
  cases ok with
  | false=>exact wpAny_pure ⟨rfl,h₃⟩
  | true =>
   exact wpAny_bind (wpAny_bind (wpAny_mono h₃ (fun x s₄ h₄=>wpAny_bind (wpAny_mono h₄ (fun _ s₅ h₅=>wpAny_pure (wpAny_pure ⟨rfl,h₅⟩)) fun _ _ h'=>h')) fun _ _ h'=>h'))
section
variable {X : Cx}
def tLc (wi : TI) (g : TG) (tt : TT) (te : TE) (vs : List Nat) : TE:=fun σ H Q=>wi σ H fun J H1=>∀ D,H1 D = none→∃ W : Nat→Nat→Hp→Prop,(∃ m,W 0 m (upd H1 D (.lst [])))∧∀ i m H,W i m H →
 (J.stop i H∧Q (.ref D) H)∨(J.go i H∧∃ Nx : Hp→Prop,(∀ H',Nx H'→∃ m',m' < m∧W (i + 1) m' H')∧∀ x H',J.yld i H x H'→g x (wipe σ vs) H' fun σ2 H2=>wipe σ2 vs = wipe σ vs∧tt σ2 H2 fun b H3 =>
  if b = true then te σ2 H3 fun y H4=>∃ acc,H4 D = some (.lst acc)∧acc.length < sizeLine∧Nx (upd H4 D (.lst (acc++[y]))) else Nx H3)
theorem lc_core {pins : List (Addr × Obj)} {s : Shared} {σ : St} {H : Hp} {Q : VK} {elt tg iter : Expr} {ifs : List Expr} {scope : Scope} {own : List (Str × Nat)} {pos pos' : Pos} {wi : TI} {g : TG} {tt : TT} {te : TE} {use : Option (Value→Sem Unit)} {Qf : Value→Shared→Prop}
  (hc : X.calm = true) (hN : X.N.Nodup) (I : Inv X pins σ H s) (hi : PI X tg iter wi) (ok : BlkOk X.N X.env.scope scope own)
  (hg : ∀ (s : Shared) (H : Hp) (C : Addr) (cl : List (Str × Addr)) (fp : List Addr),PG (X.blk s H scope (compEnvC scope cl C X.env) fp) tg g) (ht : ∀ (s : Shared) (H : Hp) (C : Addr) (cl : List (Str × Addr)) (fp : List Addr),PTs (X.blk s H scope (compEnvC scope cl C X.env) fp) ifs tt)
  (he : ∀ (s : Shared) (H : Hp) (C : Addr) (cl : List (Str × Addr)) (fp : List Addr),PE (X.blk s H scope (compEnvC scope cl C X.env) fp) elt te) (hs : ∀ x,foldedSetIterable iter X.env x = pure x)
  (h : tLc wi g tt te (own.map (·.2)) σ H Q)
  (hRR : ∀ D C s' m H',Inv X pins σ H' s'→Q (.ref D) H'→s'.heap.Ns C m→FpOk X pins H' C→compPost (model X.prog X.w) X.A X.xe use Qf (.ref D) C (.ok .next) s') :
  wpAny (model X.prog X.w) X.A (comprehension (.ListComp elt [⟨tg,iter,ifs,0⟩] scope pos) scope X.env pos' (newList []) false (eval iter X.env) use) Qf X.xe s:=by
 have hfree : ∀ y ∈ scope.names,y.2 = .free→∃ c,X.env.cells.lookup y.1 = some c:=fun y hy e=>by
  rcases ok.free y hy e with k | k
  ·exact I.ok.has _ (.inl k)
  ·exact I.ok.has _ (.inr k)
 refine wpAny_comprehension_free (use:=use) rfl hs (closure_ok hfree) ok.kind (fun y hy e=>by rw [ok.uniq y hy,e])
  (thn (hi pins s σ H _ I h) fun xv s1 hx=>thn hx fun itv s2 h2=>?_)
 obtain ⟨it,fp,tn,J,H2,e,I2,T,st2,f2,q⟩:=h2
 subst e
 refine wpAny_newObj_type (newEnv_comp ?_) (by show 0≤sizeLine; decide)
 generalize hD : s2.heap.objs.size = D
 have hDn : H2 D = none:=I2.hok.fresh (Nat.le_of_eq hD)
 obtain ⟨W,⟨m0,w0⟩,turn⟩:=q D hDn
 generalize hs3 : ({ s2 with heap:=s2.heap.push { cls:=.type "list",data:=.seq ([] : List Value).toArray } } : Shared) = s3
 have I3 : Inv X pins σ (upd H2 D (.lst [])) s3:=by
  rw [← hs3]
  refine I2.laid (t':=s2.toks) (fun b o e=>Heap.get?_push_of_some _ e) (Nat.le_of_eq hD) ⟨Nat.zero_le _,[],0,.nil,?_⟩
  rw [← hD]
  exact Heap.get?_push_size _ rfl
 have h3 : s3.heap = s2.heap.push { cls:=.type "list",data:=.seq ([] : List Value).toArray }:=by rw [← hs3]
 have sz : ∀ b ∈ fp,b < s2.heap.objs.size:=fun b hb=>by
  obtain ⟨o,e,_⟩:=T.obj _ _ st2 b hb
  exact Heap.lt_size e
 have f3 : ∀ b ∈ fp,FpOk X pins (upd H2 D (.lst [])) b∧b < s3.heap.objs.size:=fun b hb=>by
  have hlt:=sz b hb
  refine ⟨⟨?_,(f2 b hb).2⟩,by rw [h3,Heap.size_push]; exact Nat.lt_succ_of_lt hlt⟩
  rw [upd_ne (by rw [← hD]; exact Nat.ne_of_lt hlt)]
  exact (f2 b hb).1
 have st3 : tn 0 s3.heap:=T.keep _ _ _ st2 fun b _ o e=>by rw [h3]; exact Heap.get?_push_of_some _ e
 have I4:=block_start I3 ok hN f3
 have pg:=hg s3 (upd H2 D (.lst [])) s3.heap.objs.size (cellsFrom (s3.heap.objs.size + 1) scope.names (cloFrom X.env.cells scope.names [])) fp
 have pt:=ht s3 (upd H2 D (.lst [])) s3.heap.objs.size (cellsFrom (s3.heap.objs.size + 1) scope.names (cloFrom X.env.cells scope.names [])) fp
 have pe:=he s3 (upd H2 D (.lst [])) s3.heap.objs.size (cellsFrom (s3.heap.objs.size + 1) scope.names (cloFrom X.env.cells scope.names [])) fp
 show codeAny _ _ (.compStart (.ListComp elt [⟨tg,iter,ifs,0⟩] scope pos) 0 (.ref it) (.ref D) (compEnvC scope (cellsFrom (s3.heap.objs.size + 1) scope.names (cloFrom X.env.cells scope.names [])) s3.heap.objs.size X.env)) (compPost (model X.prog X.w) X.A X.xe use Qf (.ref D) s3.heap.objs.size) { s3 with heap:=pushCells (s3.heap.push { cls:=.type "dict",data:=.dict #[] }) scope.names }
 have nfp : ∀ b ∈ fp,(upd H2 D (.lst [])) b = none:=fun b hb=>(f3 b hb).1.1
 generalize hce : compEnvC scope (cellsFrom (s3.heap.objs.size + 1) scope.names (cloFrom X.env.cells scope.names [])) s3.heap.objs.size X.env = ce at I4 pg pt pe ⊢
 have cL : ce.locals = s3.heap.objs.size:=by subst hce; rfl
 generalize hH3 : upd H2 D (.lst []) = H3 at I3 I4 pg pt pe w0 nfp f3
 generalize hs4 : ({ s3 with heap:=pushCells (s3.heap.push { cls:=.type "dict",data:=.dict #[] }) scope.names } : Shared) = s4 at I4 ⊢
 have st4 : tn 0 s4.heap:=T.keep _ _ _ st3 fun b _ o e=>by rw [← hs4]; exact pushCells_keeps _ _ _ _ (Heap.get?_push_of_some _ e)
 have stat : ∀ {σ' : St} {H' : Hp} {s' : Shared},Inv (X.blk s3 H3 scope ce fp) [] σ' H' s'→(∀ b ∈ fp,H' b = none)→∀ b ∈ fp,FpOk (X.blk s3 H3 scope ce fp) [] H' b:=fun {σ' H' s'} I' hn b hb =>
  ⟨hn b hb,(I'.ok.exf b hb).1,I'.ok.exfs b hb,.inl hb,fun x c e=>(I'.ok.exf b hb).2 x c e,fun p hp=>absurd (show p ∈ ([] : List (Addr × Obj))++[] from hp) (by simp)⟩
 have loop : codeAny (model X.prog X.w) X.A (.compLoop (.ListComp elt [⟨tg,iter,ifs,0⟩] scope pos) 0 (.ref it) (.ref D) ce) (compPost (model X.prog X.w) X.A X.xe use Qf (.ref D) s3.heap.objs.size) s4:=by
  refine compLoop_any (fun n s'=>∃ i H',Inv (X.blk s3 H3 scope ce fp) [] (wipe σ (own.map (·.2))) H' s'∧tn i s'.heap∧(∀ b ∈ fp,H' b = none)∧W i n H') ?_ m0 ⟨0,H3,I4,st4,nfp,w0⟩
  rintro n s5 ⟨i,H5,I5,st5,n5,w5⟩
  rcases turn i n H5 w5 with ⟨stop,qq⟩ | ⟨go,Nx,hNx,step⟩
  ·have td:=T.done (X.blk s3 H3 scope ce fp) rfl rfl rfl hc i [] s5 _ H5 (fun _ _=>False) I5 (stat I5 n5) st5 stop
   refine thnF td fun r s6 ⟨hr,I6⟩=>?_
   subst hr
   have I7 : Inv X pins σ H5 s6:=I3.call' (ch:=fp) I6.os I6.base I6.hok I6.bare fun b hb=>⟨(f3 b hb).1.2.2.2.1,(f3 b hb).1.2.1,(f3 b hb).1.2.2.2.2.1,(f3 b hb).1.2.2.2.2.2⟩
   have nC : H5 s3.heap.objs.size = none:=by
    have z : H5 ce.locals = none:=I6.free
    rw [cL] at z
    exact z
   obtain ⟨m,hn,_⟩:=I6.loc
   have hn : s6.heap.Ns ce.locals m:=hn
   rw [cL] at hn
   exact hRR D s3.heap.objs.size s6 m H5 I7 qq hn (I3.fpOk (Nat.le_refl _) nC)
  ·have ti:=T.item (X.blk s3 H3 scope ce fp) rfl rfl rfl hc i [] s5 _ H5 (fun _ _=>False) I5 (stat I5 n5) st5 go
   refine thnF ti fun r s6 ⟨u,hr,h6⟩=>?_
   subst hr
   refine thnF h6 fun _ s7 ⟨x,H7,I7,r7,y7,st7,n7⟩=>?_
   have I7':=I7.pinned (stat I7 n7) (T.obj _ _ st7)
   refine thnF (pg _ s7 _ H7 x u _ I7' r7 (step x H7 y7)) fun _ s8 ⟨σ8,H8,I8,hw8,q8⟩=>?_
   refine thnF (pt _ s8 σ8 H8 _ I8 q8) fun b s9 ⟨H9,I9,q9⟩=>?_
   have fin : ∀ {s' : Shared} {H' : Hp},Inv (X.blk s3 H3 scope ce fp) ([]++pinsAt fp s7.heap) σ8 H' s'→Nx H'→∃ m,m < n∧∃ i H',Inv (X.blk s3 H3 scope ce fp) [] (wipe σ (own.map (·.2))) H' s'∧tn i s'.heap∧(∀ b ∈ fp,H' b = none)∧W i m H':=fun {s' H'} I' nx=>by
    obtain ⟨m',hm,w'⟩:=hNx H' nx
    have pin' : ∀ b ∈ fp,∀ o,s7.heap.get? b = some o→s'.heap.get? b = some o∧H' b = none:=fun b hb o e =>
     let z:=I'.pin (b,o) (List.mem_append_right _ (List.mem_append_right _ (mem_pinsAt hb e)))
     ⟨z.1,z.2.1⟩
    have hl : (wipe σ (own.map (·.2))).length = σ8.length:=by rw [← hw8,wipe_length]
    refine ⟨m',hm,i + 1,H',(I'.unpinned (pins:=[])).weak hl (fun j v e=>?_),T.keep _ _ _ st7 fun b hb o e=>(pin' b hb o e).1,fun b hb=>?_,w'⟩
    ·rw [← hw8] at e
     exact (wipe_some e).1
    ·obtain ⟨o,e,_⟩:=T.obj _ _ st7 b hb
     exact (pin' b hb o e).2
   cases b with
   | false =>
    simp only [Bool.false_eq_true,if_false] at q9 ⊢
    exact fin I9 q9
   | true =>
    simp only [if_true] at q9 ⊢
    refine thnF (pe _ s9 σ8 H9 _ I9 q9) fun z s10 ⟨yv,H10,I10,r10,acc,hD10,hz10,nx⟩=>?_
    exact app_ok (X:=X.blk s3 H3 scope ce fp) I10 hD10 hz10 r10 fun s11 I11=>fin I11 nx
 exact codeAny_compStart_list loop (T.self X.A 0 _ _ _ st4 loop)
theorem pe_lc {elt tg iter : Expr} {ifs : List Expr} {scope : Scope} {own : List (Str × Nat)} {pos : Pos} {wi : TI} {g : TG} {tt : TT} {te : TE} (hc : X.calm = true) (hN : X.N.Nodup) (hi : PI X tg iter wi) (ok : BlkOk X.N X.env.scope scope own)
  (hg : ∀ (s : Shared) (H : Hp) (C : Addr) (cl : List (Str × Addr)) (fp : List Addr),PG (X.blk s H scope (compEnvC scope cl C X.env) fp) tg g) (ht : ∀ (s : Shared) (H : Hp) (C : Addr) (cl : List (Str × Addr)) (fp : List Addr),PTs (X.blk s H scope (compEnvC scope cl C X.env) fp) ifs tt)
  (he : ∀ (s : Shared) (H : Hp) (C : Addr) (cl : List (Str × Addr)) (fp : List Addr),PE (X.blk s H scope (compEnvC scope cl C X.env) fp) elt te) (hs : ∀ x,foldedSetIterable iter X.env x = pure x:=by intro _; rfl) :
  PE X (.ListComp elt [⟨tg,iter,ifs,0⟩] scope pos) (tLc wi g tt te (own.map (·.2))):=by
 intro pins s σ H Q I h
 rw [eval_ListComp]
 refine lc_core hc hN I hi ok hg ht he hs h fun D C s' m H' I' q hn f=>⟨m,hn,fun h'' sb=>?_⟩
 obtain ⟨f0,f1,f2,f3,f4,f5⟩:=f
 exact ⟨.ref D,H',I'.turned (t':=s'.toks) (fun b o hb e=>(sb.2 b hb).trans e) f0 f1 f3 f4 f5,rfl,q⟩
theorem ps_setLc {i : Nat} {y : Str} {py : Pos} {elt tg iter : Expr} {ifs : List Expr} {scope : Scope} {own : List (Str × Nat)} {pos spos : Pos} {wi : TI} {g : TG} {tt : TT} {te : TE} (hc : X.calm = true) (hN : X.N.Nodup) (hy : X.N[i]? = some y) (hyl : X.env.scope.names.lookup y = some .local)
  (hsw : swapsWith (.ListComp elt [⟨tg,iter,ifs,0⟩] scope pos) (some (.Name y py)) spos.line X.env = pure true) (hi : PI X tg iter wi) (ok : BlkOk X.N X.env.scope scope own)
  (hg : ∀ (s : Shared) (H : Hp) (C : Addr) (cl : List (Str × Addr)) (fp : List Addr),PG (X.blk s H scope (compEnvC scope cl C X.env) fp) tg g) (ht : ∀ (s : Shared) (H : Hp) (C : Addr) (cl : List (Str × Addr)) (fp : List Addr),PTs (X.blk s H scope (compEnvC scope cl C X.env) fp) ifs tt)
  (he : ∀ (s : Shared) (H : Hp) (C : Addr) (cl : List (Str × Addr)) (fp : List Addr),PE (X.blk s H scope (compEnvC scope cl C X.env) fp) elt te) (hs : ∀ x,foldedSetIterable iter X.env x = pure x:=by intro _; rfl) :
  PS X (.Assign [.Name y py] (.ListComp elt [⟨tg,iter,ifs,0⟩] scope pos) spos) (tAsg (tLc wi g tt te (own.map (·.2))) (gName i)):=by
 intro pins s σ H D I h
 rw [exec_Assign_Name_used _ _ _ _ hsw]
 refine wpAny_bind (wpAny_standAt (wpAny_bind ?_))
 show wpAny _ X.A (do let _ ← comprehension (.ListComp elt [⟨tg,iter,ifs,0⟩] scope pos) scope X.env (firstIterPos [⟨tg,iter,ifs,0⟩] pos) (newList []) false (eval iter X.env) (some (assign (.Name y py) X.env))) _ _ s
 have h : tLc wi g tt te (own.map (·.2)) σ H (fun x H1=>gName i x σ H1 D.nx):=h
 refine wpAny_bind (thn (lc_core (Qf:=fun _ s'=>SP X pins D .next s') hc hN I hi ok hg ht he hs h fun L C s' m H' I' q hn f=>?_) fun _ s' hq=>wpAny_pure (wpAny_pure hq))
 show wpAny _ _ (assign (.Name y py) X.env (.ref L)) _ _ _
 refine wpAny_assign_Name (store_ok2 (v:=V.ref L) I' hN hy (.inl hyl) rfl (fun s2 I2 ⟨a,sb,ha⟩=>?_) (.inr hyl))
 obtain ⟨f0,f1,f2,f3,f4,f5⟩:=f
 have haC : C ≠ a:=by
  rcases ha with z | z
  ·rw [z]; exact f1
  ·exact fun e=>f4 y a z e.symm
 refine ⟨m,hn.sameBut sb haC,fun h3 sb3=>?_⟩
 exact ⟨_,H',I2.turned (t':=s2.toks) (fun b o hb e=>(sb3.2 b hb).trans e) f0 f1 f3 f4 f5,q⟩
theorem sw_true {elt : Expr} {gs : List Comprehension} {scope : Scope} {pos py : Pos} {y : Str} {l : Nat} {env : Env} (hk : env.scope.kind = .function) (hy : env.scope.names.lookup y = some .local) (hl : (py.line == pos.line) = true)
  (ha : (scope.names.any fun (n,k)=>n == y && (k == .local || k == .cell)) = false) : swapsWith (.ListComp elt gs scope pos) (some (.Name y py)) l env = pure true:=by
 have ky : env.kindOf y = some .local:=hy
 have hb : env.blockKind = .function:=by unfold Env.blockKind; rw [hk]; rfl
 unfold swapsWith
 simp only [hb,ky,ha,Expr.pos,hl]
 rfl
end
theorem lc_range {lo : Int} {n : Nat} {g : TG} {tt : TT} {te : TE} {vs : List Nat} {σ : St} {H1 : Hp} {D : Addr} {Qd : Hp→Prop} (Pv : Nat→Hp→Prop) (h0 : Pv 0 (upd H1 D (.lst [])))
  (hs : ∀ i H,i < n→Pv i H→g (.int (lo + i)) (wipe σ vs) H fun σ2 H2=>wipe σ2 vs = wipe σ vs∧tt σ2 H2 fun b H3 =>
   if b = true then te σ2 H3 fun y H4=>∃ acc,H4 D = some (.lst acc)∧acc.length < sizeLine∧Pv (i + 1) (upd H4 D (.lst (acc++[y]))) else Pv (i + 1) H3) (hd : ∀ H,Pv n H→Qd H) :
  ∃ W : Nat→Nat→Hp→Prop,(∃ m,W 0 m (upd H1 D (.lst [])))∧∀ i m H,W i m H →
   ((Itr lo n).stop i H∧Qd H)∨((Itr lo n).go i H∧∃ Nx : Hp→Prop,(∀ H',Nx H'→∃ m',m' < m∧W (i + 1) m' H')∧∀ x H',(Itr lo n).yld i H x H'→g x (wipe σ vs) H' fun σ2 H2=>wipe σ2 vs = wipe σ vs∧tt σ2 H2 fun b H3 =>
    if b = true then te σ2 H3 fun y H4=>∃ acc,H4 D = some (.lst acc)∧acc.length < sizeLine∧Nx (upd H4 D (.lst (acc++[y]))) else Nx H3):=by
 refine ⟨fun i m H=>m = n - i∧i≤n∧Pv i H,⟨n,by simp,Nat.zero_le _,h0⟩,?_⟩
 rintro i m H ⟨rfl,hi,p⟩
 by_cases hlt : i < n
 ·refine .inr ⟨hlt,Pv (i + 1),fun H' p'=>⟨n - (i + 1),by omega,rfl,hlt,p'⟩,fun x H' y=>?_⟩
  obtain ⟨e,y⟩:=y
  subst e y
  exact hs i _ hlt p
 ·have e : i = n:=by omega
  subst e
  exact .inl ⟨Nat.le_refl _,hd H p⟩
theorem lc_list {K : PySem.W.Frag} {a : Addr} {xs : List V} {g : TG} {tt : TT} {te : TE} {vs : List Nat} {σ : St} {H1 : Hp} {D : Addr} {Qd : Hp→Prop} (Pv : Nat→Hp→Prop) (h0 : Pv 0 (upd H1 D (.lst []))) (hl : ∀ i H,i≤xs.length→Pv i H→SqL K H a xs)
  (hs : ∀ i x H,xs[i]? = some x→Pv i H→g x (wipe σ vs) H fun σ2 H2=>wipe σ2 vs = wipe σ vs∧tt σ2 H2 fun b H3 =>
   if b = true then te σ2 H3 fun y H4=>∃ acc,H4 D = some (.lst acc)∧acc.length < sizeLine∧Pv (i + 1) (upd H4 D (.lst (acc++[y]))) else Pv (i + 1) H3) (hd : ∀ H,Pv xs.length H→Qd H) :
  ∃ W : Nat→Nat→Hp→Prop,(∃ m,W 0 m (upd H1 D (.lst [])))∧∀ i m H,W i m H →
   ((Itl K a).stop i H∧Qd H)∨((Itl K a).go i H∧∃ Nx : Hp→Prop,(∀ H',Nx H'→∃ m',m' < m∧W (i + 1) m' H')∧∀ x H',(Itl K a).yld i H x H'→g x (wipe σ vs) H' fun σ2 H2=>wipe σ2 vs = wipe σ vs∧tt σ2 H2 fun b H3 =>
    if b = true then te σ2 H3 fun y H4=>∃ acc,H4 D = some (.lst acc)∧acc.length < sizeLine∧Nx (upd H4 D (.lst (acc++[y]))) else Nx H3):=by
 refine ⟨fun i m H=>m = xs.length - i∧i≤xs.length∧Pv i H,⟨xs.length,by simp,Nat.zero_le _,h0⟩,?_⟩
 rintro i m H ⟨rfl,hi,p⟩
 have q:=hl i H hi p
 by_cases hlt : i < xs.length
 ·refine .inr ⟨⟨xs,xs[i],q,by simp [hlt]⟩,Pv (i + 1),fun H' p'=>⟨xs.length - (i + 1),by omega,rfl,hlt,p'⟩,fun x H' y=>?_⟩
  obtain ⟨e,y⟩:=y
  subst e
  exact hs i x _ (y xs q) p
 ·have e : i = xs.length:=by omega
  subst e
  exact .inl ⟨⟨xs,q,Nat.le_refl _⟩,hd H p⟩
def blkC (N : List Str) (sc scope : Scope) (own : List (Str × Nat)) : Bool :=
 (match scope.kind with | .function=>true | _=>false) && (scope.names.all fun y=>decide (scope.names.lookup y.1 = some y.2)) && (own.all fun p=>decide (N[p.2]? = some p.1)) &&
  (scope.names.all fun y=>match y.2 with
   | .free=>(match sc.names.lookup y.1 with | some .cell=>true | some .free=>true | _=>false)
   | .local=>decide (y.1 ∈ own.map (·.1)) || decide (y.1 ∉ N)
   | .cell=>decide (y.1 ∈ own.map (·.1)) || decide (y.1 ∉ N)
   | _=>true)
theorem blkOk_by {N : List Str} {sc scope : Scope} {own : List (Str × Nat)} (h : blkC N sc scope own = true) : BlkOk N sc scope own:=by
 unfold blkC at h
 simp only [Bool.and_eq_true,List.all_eq_true,decide_eq_true_eq] at h
 obtain ⟨⟨⟨h1,h2⟩,h3⟩,h4⟩:=h
 refine ⟨?_,h2,h3,fun y hy e=>?_,fun y hy e=>?_⟩
 ·split at h1
  ·assumption
  ·cases h1
 ·have q:=h4 y hy
  simp only [e] at q
  split at q <;> first | exact .inl (by assumption) | exact .inr (by assumption) | cases q
 ·have q:=h4 y hy
  rcases e with e | e <;> (simp only [e,Bool.or_eq_true,decide_eq_true_eq] at q; exact q)
end L2
namespace L2
open PySem PySem.Spec PyProof.Rows
end L2
namespace L2
open PySem PySem.Spec PyProof.Rows
section
variable {κ : Type} [DecidableEq κ]
def valV (kvs : List (κ × V)) (k : κ) : Option V:=(kvs.find? fun kv=>decide (kv.1 = k)).map (·.2)
def putK (kvs : List (κ × V)) (k : κ) (v : V) : List (κ × V) :=
 if (kvs.any fun kv=>decide (kv.1 = k)) = true then kvs.map (fun kv=>if kv.1 = k then (kv.1,v) else kv) else kvs++[(k,v)]
theorem valV_pos {p : κ × V} {r : List (κ × V)} {k : κ} (e : p.1 = k) : valV (p::r) k = some p.2:=by simp [valV,List.find?_cons,e]
theorem valV_neg {p : κ × V} {r : List (κ × V)} {k : κ} (e : ¬ p.1 = k) : valV (p::r) k = valV r k:=by simp [valV,List.find?_cons,e]
theorem valV_any (k : κ) : ∀ kvs : List (κ × V),(kvs.any fun kv=>decide (kv.1 = k)) = (valV kvs k).isSome
 | []=>rfl
 | p::r=>by
  rw [List.any_cons]
  by_cases e : p.1 = k
  ·simp only [valV_pos e,decide_eq_true e,Bool.true_or,Option.isSome_some]
  ·rw [valV_neg e,decide_eq_false e,Bool.false_or]; exact valV_any k r
theorem length_putK (kvs : List (κ × V)) (k : κ) (v : V) : (putK kvs k v).length≤kvs.length + 1:=by
 unfold putK
 split
 ·rw [List.length_map]; omega
 ·rw [List.length_append,List.length_cons,List.length_nil]; omega
theorem putK_new {kvs : List (κ × V)} {k : κ} (v : V) (h : valV kvs k = none) : putK kvs k v = kvs++[(k,v)]:=by
 unfold putK
 rw [valV_any,h]
 exact if_neg (by decide)
theorem RelO.isSome_eq {o : Option V} {u : Option Value} (r : RelO o u) : o.isSome = u.isSome:=by
 cases o with
 | none=>cases u with
  | none=>rfl
  | some _=>exact (show False from r).elim
 | some _=>cases u with
  | none=>exact (show False from r).elim
  | some _=>rfl
theorem RelO.getD {o : Option V} {u : Option Value} {d : V} {d' : Value} (r : RelO o u) (rd : RelV d d') : RelV (o.getD d) (u.getD d'):=by
 cases o with
 | none=>cases u with
  | none=>exact rd
  | some _=>exact (show False from r).elim
 | some _=>cases u with
  | none=>exact (show False from r).elim
  | some _=>exact r
theorem KV.val {kvs : List (κ × V)} {vs : List (κ × Value)} (r : KV kvs vs) (k : κ) : RelO (valV kvs k) (valueAt vs k):=by
 unfold KV at r
 induction r with
 | nil=>exact True.intro
 | @cons p q ps qs h t ih =>
  obtain ⟨h1,h2⟩:=h
  by_cases e : p.1 = k
  ·have e' : q.1 = k:=h1.symm.trans e
   have b : valueAt (q::qs) k = some q.2:=by simp [valueAt,List.find?_cons,e']
   rw [valV_pos e,b]; exact h2
  ·have e' : ¬ q.1 = k:=fun z=>e (h1.trans z)
   have b : valueAt (q::qs) k = valueAt qs k:=by simp [valueAt,List.find?_cons,e']
   rw [valV_neg e,b]; exact ih
theorem KV.any {kvs : List (κ × V)} {vs : List (κ × Value)} (r : KV kvs vs) (k : κ) : (kvs.any fun kv=>decide (kv.1 = k)) = vs.any fun kv=>decide (kv.1 = k):=by
 unfold KV at r
 induction r with
 | nil=>rfl
 | cons h t ih=>rw [List.any_cons,List.any_cons,ih,h.1]
theorem KV.repl {kvs : List (κ × V)} {vs : List (κ × Value)} (r : KV kvs vs) (k : κ) {y : V} {u : Value} (ry : RelV y u) :
  KV (kvs.map fun kv=>if kv.1 = k then (kv.1,y) else kv) (vs.map fun kv=>if kv.1 = k then (kv.1,u) else kv):=by
 unfold KV at r ⊢
 induction r with
 | nil=>exact .nil
 | @cons p q ps qs h t ih =>
  rw [List.map_cons,List.map_cons]
  refine .cons ?_ ih
  obtain ⟨h1,h2⟩:=h
  by_cases e : p.1 = k
  ·rw [if_pos e,if_pos (h1.symm.trans e)]; exact ⟨h1,ry⟩
  ·rw [if_neg e,if_neg (fun z=>e (h1.trans z))]; exact ⟨h1,h2⟩
theorem KV.put {kvs : List (κ × V)} {vs : List (κ × Value)} (r : KV kvs vs) (k : κ) {y : V} {u : Value} (ry : RelV y u) : KV (putK kvs k y) (stored vs k u):=by
 unfold putK stored
 rw [r.any k]
 by_cases e : (vs.any fun kv=>decide (kv.1 = k)) = true
 ·rw [if_pos e,if_pos e]; exact r.repl k ry
 ·rw [if_neg e,if_neg e]; exact Paired.snoc r ⟨rfl,ry⟩
theorem KV.length {kvs : List (κ × V)} {vs : List (κ × Value)} (r : KV kvs vs) : kvs.length = vs.length:=Paired.length r
end
theorem kV_is {P : Program} {w : World} {k : Key} {u : Value} (r : RelV (kV k) u) : (mixKind P w).is k u = true:=by
 cases k with
 | inl i=>obtain ⟨t,e⟩:=(show ∃ t,u = Value.int i t from r); subst e; exact mixKind_int P w i t
 | inr x=>obtain ⟨t,e⟩:=(show ∃ t,u = Value.str x t from r); subst e; exact mixKind_str P w x t
theorem items_are {P : Program} {w : World} : ∀ {ks : List Key} {us : List Value},Vals (ks.map kV) us→ItemsAre (mixKind P w) ks us
 | [],_,r=>by rw [List.map_nil] at r; cases r; exact .nil
 | k::ks,_,r=>by
  rw [List.map_cons] at r
  cases r with
  | cons h t=>exact .cons (kV_is h) (items_are t)
abbrev KT (H : Hp) : List (List Key × V)→List (List Key × Addr × Value)→Prop:=Paired fun p q=>p.1 = q.1∧H q.2.1 = some (.tup (p.1.map kV))∧RelV p.2 q.2.2
theorem KT.val {H : Hp} {kvs : List (List Key × V)} {xs : List (List Key × Addr × Value)} (r : KT H kvs xs) (k : List Key) : RelO (valV kvs k) ((atKey xs k).map (·.2)):=by
 induction r with
 | nil=>exact True.intro
 | @cons p q ps qs h t ih =>
  obtain ⟨h1,_,h2⟩:=h
  by_cases e : p.1 = k
  ·have e' : q.1 = k:=h1.symm.trans e
   have b : atKey (q::qs) k = some q.2:=by simp [atKey,List.find?_cons,e']
   rw [valV_pos e,b]; exact h2
  ·have e' : ¬ q.1 = k:=fun z=>e (h1.trans z)
   have b : atKey (q::qs) k = atKey qs k:=by simp [atKey,List.find?_cons,e']
   rw [valV_neg e,b]; exact ih
theorem KT.repl {H : Hp} {kvs : List (List Key × V)} {xs : List (List Key × Addr × Value)} (r : KT H kvs xs) (k : List Key) {y : V} {u : Value} (ry : RelV y u) :
  KT H (kvs.map fun kv=>if kv.1 = k then (kv.1,y) else kv) (xs.map (putAt k u)):=by
 induction r with
 | nil=>exact .nil
 | @cons p q ps qs h t ih =>
  rw [List.map_cons,List.map_cons]
  refine .cons ?_ ih
  obtain ⟨h1,h2,h3⟩:=h
  unfold putAt
  by_cases e : p.1 = k
  ·rw [if_pos e,if_pos (h1.symm.trans e)]; exact ⟨h1,h2,ry⟩
  ·rw [if_neg e,if_neg (fun z=>e (h1.trans z))]; exact ⟨h1,h2,h3⟩
theorem KT.put {H : Hp} {kvs : List (List Key × V)} {xs : List (List Key × Addr × Value)} (r : KT H kvs xs) (k : List Key) {b : Addr} {y : V} {u : Value} (hb : H b = some (.tup (k.map kV))) (ry : RelV y u) :
  KT H (putK kvs k y) (storedH xs k b u):=by
 have e : (kvs.any fun kv=>decide (kv.1 = k)) = (atKey xs k).isSome:=by
  rw [valV_any,(r.val k).isSome_eq,Option.isSome_map]
 unfold putK storedH
 rw [e]
 by_cases q : (atKey xs k).isSome = true
 ·rw [if_pos q,if_pos q]; exact r.repl k ry
 ·rw [if_neg q,if_neg q]; exact Paired.snoc r ⟨rfl,hb,ry⟩
theorem KT.keeps {H H' : Hp} {kvs : List (List Key × V)} {xs : List (List Key × Addr × Value)} (r : KT H kvs xs) (ht : ∀ b ys,H b = some (.tup ys)→H' b = some (.tup ys)) : KT H' kvs xs :=
 Paired.mapP r fun _ _ z=>⟨z.1,ht _ _ z.2.1,z.2.2⟩
section
variable {P : Program} {w : World} {H : Hp} {h : Heap} {a : Addr}
theorem rd_of {u : HO} (ok : HOk P w H h) (e : Rd H a u) : ObjOk P w H h a u:=e.ok ok
theorem dk_rd {kvs : List (Key × V)} (ok : HOk P w H h) (e : Rd H a (.dK kvs)) : kvs.length≤sizeLine∧(a == sysModules) = false∧∃ vs,KV kvs vs∧h.DictOf (mixKind P w) a vs :=
 show ObjOk P w H h a (.dK kvs) from rd_of ok e
theorem dk_of {kvs : List (Key × V)} (ok : HOk P w H h) (e : H a = some (.dK kvs)) : kvs.length≤sizeLine∧(a == sysModules) = false∧∃ vs,KV kvs vs∧h.DictOf (mixKind P w) a vs:=dk_rd ok (.inl e)
theorem key_of {ks : List Key} (ok : HOk P w H h) (e : H a = some (.tup (ks.map kV))) : (tupleKind (mixKind P w)).is h ks a:=by
 obtain ⟨_,its,r,o,h1,h2,n,h3⟩:=(show ObjOk P w H h a (.tup (ks.map kV)) from ok a _ e)
 exact ⟨o,its.toArray,n,h1,h2,h3,by simpa using items_are r⟩
theorem dt_rd {kvs : List (List Key × V)} (ok : HOk P w H h) (e : Rd H a (.dT kvs)) : kvs.length≤sizeLine∧(a == sysModules) = false ∧
  ∃ xs,KT H kvs xs∧h.DictOfH (tupleKind (mixKind P w)) a xs:=by
 obtain ⟨z,y,xs,r,o,es,ep,h1,h2,h3,h4,h5⟩:=(show ObjOk P w H h a (.dT kvs) from rd_of ok e)
 refine ⟨z,y,xs,r,o,es,ep,h1,h2,h3,h4,fun x hx=>?_,h5⟩
 have all : ∀ {l : List (List Key × V)} {m : List (List Key × Addr × Value)},KT H l m→∀ x ∈ m,(tupleKind (mixKind P w)).is h x.1 x.2.1:=by
  intro l m q
  induction q with
  | nil=>intro x hx; exact nomatch hx
  | @cons p q ps qs hq t ih =>
   intro x hx
   rcases List.mem_cons.mp hx with e | hx
   ·subst e
    exact key_of ok (by rw [← hq.1]; exact hq.2.1)
   ·exact ih x hx
 exact all r x hx
theorem dt_of {kvs : List (List Key × V)} (ok : HOk P w H h) (e : H a = some (.dT kvs)) : kvs.length≤sizeLine∧(a == sysModules) = false ∧
  ∃ xs,KT H kvs xs∧h.DictOfH (tupleKind (mixKind P w)) a xs:=dt_rd ok (.inl e)
end
def DGet (H : Hp) (a : Addr) (y : V) (r : Option V) : Prop :=
 (∃ kvs k,Rd H a (.dK kvs)∧y = kV k∧r = valV kvs k)∨∃ kvs k b,Rd H a (.dT kvs)∧y = .ref b∧H b = some (.tup (k.map kV))∧r = valV kvs k
def DPut (H : Hp) (a : Addr) (y v : V) (H' : Hp) : Prop :=
 (∃ kvs k,H a = some (.dK kvs)∧y = kV k∧kvs.length < sizeLine∧H' = upd H a (.dK (putK kvs k v))) ∨
 ∃ kvs k b,H a = some (.dT kvs)∧y = .ref b∧H b = some (.tup (k.map kV))∧kvs.length < sizeLine∧H' = upd H a (.dT (putK kvs k v))
theorem DGet.k {H : Hp} {a : Addr} {kvs : List (Key × V)} {k : Key} (e : H a = some (.dK kvs)) : DGet H a (kV k) (valV kvs k):=.inl ⟨kvs,k,.inl e,rfl,rfl⟩
theorem DPut.k {H : Hp} {a : Addr} {kvs : List (Key × V)} {k : Key} {v : V} (e : H a = some (.dK kvs)) (hl : kvs.length < sizeLine) : DPut H a (kV k) v (upd H a (.dK (putK kvs k v))):=.inl ⟨kvs,k,e,rfl,hl,rfl⟩
section
variable {X : Cx} {pins : List (Addr × Obj)} {σ : St} {H : Hp} {s : Shared} {a : Addr} {y v : V} {u r : Value} {o : Option V} {A : Around} {E : Value→Shared→Prop}
theorem Inv.big (I : Inv X pins σ H s) : sysModules < s.heap.objs.size:=by
 have h : mainGlobals < s.heap.objs.size:=(I.mod.glob.keeps I.bk).lt
 exact Nat.lt_trans (by decide) h
theorem d_getItem {Q : Value→Shared→Prop} (hu : A.units + 1 < cLine) (I : Inv X pins σ H s) (g : DGet H a y (some v)) (ry : RelV y u) (h : ∀ w' s',Inv X pins σ H s'→RelV v w'→Q w' s') :
  wpAny (model X.prog X.w) A (getItem (.ref a) u) Q E s:=by
 rcases g with ⟨kvs,k,e,ey,l⟩ | ⟨kvs,k,b,e,ey,eb,l⟩
 ·subst ey
  obtain ⟨z,hd,vs,rel,dd⟩:=dk_rd I.hok e
  obtain ⟨w',hw,rw'⟩:=RelO.some_of (v:=v) (o:=valueAt vs k) (by rw [l]; exact rel.val k)
  exact wpAny_getItem_of (kV_is ry) dd.mapOf hw (h w' _ (I.tok _) rw')
 ·subst ey
  cases (show u = Value.ref b from ry)
  obtain ⟨z,hd,xs,rel,dd⟩:=dt_rd I.hok e
  obtain ⟨w',hw,rw'⟩:=RelO.some_of (v:=v) (o:=(atKey xs k).map (·.2)) (by rw [l]; exact rel.val k)
  obtain ⟨p,hp,hp2⟩:=Option.map_eq_some_iff.mp hw
  refine wpAny_getItem_heap (tupleKind_room_in1 hu) (key_of I.hok eb) dd hp ?_
  rw [hp2]
  exact h w' _ (I.tok _) rw'
theorem d_in {Q : Value→Shared→Prop} (hu : A.units + 1 < cLine) (I : Inv X pins σ H s) (g : DGet H a y o) (ry : RelV y u) (h : ∀ s',Inv X pins σ H s'→Q (.bool o.isSome) s') :
  wpAny (model X.prog X.w) A (compareOp .In u (.ref a)) Q E s:=by
 rcases g with ⟨kvs,k,e,ey,l⟩ | ⟨kvs,k,b,e,ey,eb,l⟩
 ·subst ey
  obtain ⟨z,hd,vs,rel,dd⟩:=dk_rd I.hok e
  refine wpAny_in_of (kV_is ry) hd dd.mapOf ?_
  rw [← (rel.val k).isSome_eq,← l]
  exact h _ (I.tok _)
 ·subst ey
  cases (show u = Value.ref b from ry)
  obtain ⟨z,hd,xs,rel,dd⟩:=dt_rd I.hok e
  refine wpAny_in_heap (tupleKind_room_in1 hu) (key_of I.hok eb) hd dd ?_
  have q:=(rel.val k).isSome_eq
  rw [Option.isSome_map] at q
  rw [← q,← l]
  exact h _ (I.tok _)
theorem d_notIn {Q : Value→Shared→Prop} (hu : A.units + 1 < cLine) (I : Inv X pins σ H s) (g : DGet H a y o) (ry : RelV y u) (h : ∀ s',Inv X pins σ H s'→Q (.bool (!o.isSome)) s') :
  wpAny (model X.prog X.w) A (compareOp .NotIn u (.ref a)) Q E s:=by
 rcases g with ⟨kvs,k,e,ey,l⟩ | ⟨kvs,k,b,e,ey,eb,l⟩
 ·subst ey
  obtain ⟨z,hd,vs,rel,dd⟩:=dk_rd I.hok e
  refine wpAny_notIn_of (kV_is ry) hd dd.mapOf ?_
  rw [← (rel.val k).isSome_eq,← l]
  exact h _ (I.tok _)
 ·subst ey
  cases (show u = Value.ref b from ry)
  obtain ⟨z,hd,xs,rel,dd⟩:=dt_rd I.hok e
  refine wpAny_notIn_heap (tupleKind_room_in1 hu) (key_of I.hok eb) hd dd ?_
  have q:=(rel.val k).isSome_eq
  rw [Option.isSome_map] at q
  rw [← q,← l]
  exact h _ (I.tok _)
theorem d_write {h' : Heap} {t' : Nat} {ob : HO} (I : Inv X pins σ H s) (mu : Mut (H a)) (hs : Heap.SameBut a s.heap h') (he : ∃ q,h'.get? a = some q) (new : ObjOk X.prog X.w (upd H a ob) h' a ob) :
  Inv X pins σ (upd H a ob) { s with heap:=h',toks:=t' } :=
 I.write (x:=a) (e:=a) mu (.inl rfl) (fun b q hb z=>(hs.2 b hb).trans z) he new
theorem dk_new {P : Program} {w : World} {H' : Hp} {h' : Heap} {kvs : List (Key × V)} {vs : List (Key × Value)} (z : kvs.length≤sizeLine) (hd : (a == sysModules) = false) (rel : KV kvs vs) (dd : h'.DictOf (mixKind P w) a vs) :
  ObjOk P w H' h' a (.dK kvs):=⟨z,hd,vs,rel,dd⟩
theorem d_setItem {H' : Hp} {Q : Unit→Shared→Prop} (hu : A.units + 1 < cLine) (I : Inv X pins σ H s) (g : DPut H a y v H') (ry : RelV y u) (rv : RelV v r) (h : ∀ s',Inv X pins σ H' s'→Q () s') :
  wpAny (model X.prog X.w) A (setItem (.ref a) u r) Q E s:=by
 rcases g with ⟨kvs,k,e,ey,l,eH⟩ | ⟨kvs,k,b,e,ey,eb,l,eH⟩
 ·subst ey eH
  obtain ⟨z,hd,vs,rel,dd⟩:=dk_of I.hok e
  have hz : vs.length≤sizeLine:=by rw [← rel.length]; exact z
  have hl : (putK kvs k v).length≤sizeLine:=by have:=length_putK kvs k v; omega
  refine wpAny_setItem_pairs (hsz:=hz) (kV_is ry) dd fun h' dd' hs=>h _ ?_
  have he : ∃ q,h'.get? a = some q:=let ⟨q,_,_,hq,_⟩:=dd'; ⟨q,hq⟩
  exact d_write I (by rw [e]; exact True.intro) hs he (dk_new hl hd (rel.put k rv) dd')
 ·subst ey eH
  cases (show u = Value.ref b from ry)
  obtain ⟨z,hd,xs,rel,dd⟩:=dt_of I.hok e
  have hz : xs.length≤sizeLine:=by rw [← Paired.length rel]; exact z
  have hl : (putK kvs k v).length≤sizeLine:=by have:=length_putK kvs k v; omega
  refine wpAny_setItem_heap (hsz:=hz) (tupleKind_room_in1 hu) (key_of I.hok eb) dd fun h' dd' hs=>h _ ?_
  obtain ⟨q,es,ep,hq,h2,h3,h4,_,h5⟩:=dd'
  refine d_write I (by rw [e]; exact True.intro) hs ⟨q,hq⟩ ⟨hl,hd,_,(rel.put k eb rv).keeps fun c ys ec=>?_,q,es,ep,hq,h2,h3,h4,h5⟩
  rw [upd_ne (ne_of ec e (fun z=>nomatch z))]
  exact ec
end
def NoSl (i : Expr) : Prop:=∀ ov iv,subscripted i false ov iv = operate [ov,iv] (getItem ov iv)
theorem subD_of {prog : Program} {w : World} {A : Around} {E : Value→Shared→Prop} {s : Shared} {env : Env} {value slice : Expr} {pos : Pos} {T id : String} {Q : Value→Shared→Prop}
  (hl : typeLookup (.type T) "__getitem__" = pure (some (.builtin id))) (hs : NoSl slice)
  (h : wpAny (model prog w) A (eval value env) (fun o s₁=>wpAny (model prog w) A (eval slice env) (fun i s₂=>s₂.TypeIs o T∧wpAny (model prog w) A (getItem o i) Q E s₂) E s₁) E s) :
  wpAny (model prog w) A (eval (.Subscript value slice pos) env) Q E s:=by
 refine Subscript_ (wpAny_mono h (fun o s₁ h₁=>wpAny_mono h₁ (fun i s₂ h₂=>?_) fun _ _ x=>x) fun _ _ x=>x)
 obtain ⟨hT,h₂⟩:=h₂
 unfold subscriptTail
 refine wpAny_bind ?_
 rw [getitemInPython_of_ne hT.not_modules]
 refine wpAny_bind (wpAny_specialOf hT hl ?_)
 have fin : wpAny (model prog w) A (subscripted slice false o i) (fun r s₃=>wpAny (model prog w) A (letTemporaryGo value o r >>= fun _=>pure r) Q E s₃) E s₂:=by
  rw [hs o i]
  exact wpAny_operating (wpAny_mono h₂ (fun r s₃ h₃=>wpAny_bind (wpAny_letTemporaryGo (wpAny_pure h₃))) fun _ _ x=>x)
 first
  | exact wpAny_pure (wpAny_bind fin)
  | exact wpAny_bind (wpAny_pure (wpAny_bind fin))
  | exact wpAny_bind fin
theorem dict_typeIs {X : Cx} {pins : List (Addr × Obj)} {σ : St} {H : Hp} {s : Shared} {a : Addr} {y : V} {o : Option V} (I : Inv X pins σ H s) (g : DGet H a y o) : s.TypeIs (.ref a) "dict":=by
 rcases g with ⟨kvs,k,e,_,_⟩ | ⟨kvs,k,b,e,_,_,_⟩
 ·obtain ⟨_,_,vs,_,dd⟩:=dk_rd I.hok e
  exact dd.typeIs
 ·obtain ⟨_,_,xs,_,dd⟩:=dt_rd I.hok e
  exact dd.typeIs
def tDGet (td ty : TE) : TE:=fun σ H Q=>td σ H fun x H1=>ty σ H1 fun y H2=>∃ a v,x = .ref a∧DGet H2 a y (some v)∧Q v H2
def tDIn (ty td : TE) : TE:=fun σ H Q=>ty σ H fun y H1=>td σ H1 fun x H2=>∃ a o,x = .ref a∧DGet H2 a y o∧Q (.bl o.isSome) H2
def tDNotIn (ty td : TE) : TE:=fun σ H Q=>ty σ H fun y H1=>td σ H1 fun x H2=>∃ a o,x = .ref a∧DGet H2 a y o∧Q (.bl (!o.isSome)) H2
def sDPut (td ty tv : TE) : TS:=fun D σ H=>tv σ H fun v H1=>td σ H1 fun x H2=>ty σ H2 fun y H3=>∃ a H4,x = .ref a∧DPut H3 a y v H4∧D.nx σ H4
section
variable {X : Cx} {o i e value : Expr} {pos pos' tpos : Pos} {td ty tv : TE}
theorem pe_dget (hu : X.A.units + 1 < cLine) (ho : PE X o td) (hi : PE X i ty) (hs : NoSl i) : PE X (.Subscript o i pos) (tDGet td ty):=by
 intro pins s σ H Q I h
 refine subD_of PySem.F.slot_dict_getitem.lookup hs (thn (ho pins s σ H _ I h) fun u s1 ⟨x,H1,I1,rx,q1⟩=>thn (hi pins s1 σ H1 _ I1 q1) fun iv s2 ⟨y,H2,I2,ry,a,v,ex,g,q2⟩=>?_)
 subst ex
 obtain rfl : u = Value.ref a:=rx
 exact ⟨dict_typeIs I2 g,d_getItem hu I2 g ry fun w' s3 I3 rw'=>⟨v,H2,I3,rw',q2⟩⟩
theorem pc_din (hu : X.A.units + 1 < cLine) (hi : PE X i ty) (ho : PE X o td) : PC X .In i o (tDIn ty td):=by
 intro pins s σ H Q I h
 refine thn (hi pins s σ H _ I h) fun iv s1 ⟨y,H1,I1,ry,q1⟩=>thn (ho pins s1 σ H1 _ I1 q1) fun u s2 ⟨x,H2,I2,rx,a,ov,ex,g,q2⟩=>?_
 subst ex
 obtain rfl : u = Value.ref a:=rx
 exact d_in hu I2 g ry fun s3 I3=>⟨.bl ov.isSome,H2,I3,rfl,q2⟩
theorem pc_dnotin (hu : X.A.units + 1 < cLine) (hi : PE X i ty) (ho : PE X o td) : PC X .NotIn i o (tDNotIn ty td):=by
 intro pins s σ H Q I h
 refine thn (hi pins s σ H _ I h) fun iv s1 ⟨y,H1,I1,ry,q1⟩=>thn (ho pins s1 σ H1 _ I1 q1) fun u s2 ⟨x,H2,I2,rx,a,ov,ex,g,q2⟩=>?_
 subst ex
 obtain rfl : u = Value.ref a:=rx
 exact d_notIn hu I2 g ry fun s3 I3=>⟨.bl (!ov.isSome),H2,I3,rfl,q2⟩
theorem ps_dput (hu : X.A.units + 1 < cLine) (ho : PE X o td) (hi : PE X i ty) (hv : PE X value tv) (hs : swapsWith value (some (.Subscript o i pos')) pos.line X.env = pure false) :
  PS X (.Assign [.Subscript o i pos'] value pos) (sDPut td ty tv):=by
 intro pins s σ H D I h
 refine wpAny_Assign_Subscript (thn (hv pins s σ H _ I h) fun r s1 ⟨v,H1,I1,rv,q1⟩=>thn (ho pins s1 σ H1 _ I1 q1) fun u s2 ⟨x,H2,I2,rx,q2⟩=>thn (hi pins s2 σ H2 _ I2 q2) fun iv s3 ⟨y,H3,I3,ry,a,H4,ex,g,q3⟩=>?_) hs
 subst ex
 obtain rfl : u = Value.ref a:=rx
 exact d_setItem hu I3 g ry rv fun s4 I4=>⟨σ,H4,I4,q3⟩
end
theorem dk_empty {P : Program} {w : World} {H : Hp} (h : Heap) (hb : sysModules < h.objs.size) : ObjOk P w H (h.push { cls:=.type "dict",data:=.dict #[] }) h.objs.size (.dK []) :=
 ⟨Nat.zero_le _,beq_eq_false_iff_ne.mpr (Ne.symm (Nat.ne_of_lt hb)),[],.nil,Heap.DictOf.new h⟩
def tDNewK : TE:=fun _ H Q=>∀ p,H p = none→Q (.ref p) (upd H p (.dK []))
section
variable {X : Cx} {pos : Pos}
theorem pe_dnewK : PE X (.Dict [] [] pos) tDNewK:=fun pins s σ H Q I h =>
 wpAny_Dict_empty ⟨.ref s.heap.objs.size,_,I.laid (a:=s.heap.objs.size) (o:=.dK []) (t':=s.toks) (fun _ _ q=>Heap.get?_push_of_some _ q) (Nat.le_refl _) (dk_empty s.heap I.big),rfl,h _ (I.hok.fresh (Nat.le_refl _))⟩
end
def mergeK (kvs more : List (Key × V)) : List (Key × V):=more.foldl (fun acc kv=>putK acc kv.1 kv.2) kvs
theorem KV.merge : ∀ {more : List (Key × V)} {rs : List (Key × Value)} {kvs : List (Key × V)} {vs : List (Key × Value)},KV more rs→KV kvs vs→KV (mergeK kvs more) (merged vs rs):=by
 intro more rs kvs vs r
 unfold KV at r
 induction r generalizing kvs vs with
 | nil=>intro q; exact q
 | @cons p q ps qs h t ih =>
  intro r0
  have e : KV (putK kvs p.1 p.2) (stored vs q.1 q.2):=by
   have:=r0.put p.1 h.2
   rw [← h.1]; exact this
  exact ih e
theorem length_mergeK : ∀ (more kvs : List (Key × V)),(mergeK kvs more).length≤kvs.length + more.length
 | [],kvs=>by show kvs.length≤kvs.length + 0; omega
 | p::r,kvs=>by
  have h1:=length_mergeK r (putK kvs p.1 p.2)
  have h2:=length_putK kvs p.1 p.2
  show (mergeK (putK kvs p.1 p.2) r).length≤_
  rw [List.length_cons]; omega
structure M2 (X : Cx) (o : Expr) (m : Str) (apos : Pos) (e f : Expr) (cpos : Pos) : Prop where
 base : attributeBase o m X.env (eval o X.env) = eval o X.env
 few : ((backTo cpos (starEach [e,f] X.env)).all (fun x=>!x.1) && (backToKw cpos (keywordEach [] X.env)).all (fun x=>x.1.isSome)
  && decide (([e,f] : List Expr).length + ([] : List Keyword).length + (if ([] : List Keyword).isEmpty then 0 else 1) < 30)) = true
 line : (apos.endLine == cpos.line) = true
 trees : backTo cpos (starEach [e,f] X.env) = [(false,eval e X.env),(false,eval f X.env)]
def IsD (H : Hp) (a : Addr) : Prop:=(∃ kvs,Rd H a (.dK kvs))∨∃ kvs,Rd H a (.dT kvs)
theorem isD_at {X : Cx} {pins : List (Addr × Obj)} {σ : St} {H : Hp} {s : Shared} {a : Addr} (I : Inv X pins σ H s) (d : IsD H a) :
  s.TypeIs (.ref a) "dict"∧(∀ b,Value.ref a = .ref b→∃ ob,s.heap.get? b = some ob∧ob.dict = none)∧(a == sysModules) = false:=by
 rcases d with ⟨kvs,e⟩ | ⟨kvs,e⟩
 ·obtain ⟨_,hd,vs,_,dd⟩:=dk_rd I.hok e
  refine ⟨dd.typeIs,fun b q=>?_,hd⟩
  cases q
  obtain ⟨ob,_,_,h1,h2,_⟩:=dd
  exact ⟨ob,h1,h2.2.1⟩
 ·obtain ⟨_,hd,xs,_,dd⟩:=dt_rd I.hok e
  refine ⟨dd.typeIs,fun b q=>?_,hd⟩
  cases q
  obtain ⟨ob,_,_,h1,h2,_⟩:=dd
  exact ⟨ob,h1,h2.2.1⟩
section
variable {X : Cx} {pins : List (Addr × Obj)} {σ : St} {H : Hp} {s : Shared} {a : Addr} {y d : V} {u r : Value} {o : Option V} {A : Around} {E : Value→Shared→Prop}
theorem d_get2 {Q : Value→Shared→Prop} (hu : A.units + 1 < cLine) (I : Inv X pins σ H s) (g : DGet H a y o) (ry : RelV y u) (rd : RelV d r) (h : ∀ w' s',Inv X pins σ H s'→RelV (o.getD d) w'→Q w' s') :
  wpAny (model X.prog X.w) A (call (.builtin "dict.get") [.ref a,u,r]) Q E s:=by
 rcases g with ⟨kvs,k,e,ey,l⟩ | ⟨kvs,k,b,e,ey,eb,l⟩
 ·subst ey
  obtain ⟨z,hd,vs,rel,dd⟩:=dk_rd I.hok e
  refine call_meetsIn PySem.F.slot_dict_get dd.typeIs PySem.F.entry_dict_get (PySem.F.args_dict_get_3 _ _ _) (meets_dict_get_default (mixKind X.prog X.w) a (kV_is ry) hd r) ⟨_,dd.mapOf,h _ _ (I.tok _) ?_⟩
  rw [l]
  exact (rel.val k).getD rd
 ·subst ey
  cases (show u = Value.ref b from ry)
  obtain ⟨z,hd,xs,rel,dd⟩:=dt_rd I.hok e
  refine call_meetsIn PySem.F.slot_dict_get dd.typeIs PySem.F.entry_dict_get (PySem.F.args_dict_get_3 _ _ _) (meetsH_dict_get_default (tupleKind (mixKind X.prog X.w)) a b hd r) ⟨tupleKind_room_in1 hu,k,xs,key_of I.hok eb,dd,h _ _ (I.tok _) ?_⟩
  rw [l]
  exact (rel.val k).getD rd
end
def tDGet2 (td ty tx : TE) : TE:=fun σ H Q=>td σ H fun x H1=>∃ a,x = .ref a∧IsD H1 a∧ty σ H1 fun y H2=>tx σ H2 fun z H3=>∃ o,DGet H3 a y o∧Q (o.getD z) H3
section
variable {X : Cx} {o e f : Expr} {apos cpos : Pos} {td ty tx : TE}
theorem pe_dget2 (hu : X.A.units + 1 < cLine) (ho : PE X o td) (he : PE X e ty) (hf : PE X f tx) (m : M2 X o "get" apos e f cpos) : PE X (.Call (.Attribute o "get" apos) [e,f] [] cpos) (tDGet2 td ty tx):=by
 intro pins s σ H Q I h
 refine wpAny_Call_method m.base m.few m.line PySem.F.plainAttrs_dict PySem.F.slot_dict_get PySem.F.type_dict_get (thn (ho pins s σ H _ I h) fun u s1 ⟨x,H1,I1,rx,a,ex,d,q1⟩=>?_)
 subst ex
 obtain rfl : u = Value.ref a:=rx
 obtain ⟨t1,t2,_⟩:=isD_at I1 d
 refine ⟨t1,t2,?_⟩
 rw [m.trees]
 refine Calls.callWith_builtin rfl (Calls.evalArgs_plain (Calls.spliced_cons (thn (he pins s1 σ H1 _ I1 q1) fun iv s2 ⟨y,H2,I2,ry,q2⟩ =>
  Calls.spliced_cons (thn (hf pins s2 σ H2 _ I2 q2) fun fv s3 ⟨z,H3,I3,rz,ov,g,q3⟩=>Calls.spliced_nil ?_))))
 exact d_get2 hu I3 g ry rz fun w' s4 I4 rw'=>⟨_,H3,I4,rw',q3⟩
end
end L2
namespace L2
open PySem PySem.Spec PyProof.Rows
theorem list_keys_none : typeLookup (.type "list") "keys" = pure none:=am_miss_of_fast (by first | decide +kernel | rfl)
theorem ud_entry : entryFor table "dict.update.loop" = some Builtin.«dict.update.loop»:=entryFor_of_tree (by kernel_rfl)
theorem ud_plain : plainId "dict.update.loop" = true:=by decide +kernel
section
variable {prog : Program} {w : World} {A : Around} {E : Value→Shared→Prop}
theorem miss_list {s : Shared} {a : Addr} {o : Obj} {xs : Array Value} {k : Nat} {Q : Option Value→Shared→Prop} (hx : s.heap.get? a = some o) (hc : o.cls = .type "list") (hdat : o.data = .seq xs k) (hd : o.dict = none) (hA : A.handled = none)
  (h : ∀ h' tk,(∀ b ob,s.heap.get? b = some ob→h'.get? b = some ob)→Q none { s with heap:=h',toks:=tk }) : wpAny (model prog w) A (getAttr? (.ref a) "keys") Q E s:=by
 obtain ⟨c,dct,dat,sl⟩:=o
 simp only at hc hdat hd
 subst hc hdat hd
 obtain ⟨hp,g,d,tk,os⟩:=s
 have hT : ∀ tk',(⟨hp,g,d,tk',os⟩ : Shared).TypeIs (.ref a) "list":=fun _=>⟨_,hx,rfl⟩
 have hmiss:=list_keys_none
 have hname : (["__module__","__name__","__qualname__","__doc__","__annotations__"] : List Str).contains "keys" = false:=by decide +kernel
 have hsz : ("keys" : Str).length + 100≤sizeLine:=by first | size_fits | decide +kernel
 have f1:=sub_AttributeError
 have f3:=PySem.F.slot_list_getattribute.lookup
 have f4:=PySem.F.slot_list_getattribute.bind (.ref a)
 have f5:=am_list_getattr_none
 unfold getAttr? getAttrBy? getAttrBy
 repeat (any_goals (first | assumption | exact hT _ | ((with_reducible show wpAny _ _ (call (Value.builtin "list.__getattribute__") _ _) _ _ _); refine call_meets PySem.F.slot_list_getattribute (hT _) am_entry_list_getattribute (PySem.F.args_list_getattribute_2 _ _) (meets_getattribute_miss_list a xs k sl "keys" _ hmiss hname hsz) ⟨hx,hA,fun h' tk' e hx'=>?_⟩) | wp_step))
 obtain ⟨t',u',he⟩:=hx'.there
 show wpAny _ _ (getattributeRaised _ _ _ _ _ _ _) _ _ _
 unfold getattributeRaised
 repeat (any_goals (first | assumption | wp_step))
 all_goals first | exact h _ _ hx'.keeps | (dsimp only; repeat (any_goals (first | assumption | exact h _ _ hx'.keeps | wp_step)))
theorem upd_loop {R : Result→Shared→Prop} {S I l : Addr} {items : Array Value} {res : Value} (hh : A.handled = none) (hlI : l ≠ I) (hSI : S ≠ I) (hSl : S ≠ l) :
  ∀ (rest : List (Key × Value)) (i : Nat) (acc : List (Key × Value)) (ix : Int) (t : Tok) (s : Shared),items.size = i + rest.length→acc.length + rest.length≤sizeLine →
   (∀ (j : Nat) (q : Key × Value),rest[j]? = some q→∃ (b : Addr) (u : Value),items[i + j]? = some (.ref b)∧b ≠ S∧b ≠ I∧IsTup s.heap b #[u,q.2]∧keyIs q.1 u = true) →
   s.heap.IsListIter I l i→s.heap.IsList l items→s.heap.DictOf (mixKind prog w) S acc →
   (∀ h' tk,h'.DictOf (mixKind prog w) S (merged acc rest)→(∀ b o,b ≠ S→b ≠ I→s.heap.get? b = some o→h'.get? b = some o)→R (.ok (.ret res)) { s with heap:=h',toks:=tk }) →
   codeAny (model prog w) A (.builtin "dict.update.loop" ⟨[.ref S,.ref I,.int ix t,res],[]⟩) R s
 | [],i,acc,ix,t,s,hsz,hln,ht,hit,hl,hm,hR=>by
  refine codeAny_builtin ud_entry ?_
  rw [Around.under_plainId ud_plain _]
  show wpAny _ A.in1 (pyNext (.ref I) >>= _) _ _ s
  refine wpAny_bind (wpAny_pyNext_list_end (A:=A.in1) hh hit hl (by first | exact Array.getElem?_eq_none (Nat.le_of_eq hsz) | (simp at hsz; simp; omega)) fun h' he=>?_)
  show wpAny _ A.in1 (Builtin.Dict.addKeywords S [] >>= _) _ _ _
  refine wpAny_bind (wpAny_pure (wpAny_pure ?_))
  exact hR h' s.toks (hm.extBut he hSI) fun b o _ hb e=>he b o hb e
 | q::rest,i,acc,ix,t,s,hsz,hln,ht,hit,hl,hm,hR=>by
  obtain ⟨b,u,hb,hbS,hbI,htup,hk⟩:=ht 0 q rfl
  rw [List.length_cons] at hsz hln
  refine codeAny_builtin ud_entry ?_
  rw [Around.under_plainId ud_plain _]
  show wpAny _ A.in1 (pyNext (.ref I) >>= _) _ _ s
  refine wpAny_bind (wpAny_pyNext_list_item (x:=.ref b) hit hl (by simpa using hb) fun h1 hit1 hs1=>?_)
  have ht1 : IsTup h1 b #[u,q.2]:=htup.extBut hs1.extBut hbI
  have hl1 : h1.IsList l items:=hl.extBut hs1.extBut hlI
  have hm1 : h1.DictOf (mixKind prog w) S acc:=hm.extBut hs1.extBut hSI
  obtain ⟨o,ho,hc,n,hd⟩:=id ht1
  show wpAny _ A.in1 (holding [Value.ref b] _ >>= _) _ _ _
  refine wpAny_bind (wpAny_holding ?_)
  refine wpAny_bind (wpAny_tryCatch ?_)
  unfold Builtin.Dict.pairItems
  refine wpAny_bind (wpAny_typeOf (T:="tuple") ⟨o,ho,hc⟩ ?_)
  rw [if_pos (by first | decide | rfl | simp)]
  refine wpAny_bind (wpAny_seqItems ho hd (wpAny_pure ?_))
  show wpAny _ A.in1 (holding [u,q.2] (dictSet S u q.2)) _ _ _
  refine wpAny_holding (wpAny_dictSet_pairs (knd:=mixKind prog w) (k:=q.1) hk hm1 (fun h2 hm2 hs2=>?_) (by omega))
  refine wpAny_pure ⟨plainId_quiet ud_plain _,upd_loop (items:=items) hh hlI hSI hSl rest (i + 1) (stored acc q.1 q.2) (ix + 1) 0 _ (show items.size = i + 1 + rest.length by omega) ?_ (fun j q' e=>?_) ?_ ?_ hm2 fun h' tk hd' k=>?_⟩
  ·have z:=stored_length_le acc q.1 q.2
   omega
  ·obtain ⟨b',u',hb',hbS',hbI',htup',hk'⟩:=ht (j + 1) q' (by simpa using e)
   refine ⟨b',u',?_,hbS',hbI',(htup'.extBut hs1.extBut hbI').extBut hs2.extBut hbS',hk'⟩
   rw [show i + 1 + j = i + (j + 1) by omega]
   exact hb'
  ·exact hit1.at fun o' e=>hs2.extBut I o' (Ne.symm hSI) e
  ·exact hl1.extBut hs2.extBut (Ne.symm hSl)
  ·exact hR h' tk hd' fun c oc h3 h4 e=>k c oc h3 h4 (hs2.extBut c oc h3 (hs1.extBut c oc h4 e))
theorem call_dict_pairs {s : Shared} {l : Addr} {ol : Obj} {items : Array Value} {n : Nat} {prs : List (Key × Value)} {Q : Value→Shared→Prop} (hh : A.handled = none) (hl : s.heap.get? l = some ol) (hc : ol.cls = .type "list") (hd : ol.dict = none)
  (hdat : ol.data = .seq items n) (hsz : items.size = prs.length) (hln : prs.length≤sizeLine)
  (ht : ∀ (j : Nat) (q : Key × Value),prs[j]? = some q→∃ (b : Addr) (u : Value),items[j]? = some (.ref b)∧IsTup s.heap b #[u,q.2]∧keyIs q.1 u = true)
  (h : ∀ h' tk,h'.DictOf (mixKind prog w) s.heap.objs.size (merged [] prs)→(∀ b o,s.heap.get? b = some o→h'.get? b = some o)→Q (.ref s.heap.objs.size) { s with heap:=h',toks:=tk }) :
  wpAny (model prog w) A (call (.type "dict") [.ref l]) Q E s:=by
 refine callType_codes (Q₁:=fun obj s₁=>obj = .ref s.heap.objs.size∧s₁ = { s with heap:=s.heap.push { cls:=.type "dict",data:=.dict #[] } }) PySem.F.kt_called_dict (PySem.F.kt_typeCall_dict_1 _) PySem.F.entry_dict_init (kt_code_dict_new _ ⟨rfl,rfl⟩) ?_
 rintro obj s₁ ⟨rfl,rfl⟩
 have hnew : (s.heap.push { cls:=.type "dict",data:=.dict #[] }).DictOf (mixKind prog w) s.heap.objs.size []:=Heap.DictOf.new s.heap
 have k0 : ∀ b o,s.heap.get? b = some o→(s.heap.push { cls:=.type "dict",data:=.dict #[] }).get? b = some o:=fun b o e=>Heap.get?_push_of_some _ e
 refine ⟨hnew.typeIs,PySem.F.args_dict_init_2 _ _,?_⟩
 unfold Builtin.«dict.__init__»
 refine wpAny_bind ?_
 unfold Builtin.Dict.selfAndRest
 refine wpAny_bind (wpAny_notOrdered_dict hnew.typeIs ?_)
 show wpAny _ _ (pure (s.heap.objs.size,[Value.ref l])) _ _ _
 refine wpAny_pure ?_
 show wpAny _ _ (Builtin.Dict.updateFrom "dict.__init__" s.heap.objs.size (.ref l) [] .none) _ _ _
 unfold Builtin.Dict.updateFrom
 refine wpAny_bind (wpAny_typeOf (T:="list") ⟨ol,k0 _ _ hl,hc⟩ ?_)
 rw [if_pos (by first | decide | rfl | simp)]
 refine wpAny_bind (miss_list (k0 _ _ hl) hc hdat hd hh fun h1 tk1 hk1=>?_)
 rw [if_pos (show (none : Option Value).isNone = true from rfl)]
 refine wpAny_bind (wpAny_rule ?_)
 have hl1 : h1.IsList l items:=⟨ol,hk1 _ _ (k0 _ _ hl),hc,n,hdat⟩
 have hS1 : s.heap.objs.size < h1.objs.size:=by
  have e : (s.heap.push { cls:=.type "dict",data:=.dict #[] }).get? s.heap.objs.size = some { cls:=.type "dict",data:=.dict #[] }:=Heap.get?_push_size _ rfl
  exact Heap.lt_size (hk1 _ _ e)
 refine wpAny_bind (wpAny_pyIter_list hl1 ?_)
 have k2 : ∀ b o,h1.get? b = some o→(h1.push { cls:=.type "list_iterator",data:=.fields #[.ref l,.int 0 0] }).get? b = some o:=fun b o e=>Heap.get?_push_of_some _ e
 have hlt : l < s.heap.objs.size:=Heap.lt_size hl
 have key:=upd_loop (prog:=prog) (w:=w) (A:=A.in1) (R:=wants (fun r s₂=>r = .none∧Q (.ref s.heap.objs.size) s₂) E) (S:=s.heap.objs.size) (I:=h1.objs.size) (l:=l) (items:=items) (res:=Value.none) hh
  (Nat.ne_of_lt (Nat.lt_trans hlt hS1)) (Nat.ne_of_lt hS1) (Nat.ne_of_gt hlt) prs 0 [] 0 0
  { s with heap:=h1.push { cls:=.type "list_iterator",data:=.fields #[.ref l,.int 0 0] },toks:=tk1 } (by rw [hsz,Nat.zero_add]) (by rw [List.length_nil,Nat.zero_add]; exact hln)
  (fun j q e=>by
   obtain ⟨b,u,e1,e2,e3⟩:=ht j q e
   have hb : b < s.heap.objs.size:=e2.lt
   exact ⟨b,u,by rw [Nat.zero_add]; exact e1,Nat.ne_of_lt hb,Nat.ne_of_lt (Nat.lt_trans hb hS1),e2.keeps fun c o z=>k2 _ _ (hk1 _ _ (k0 _ _ z)),e3⟩)
  ⟨_,Heap.get?_push_size _ rfl,rfl,rfl⟩ (hl1.at fun o e=>k2 _ _ e) ((hnew.at fun o e=>hk1 _ _ e).at fun o e=>k2 _ _ e)
  (fun h' tk hd' k=>⟨rfl,h h' tk hd' fun b o e=>k b o (Nat.ne_of_lt (Heap.lt_size e)) (Nat.ne_of_lt (Nat.lt_trans (Heap.lt_size e) hS1)) (k2 _ _ (hk1 _ _ (k0 _ _ e)))⟩)
 first
  | exact wpAny_pure ⟨plainId_quiet ud_plain _,key⟩
  | exact wpAny_bind (wpAny_pure (wpAny_pure ⟨plainId_quiet ud_plain _,key⟩))
end
section
variable {X : Cx}
theorem pairs_of {pins : List (Addr × Obj)} {σ : St} {H : Hp} {s : Shared} (I : Inv X pins σ H s) : ∀ {ps : List Addr} {kvs : List (Key × V)},Paired (fun p kv=>SqT X.K H p [kV kv.1,kv.2]) ps kvs →
  ∃ prs : List (Key × Value),KV kvs prs∧prs.length = ps.length∧∀ (j : Nat) (q : Key × Value),prs[j]? = some q→∃ (b : Addr) (u : Value),ps[j]? = some b∧IsTup s.heap b #[u,q.2]∧keyIs q.1 u = true
 | _,_,.nil=>⟨[],.nil,rfl,fun j q e=>by simp at e⟩
 | _,_,.cons (a:=p) (b:=kv) h t=>by
  obtain ⟨prs,r,hl,hp⟩:=pairs_of I t
  obtain ⟨its,rv,ht,_⟩:=I.tuple h
  obtain ⟨u,y,ei,ru,ry⟩:=vals2 rv
  subst ei
  refine ⟨(kv.1,y)::prs,.cons ⟨rfl,ry⟩ r,by rw [List.length_cons,List.length_cons,hl],fun j q e=>?_⟩
  cases j with
  | zero =>
   have e' : (kv.1,y) = q:=Option.some.inj e
   subst e'
   exact ⟨p,u,rfl,ht,kV_is (P:=X.prog) (w:=X.w) ru⟩
  | succ j =>
   obtain ⟨b,u',e1,e2,e3⟩:=hp j q (by simpa using e)
   exact ⟨b,u',by simpa using e1,e2,e3⟩
theorem refs_at : ∀ {ps : List Addr} {us : List Value},Vals (ps.map V.ref) us→us = ps.map Value.ref
 | [],us,r=>by
  rw [List.map_nil] at r
  cases r
  rfl
 | p::ps,us,r=>by
  rw [List.map_cons] at r
  cases r with
  | cons h t =>
   cases h
   rw [List.map_cons,← refs_at t]
theorem call_dictP (hcalm : X.calm = true) : CallR X (.type "dict") (fun xs H Q=>∃ (a : Addr) (ps : List Addr) (kvs : List (Key × V)),xs = [.ref a]∧SqL X.K H a (ps.map V.ref)∧Paired (fun p kv=>SqT X.K H p [kV kv.1,kv.2]) ps kvs ∧
  ∀ p,H p = none→Q (.ref p) (upd H p (.dK (mergeK [] kvs)))):=by
 intro pins s σ H xs us Q I r q
 obtain ⟨a,ps,kvs,ex,hq,hp,q⟩:=q
 subst ex
 obtain ⟨u,eu,rx⟩:=vals1 r
 subst eu
 cases rx
 obtain ⟨its,rv,pl,hz⟩:=I.list hq
 have ei:=refs_at rv
 subst ei
 rw [List.length_map] at hz
 obtain ⟨prs,rel,hl,hpr⟩:=pairs_of I hp
 obtain ⟨o,n,ho,hc,hd,hdat⟩:=pl
 refine call_dict_pairs (prs:=prs) (I.ok.hd hcalm) ho hc hd hdat (by simp [hl]) (by rw [hl]; exact hz) (fun j q' e=>?_) fun h' tk hd' k=>?_
 ·obtain ⟨b,u,e1,e2,e3⟩:=hpr j q' e
  exact ⟨b,u,by simp [e1],e2,e3⟩
 ·have hm : (s.heap.objs.size == sysModules) = false:=beq_eq_false_iff_ne.mpr (Nat.ne_of_gt I.big)
  have hlen : (mergeK [] kvs).length≤sizeLine:=by
   refine Nat.le_trans (length_mergeK kvs []) ?_
   rw [List.length_nil,Nat.zero_add,rel.length,hl]
   exact hz
  exact ⟨.ref s.heap.objs.size,upd H s.heap.objs.size (.dK (mergeK [] kvs)),I.laid (t':=tk) k (Nat.le_refl _) (show ObjOk X.prog X.w _ _ _ (.dK (mergeK [] kvs)) from ⟨hlen,hm,merged [] prs,KV.merge rel .nil,hd'⟩),rfl,q _ (I.hok.fresh (Nat.le_refl _))⟩
end
end L2
namespace L2
open PySem PySem.Spec PyProof.Rows
section
variable {X : Cx}
theorem pi_one {tg : Expr} {pins : List (Addr × Obj)} {σ : St} {H : Hp} {s : Shared} {R : It→Hp→Prop} {J : It} {tn : Nat→Heap→Prop} {tk : Nat} (I : Inv X pins σ H s) (o : Obj)
  (T : Turn X.prog X.w X.K tg J [s.heap.objs.size] s.heap.objs.size tn) (st : tn 0 (s.heap.push o)) (q : R J H) : PIE X pins σ tg R (.ref s.heap.objs.size) { s with heap:=s.heap.push o,toks:=tk }:=by
 refine ⟨s.heap.objs.size,[s.heap.objs.size],tn,J,H,rfl,I.kept fun b ob e=>Heap.get?_push_of_some _ e,T,st,fun b hb=>?_,q⟩
 have e : b = s.heap.objs.size:=by simpa using hb
 subst e
 exact I.fpOk (Nat.le_refl _) (I.hok.fresh (Nat.le_refl _))
end
def Its (x : Str) : It:=⟨fun i _=>i < x.cps.size,fun i H v H'=>H' = H∧∃ c,x.cps[i]? = some c∧v = .str ⟨#[c]⟩,fun i _=>x.cps.size≤i⟩
theorem turn_str {P : Program} {w : World} {K : PySem.W.Frag} {tg : Expr} (it : Addr) (x : Str) (t : Tok) (ty : String) (hty : ty = "str_ascii_iterator"∨ty = "str_iterator") :
  Turn P w K tg (Its x) [it] it (fun i h=>h.IsStrIter it ty x t i) where
 mem:=by simp
 obj:=fun i h st b hb=>by
  have e : b = it:=by simpa using hb
  subst e
  obtain ⟨o,e,c,d⟩:=st
  exact ⟨o,e,fun v z=>by rw [d] at z; cases z⟩
 keep:=fun i h h' st k=>let ⟨o,ho,r⟩:=st; ⟨o,k it (by simp) o ho,r⟩
 item:=by
  intro X hP hw hK hc i pins s σ H E I hf st hg
  subst hP hw hK
  obtain ⟨f0,f1,f2,f3,f4,f5⟩:=hf it (by simp)
  have W : Walks X.prog X.w X.A it [it] [it] x.cps.size (SignAt x) (fun i h=>h.IsStrIter it ty x t i):=by
   rcases hty with e | e
   ·rw [e]; exact Walks.strAscii (I.ok.hd hc) it x t
   ·rw [e]; exact Walks.strWide (I.ok.hd hc) it x t
  have hno : ["enumerate","zip","dict_itemiterator","dict_reverseitemiterator","odict_iterator","itertools.zip_longest","itertools.pairwise"].contains ty = false:=by
   rcases hty with e | e
   ·rw [e]; decide
   ·rw [e]; decide
  refine W.item i s _ _ hg st fun v h' tk hv st' kk=>?_
  obtain ⟨c,u,hcx,rfl⟩:=hv
  have I1 : Inv X pins σ H { s with heap:=h',toks:=tk }:=I.turned (fun b o hb e=>kk b o (by simpa using hb) e) f0 f1 f3 f4 f5
  obtain ⟨oi,e,cc,dd⟩:=id st'
  exact ⟨_,rfl,go_of (s:={ s with heap:=h',toks:=tk }) e cc dd hno ⟨.str ⟨#[c]⟩,H,I1,⟨u,rfl⟩,⟨rfl,c,hcx,rfl⟩,st',fun b hb=>(hf b hb).1⟩⟩
 done:=by
  intro X hP hw hK hc i pins s σ H E I hf st hg
  subst hP hw hK
  obtain ⟨f0,f1,f2,f3,f4,f5⟩:=hf it (by simp)
  have hx : x.cps[i]? = none:=Array.getElem?_eq_none hg
  rcases hty with e | e
  ·rw [e] at st
   exact wpAny_pyNext_ascii_end (I.ok.hd hc) st hx fun h' eb=>⟨rfl,I.turned (t':=s.toks) (fun b o hb e=>eb b o hb e) f0 f1 f3 f4 f5⟩
  ·rw [e] at st
   exact wpAny_pyNext_wide_end (I.ok.hd hc) st hx fun h' eb=>⟨rfl,I.turned (t':=s.toks) (fun b o hb e=>eb b o hb e) f0 f1 f3 f4 f5⟩
 self:=fun A i s Q E st h=>by
  rcases hty with e | e
  ·rw [e] at st; exact wpAny_pyIter_striter_ascii st h
  ·rw [e] at st; exact wpAny_pyIter_striter_wide st h
def iStr (te : TE) : TI:=fun σ H R=>te σ H fun v H1=>∃ x,v = .str x∧R (Its x) H1
theorem pi_str {X : Cx} {tg e : Expr} {te : TE} (he : PE X e te) : PI X tg e (iStr te):=by
 intro pins s σ H R I h
 refine thn (he pins s σ H _ I h) fun v s1 ⟨y,H1,I1,r1,x,ex,q⟩=>?_
 subst ex
 obtain ⟨t,rfl⟩:=r1
 cases ha : x.cps.all (· < 128)
 ·exact wpAny_pyIter_wide ha (pi_one (tk:=s1.toks) I1 _ (turn_str _ x t "str_iterator" (.inr rfl)) ⟨_,Heap.get?_push_size _ rfl,rfl,rfl⟩ q)
 ·exact wpAny_pyIter_ascii ha (pi_one (tk:=s1.toks) I1 _ (turn_str _ x t "str_ascii_iterator" (.inl rfl)) ⟨_,Heap.get?_push_size _ rfl,rfl,rfl⟩ q)
end L2
section
namespace Bits
open PySem PyProof.Rows
end Bits
end
section
namespace TL
open PySem PySem.Builtin PySem.Builtin.Str PySem.StrLaws
abbrev tl (x : Str) : List Nat:=x.cps.toList
theorem ext_tl {x y : Str} (h : tl x = tl y) : x = y:=Str.ext' (Array.toList_inj.mp h)
theorem tl_append (x y : Str) : tl (x++y) = tl x++tl y:=by
 show (x++y).cps.toList = _
 rw [Str.cps_append,Array.toList_append]
theorem tl_ofString (s : String) : tl (Str.ofString s) = s.toList.map Char.toNat:=PyProof.Rows.signs_ofString s
def joinL (S : List Nat) : List (List Nat)→List Nat
 | []=>[]
 | [p]=>p
 | p::q::r=>p++(S++joinL S (q::r))
theorem tl_join (y : Str) : ∀ parts : List Str,tl (Str.join y parts) = joinL (tl y) (parts.map tl)
 | []=>rfl
 | [_]=>rfl
 | x::z::r=>by
  show tl (x++y++Str.join y (z::r)) = tl x++(tl y++joinL (tl y) ((z::r).map tl))
  rw [tl_append,tl_append,tl_join y (z::r),List.append_assoc]
theorem join_eq (y : Str) (parts : List Str) : Txt.join y parts = Str.join y parts:=glued_eq_join y parts
end TL
end
namespace L2
open PySem PySem.Spec PyProof.Rows
theorem strs_of_vals : ∀ {ys : List Str} {us : List Value},Vals (ys.map V.str) us→StrsAre us ys
 | [],_,.nil=>.nil
 | y::ys,_,.cons r t=>by
  obtain ⟨k,rfl⟩:=r
  exact .cons y k (strs_of_vals t)
section
variable {X : Cx}
theorem mt_join : MtR X "str.join" (fun x xs H Q=>∃ a p,∃ ys : List Str,x = .str a∧xs = [.ref p]∧(SqL X.K H p (ys.map V.str)∨SqT X.K H p (ys.map V.str)) ∧
  (ys.map (·.length)).sum + ys.length * a.length≤16777216∧Q (.str (Txt.join a ys)) H):=by
 intro pins s σ H x xs v us Q I rx rs h
 obtain ⟨a,p,ys,rfl,rfl,hp,hz,h⟩:=h
 obtain ⟨t,rfl⟩:=rx
 cases rs with
 | cons r1 rs =>
  cases rs
  cases r1
  rcases hp with hp | hp
  ·obtain ⟨its,r,⟨o,n,ho,hc,_,hd⟩,_⟩:=I.list hp
   exact PyProof.Rows.join_list (items:=its.toArray) ⟨o,ho,hc,n,hd⟩ (by rw [List.toList_toArray]; exact strs_of_vals r) hz fun t' k=>⟨.str _,H,I.tok k,⟨t',rfl⟩,h⟩
  ·obtain ⟨its,r,ht,_⟩:=I.tuple hp
   exact PyProof.Rows.join_tuple (items:=its.toArray) ht (by rw [List.toList_toArray]; exact strs_of_vals r) hz fun t' k=>⟨.str _,H,I.tok k,⟨t',rfl⟩,h⟩
theorem call_int_str : CallR X (.type "int") (fun xs H Q=>∃ a n,xs = [.str a]∧PySem.intText? a = some n∧a.length≤640∧Q (.int n) H):=by
 intro pins s σ H xs us Q I rs h
 obtain ⟨a,n,rfl,hn,hl,h⟩:=h
 cases rs with
 | cons r1 rs =>
  cases rs
  obtain ⟨t,rfl⟩:=r1
  exact PySem.W.KIN.call_text hn hl ⟨.int n,H,I.tok _,⟨_,rfl⟩,h⟩
end
section
variable {X : Cx} {o e : Expr} {to te : TE}
def tM1 (r : V→List V→Hp→VK→Prop) (to te : TE) : TE:=fun σ H Q=>to σ H fun x H1=>(∃ a,x = .str a)∧te σ H1 fun y H2=>r x [y] H2 Q
theorem pe_m1 {id : String} {name : Str} {apos pos : Pos} {r : V→List V→Hp→VK→Prop} (slot : Slot "str" name id) (ty : typeOf (.builtin id) = pure (.type "method_descriptor")) (rule : MtR X id r) (ho : PE X o to) (he : PE X e te)
  (hs : starEach [e] X.env = [(false,eval e X.env)]:=by rfl) (hbase : attributeBase o name X.env (eval o X.env) = eval o X.env:=by rfl) (hline : (apos.endLine == pos.line) = true:=by rfl) :
  PE X (.Call (.Attribute o name apos) [e] [] pos) (tM1 r to te):=by
 intro pins s σ H Q I h
 refine PySem.Call_method1 hbase hs hline (thn (ho pins s σ H _ I h) fun v s1 ⟨x,H1,I1,r1,q1⟩=>?_)
 obtain ⟨⟨a,rfl⟩,q1⟩:=q1
 obtain ⟨t,rfl⟩:=_root_.id r1
 refine ⟨"str",_,F.plainAttrs_str,slot,ty,typeIs_str _ _ _,(fun _ e=>nomatch e),Calls.callWith_builtin rfl (Calls.evalArgs_plain (Calls.spliced_cons ?_))⟩
 exact thn (he pins s1 σ H1 _ I1 q1) fun u s2 ⟨y,H2,I2,r2,q2⟩=>Calls.spliced_nil (rule pins s2 σ H2 _ [y] _ [u] Q I2 r1 (.cons r2 .nil) q2)
theorem pe_join {apos pos : Pos} (ho : PE X o to) (he : PE X e te) (hs : starEach [e] X.env = [(false,eval e X.env)]:=by rfl) (hbase : attributeBase o "join" X.env (eval o X.env) = eval o X.env:=by rfl) (hline : (apos.endLine == pos.line) = true:=by rfl) :
  PE X (.Call (.Attribute o "join" apos) [e] [] pos) (tM1 (fun x xs H Q=>∃ a p,∃ ys : List Str,x = .str a∧xs = [.ref p]∧(SqL X.K H p (ys.map V.str)∨SqT X.K H p (ys.map V.str)) ∧
   (ys.map (·.length)).sum + ys.length * a.length≤16777216∧Q (.str (Txt.join a ys)) H) to te) :=
 pe_m1 F.slot_str_join F.type_str_join mt_join ho he hs hbase hline
end
end L2
namespace L2
open PySem PySem.Spec PyProof.Rows
section
variable {X : Cx}
theorem op_in_sign : OpR X (compareOp .In) (fun x y H Q=>∃ (c : Nat) (z : Str),x = .str ⟨#[c]⟩∧y = .str z∧Q (.bl (decide (c ∈ z.cps.toList))) H):=by
 intro pins s σ H x y v u Q I rx ry h
 obtain ⟨c,z,rfl,rfl,q⟩:=h
 obtain ⟨t,rfl⟩:=rx
 obtain ⟨t',rfl⟩:=ry
 exact PyProof.Rows.in_str (fin_bl I q (PySem.StrLaws.found_one z c).symm)
theorem op_notIn_sign : OpR X (compareOp .NotIn) (fun x y H Q=>∃ (c : Nat) (z : Str),x = .str ⟨#[c]⟩∧y = .str z∧Q (.bl (!decide (c ∈ z.cps.toList))) H):=by
 intro pins s σ H x y v u Q I rx ry h
 obtain ⟨c,z,rfl,rfl,q⟩:=h
 obtain ⟨t,rfl⟩:=rx
 obtain ⟨t',rfl⟩:=ry
 exact PyProof.Rows.notIn_str (fin_bl I q (congrArg Bool.not (PySem.StrLaws.found_one z c).symm))
end
theorem IsPart.raw {v : Value} {o : Option Int} (p : IsPart v o) : ∃ l : Option (Int × Tok),v = partValue l∧l.map (·.1) = o:=by
 cases p with
 | none=>exact ⟨none,rfl,rfl⟩
 | int i t=>exact ⟨some (i,t),rfl,rfl⟩
def clipS (n d : Nat) : Option Int→Int
 | none=>(d : Int)
 | some i=>max 0 (min (if i < 0 then i + (n : Int) else i) (n : Int))
theorem clipS_eq (n d : Nat) (o : Option Int) : clipS n d o = ((HT.sIx n d o : Nat) : Int):=by
 cases o with
 | none=>rfl
 | some v =>
  show max (0 : Int) (min (if v < 0 then v + (n : Int) else v) (n : Int)) = (((if v < 0 then (v + (n : Int)).toNat else min v.toNat n) : Nat) : Int)
  by_cases hv : v < 0
  ·simp only [if_pos hv]
   omega
  ·simp only [if_neg hv]
   omega
theorem sidx_clip (a b : Option Int) (n : Nat) : Builtin.Str.strSliceIndices a b 1 n = sliceRange (clipS n 0 a) (clipS n n b) 1:=by
 have h1 : ((1 : Int) > 0) = True:=by simp
 cases a <;> cases b <;> first
  | rfl
  | (simp only [Builtin.Str.strSliceIndices,clipS,h1,if_true]; rfl)
  | simp [Builtin.Str.strSliceIndices,clipS]
theorem sidx (a b : Option Int) (n : Nat) : Builtin.Str.strSliceIndices a b 1 n = (List.range (HT.sIx n n b - HT.sIx n 0 a)).map (fun k=>HT.sIx n 0 a + k):=by
 rw [sidx_clip,clipS_eq,clipS_eq]
 generalize HT.sIx n 0 a = p
 generalize HT.sIx n n b = q
 simp only [sliceRange,show ((1 : Int) > 0) = True from by simp,if_true]
 by_cases hlt : (p : Int) < q
 ·have e3 : (((q : Int) - p + 1 - 1) / 1).toNat = q - p:=by first | omega | (simp; done) | (simp; omega)
  simp only [hlt,if_true,e3]
  refine List.map_congr_left fun k _=>?_
  omega
 ·have : q - p = 0:=by omega
  simp [hlt,this]
def cutS (z : Str) (lo hi : Option Int) : Str :=
 ⟨((z.cps.toList.drop (HT.sIx z.length 0 lo)).take (HT.sIx z.length z.length hi - HT.sIx z.length 0 lo)).toArray⟩
theorem sliceText_cut (z : Str) (lo hi : Option Int) : PySem.StrLaws.sliceText z lo hi = cutS z lo hi:=by
 have h1 : HT.sIx z.length 0 lo≤z.length:=HT.sIx_le _ _ (Nat.zero_le _) _
 have h2 : HT.sIx z.length z.length hi≤z.length:=HT.sIx_le _ _ (Nat.le_refl _) _
 have hp : HT.sIx z.length 0 lo≤max (HT.sIx z.length 0 lo) (HT.sIx z.length z.length hi):=Nat.le_max_left _ _
 have hq : max (HT.sIx z.length 0 lo) (HT.sIx z.length z.length hi)≤z.length:=Nat.max_le.mpr ⟨h1,h2⟩
 have hd : max (HT.sIx z.length 0 lo) (HT.sIx z.length z.length hi) - HT.sIx z.length 0 lo = HT.sIx z.length z.length hi - HT.sIx z.length 0 lo:=by omega
 have e : Builtin.Str.strSliceIndices lo hi 1 z.length =
   Builtin.Str.strSliceIndices (some ((HT.sIx z.length 0 lo : Nat) : Int)) (some ((max (HT.sIx z.length 0 lo) (HT.sIx z.length z.length hi) : Nat) : Int)) 1 z.length:=by
  rw [PySem.StrLaws.strSliceIndices_plain hp hq,hd,sidx]
 have e2 : PySem.StrLaws.sliceText z lo hi =
   PySem.StrLaws.sliceText z (some ((HT.sIx z.length 0 lo : Nat) : Int)) (some ((max (HT.sIx z.length 0 lo) (HT.sIx z.length z.length hi) : Nat) : Int)):=by
  unfold PySem.StrLaws.sliceText
  rw [e]
 rw [e2,PySem.StrLaws.sliceText_nat z hp hq,hd]
 rfl
theorem cutS_length (z : Str) (lo hi : Option Int) : (cutS z lo hi).length≤z.length:=by
 show (((z.cps.toList.drop (HT.sIx z.length 0 lo)).take (HT.sIx z.length z.length hi - HT.sIx z.length 0 lo)).toArray).size≤z.cps.size
 rw [List.size_toArray,List.length_take,List.length_drop,Array.length_toList]
 omega
def rSlS : V→Option Int→Option Int→Hp→VK→Prop:=fun x lo hi H Q=>∃ z,x = .str z∧z.length≤sizeLine∧Q (.str (cutS z lo hi)) H
theorem sl_str {X : Cx} : SlR X rSlS:=by
 intro pins s σ H x v vl vu lo hi sl Q I rx hs pl pu h
 obtain ⟨z,rfl,hz,q⟩:=h
 obtain ⟨t,rfl⟩:=rx
 obtain ⟨os,hos,hcs,hds⟩:=hs
 obtain ⟨l,rfl,rfl⟩:=IsPart.raw pl
 obtain ⟨u,rfl,rfl⟩:=IsPart.raw pu
 refine ⟨"str",_,F.slot_str_getitem.lookup,typeIs_str _ _ _,?_⟩
 refine wpAny_getItem_str_slice (l:=l) (u:=u) (st:=none) ⟨os,hos,hcs,hds⟩ rfl ?_
 have hl : (PySem.StrLaws.sliceText z (l.map (·.1)) (u.map (·.1))).length≤sizeLine:=by
  rw [sliceText_cut]
  exact Nat.le_trans (cutS_length z _ _) hz
 rw [← sliceText_cut] at q
 unfold PySem.StrLaws.sliceText at q hl
 show Made.post (if ((1 : Int) == 1 && (Builtin.Str.strSliceIndices (l.map (·.1)) (u.map (·.1)) 1 z.length).length == z.length) = true then Made.val (.str z t)
  else Made.str ⟨((Builtin.Str.strSliceIndices (l.map (·.1)) (u.map (·.1)) 1 z.length).filterMap (z.cps[·]?)).toArray⟩) (EP X pins σ Q) s
 by_cases c : ((1 : Int) == 1 && (Builtin.Str.strSliceIndices (l.map (·.1)) (u.map (·.1)) 1 z.length).length == z.length) = true
 ·rw [if_pos c] at q ⊢
  exact ⟨.str z,H,I,⟨t,rfl⟩,q⟩
 ·rw [if_neg c] at q hl ⊢
  exact ⟨hl,.str _,H,I.tok _,⟨_,rfl⟩,q⟩
end L2
namespace Att
open PySem PySem.W PySem.Calls PyProof.Rows
theorem ints_of_wellAll {P : Params} {h : Heap} : ∀ (ns : List Int) (vs : List Value),WellAll P h vs (ns.map WData.int)→IntsAre vs ns:=by
 intro ns
 induction ns with
 | nil =>
  intro vs w
  rw [List.map_nil] at w
  cases w
  exact .nil
 | cons n ns ih =>
  intro vs w
  rw [List.map_cons] at w
  cases w with
  | cons a b =>
   cases a
   exact .cons _ _ (ih _ b)
end Att
namespace L2
open PySem PySem.Spec PyProof.Rows
theorem vals_ints : ∀ {vs : List Value} {ns : List Int},IntsAre vs ns→Vals (ns.map V.int) vs
 | _,_,.nil=>.nil
 | _,_,.cons n t h=>.cons ⟨t,rfl⟩ (vals_ints h)
end L2
namespace L2
open PySem PySem.Spec PyProof.Rows
abbrev KOf {K : PySem.W.Frag} {h : Heap} (_ : K.In h) : PySem.W.Frag:=K
end L2
namespace L2
open PySem PySem.Spec PyProof.Rows
def inClass (s : Stmt) (j : Nat) : Stmt:=match s with
 | .ClassDef _ _ _ body _ _ _ _ _ _ _=>body.getD j (.Pass ⟨0,0,0,0⟩)
 | _=>.Pass ⟨0,0,0,0⟩
def defArgs (s : Stmt) : Arguments:=match s with
 | .FunctionDef _ a _ _ _ _ _ _ _ _=>a
 | _=>{ posonlyargs:=[],args:=[],vararg:=none,kwonlyargs:=[],kw_defaults:=[],kwarg:=none,defaults:=[] }
def defBody (s : Stmt) : List Stmt:=match s with
 | .FunctionDef _ _ b _ _ _ _ _ _ _=>b
 | _=>[]
def defScope (s : Stmt) : Scope:=match s with
 | .FunctionDef _ _ _ _ _ _ sc _ _ _=>sc
 | _=>{ kind:=.function,names:=[],isGenerator:=false,isCoroutine:=false }
abbrev E0 : XK:=fun _ _ _=>False
structure Fun (K : PySem.W.Frag) (x qual : Str) (st : Stmt) (f : Addr) (fd : FuncData) : Prop where
 ex : ∃ (oc : Value) (od : Option Addr) (kV doc pm : Value) (an : Option Addr) (cdv ct : Value) (osl : Array (Option Value)),
  fd = PySem.W.fnOf x qual (defArgs st) (defBody st) (defScope st) .none kV doc pm an cdv ct∧K.lookup f = some ⟨oc,od,.func fd,osl⟩∧PySem.W.codeIn K cdv qual = true
 kp : PySem.W.keepIn K (.ref f) = true
section
variable {P : Program} {w : World} {K : PySem.W.Frag} {mg : Str→Option Value} {base : Heap}
theorem Fun.binds {x qual : Str} {st : Stmt} {f : Addr} {fd : FuncData} {ps : List Str} (F : Fun K x qual st f fd)
  (h : ∀ (kV doc pm : Value) (an : Option Addr) (cdv ct : Value) (us : List Value),us.length = ps.length→bindArgs (PySem.W.fnOf x qual (defArgs st) (defBody st) (defScope st) .none kV doc pm an cdv ct) ⟨us,[]⟩ = pure (ps.zip us)) : Binds K fd ps []:=by
 obtain ⟨oc,od,kV,doc,pm,an,cdv,ct,osl,rfl,lk,hcd⟩:=F.ex
 exact .all (h kV doc pm an cdv ct)
theorem fun_mk {x qual : Str} {st : Stmt} {f : Addr} {oc : Value} {od an : Option Addr} {osl : Array (Option Value)} {kV doc pm cdv ct : Value} (l : K.lookup f = some ⟨oc,od,.func (PySem.W.fnOf x qual (defArgs st) (defBody st) (defScope st) .none kV doc pm an cdv ct),osl⟩)
  (c : PySem.W.codeIn K cdv qual = true) (k : PySem.W.keepIn K (.ref f) = true) : Fun K x qual st f (PySem.W.fnOf x qual (defArgs st) (defBody st) (defScope st) .none kV doc pm an cdv ct):=⟨⟨oc,od,kV,doc,pm,an,cdv,ct,osl,rfl,l,c⟩,k⟩
end
theorem hu_of {A : Around} {k : Nat} (hr : Room k A) : A.units + 1 < cLine:=Nat.lt_of_le_of_lt (Nat.add_le_add_left (by decide : 1≤64) _) hr.units
section
variable {X : Cx}
theorem pv (i : Nat) {x : Str} {pos : Pos} (hN : X.N[i]? = some x:=by rfl) (hv : Vis X.env.scope x:=by first | exact Or.inl rfl | exact Or.inr (Or.inl rfl) | exact Or.inr (Or.inr rfl)) (hd : (x == ("__debug__" : Str)) = false:=by decide)
  (hcd : (x == ("__classdict__" : Str)) = false:=by decide) : PE X (.Name x pos) (tVar i):=pe_var hN hv hd hcd
end
theorem iteF {A B : Prop} (h : B) : if false = true then A else B:=by
 rw [if_neg Bool.false_ne_true]
 exact h
theorem iteT {A B : Prop} (h : A) : if true = true then A else B:=by
 rw [if_pos rfl]
 exact h
theorem ite2 {c A B : Prop} [Decidable c] (h1 : c→A) (h2 : ¬ c→B) : if c then A else B:=by
 by_cases h : c
 ·rw [if_pos h]
  exact h1 h
 ·rw [if_neg h]
  exact h2 h
def Same (H H' : Hp) : Prop:=∀ b o,H b = some o→H' b = some o
theorem Same.refl (H : Hp) : Same H H:=fun _ _ h=>h
theorem Same.trans {H H1 H2 : Hp} (a : Same H H1) (b : Same H1 H2) : Same H H2:=fun c o h=>b c o (a c o h)
theorem Same.free {H H' : Hp} (e : Same H H') {l : Addr} (h : H' l = Option.none) : H l = Option.none:=by
 cases q : H l with
 | none=>rfl
 | some o =>
  rw [e l o q] at h
  cases h
theorem Same.seq {K : PySem.W.Frag} {H H' : Hp} {a : Addr} {xs : List V} (e : Same H H') (h : SqL K H a xs) : SqL K H' a xs:=by
 rcases h with (h | ⟨o,h⟩) | h
 ·exact .inl (.inl (e _ _ h))
 ·exact .inl (.inr ⟨o,e _ _ h⟩)
 ·exact .inr h
section
variable {κ : Type} [DecidableEq κ]
theorem nd_snoc : ∀ {l : List κ} {k : κ},l.Nodup→¬ k ∈ l→(l++[k]).Nodup
 | [],k,_,_=>by simp
 | a::r,k,h,hk=>by
  obtain ⟨h1,h2⟩:=List.nodup_cons.mp h
  show (a::(r++[k])).Nodup
  refine List.nodup_cons.mpr ⟨fun m=>?_,nd_snoc h2 fun m=>hk (List.mem_cons.mpr (Or.inr m))⟩
  rcases List.mem_append.mp m with q | q
  ·exact h1 q
  ·exact hk (List.mem_cons.mpr (Or.inl (List.mem_singleton.mp q).symm))
end
theorem at_of {xs : List V} {z : Int} {j : Nat} {v : V} (e : z = (j : Int)) (h : xs[j]? = some v) : atI xs z = some v:=by
 rw [e]
 exact atI_nat h
theorem Same.made {H H1 : Hp} {x dx C : Addr} (nx : H x = Option.none) (nd : H dx = Option.none) (k : ∀ b o,(upd (upd H dx (.own x)) x (.ins C dx [])) b = some o→b ≠ x→H1 b = some o) : Same H H1:=fun b o e =>
 k b o (by rw [upd_ne (ne_of_none e nx),upd_ne (ne_of_none e nd)]; exact e) (ne_of_none e nx)
end L2
end
section
set_option linter.all false
namespace Xc
open PySem
def DK (h h' : Heap) : Prop:=∀ b o,h.get? b = some o→∃ o',h'.get? b = some o'∧o'.dict = o.dict∧o'.cls = o.cls
theorem DK.refl (h : Heap) : DK h h:=fun _ o e=>⟨o,e,rfl,rfl⟩
theorem DK.trans {a b c : Heap} (x : DK a b) (y : DK b c) : DK a c:=fun d o e=>by
 obtain ⟨o1,e1,d1,c1⟩:=x d o e
 obtain ⟨o2,e2,d2,c2⟩:=y d o1 e1
 exact ⟨o2,e2,d2.trans d1,c2.trans c1⟩
structure Kd {α : Type} (t : Sem α) : Prop where
 out : ∀ (M : Model) (G : Ctx) (P : α→Pos→Shared→Prop) (Ee : Value→Pos→Shared→Prop) (p : Pos) (s : Shared),
  Sem.wp M G t P Ee p s→Sem.wp M G t (fun a p' s'=>P a p' s'∧DK s.heap s'.heap) Ee p s
theorem Kd.pure {α : Type} (a : α) : Kd (Pure.pure a : Sem α):=⟨fun _ _ _ _ _ s h=>⟨h,DK.refl _⟩⟩
theorem Kd.unsup {α : Type} (w : String) : Kd (PySem.unsupported w : Sem α):=⟨fun _ _ _ _ _ _ h=>h⟩
theorem Kd.bind {α β : Type} {m : Sem α} {f : α→Sem β} (hm : Kd m) (hf : ∀ a,Kd (f a)) : Kd (m >>= f):=⟨fun M G P Ee p s h=>by
 rw [Sem.wp_bind'] at h
 rw [Sem.wp_bind']
 refine Sem.wp_mono M G m (fun a p' s' h'=>?_) (fun _ _ _ x=>x) p s (hm.out M G _ Ee p s h)
 exact Sem.wp_mono M G (f a) (fun b p'' s'' h''=>⟨h''.1,h'.2.trans h''.2⟩) (fun _ _ _ x=>x) p' s' ((hf a).out M G P Ee p' s' h'.1)⟩
theorem Kd.cond {α : Type} {c : Prop} [Decidable c] {t u : Sem α} (ht : Kd t) (hu : Kd u) : Kd (if c then t else u):=by split <;> assumption
theorem Kd.ld (a : Addr) : Kd (PySem.load a):=⟨fun M G P Ee p s h=>by
 unfold PySem.load at h ⊢
 rw [Sem.wp_load] at h ⊢
 obtain ⟨o,e,q⟩:=h
 exact ⟨o,e,q,DK.refl _⟩⟩
theorem Kd.stk : Kd PySem.stack:=⟨fun M G P Ee p s h=>by
 unfold PySem.stack at h ⊢
 rw [Sem.wp_stack] at h ⊢
 exact ⟨h,DK.refl _⟩⟩
theorem DK.upd {h : Heap} {a : Addr} {f : Obj→Obj} (hf : ∀ o,(f o).dict = o.dict∧(f o).cls = o.cls∧(o.isFreed = false→(f o).isFreed = false)) : DK h (h.update a f):=fun b o e=>by
 by_cases hb : b = a
 ·subst hb
  have hfr:=(Heap.get?_some_iff.mp e).2
  exact ⟨f o,Heap.get?_update_self _ e ((hf o).2.2 hfr),(hf o).1,(hf o).2.1⟩
 ·exact ⟨o,(Heap.get?_update_ne _ _ _ _ hb).trans e,rfl,rfl⟩
theorem DK.push (h : Heap) (o : Obj) : DK h (h.push o):=fun b u e=>⟨u,Heap.get?_push_of_some _ e,rfl,rfl⟩
theorem Kd.upd (a : Addr) (f : Obj→Obj) (hf : ∀ o,(f o).dict = o.dict∧(f o).cls = o.cls∧(o.isFreed = false→(f o).isFreed = false)) : Kd (PySem.update a f):=⟨fun M G P Ee p s h=>by
 unfold PySem.update at h ⊢
 rw [Sem.wp_update] at h ⊢
 exact ⟨h.1,h.2,DK.upd hf⟩⟩
theorem Kd.alloc (o : Obj) : Kd (PySem.alloc o):=⟨fun M G P Ee p s h=>by
 unfold PySem.alloc at h ⊢
 rw [Sem.wp_alloc] at h ⊢
 exact ⟨h,DK.push _ _⟩⟩
theorem mapFields_same (g : Array Value→Array Value) (o : Obj) : (Obj.mapFields g o).dict = o.dict∧(Obj.mapFields g o).cls = o.cls∧(o.isFreed = false→(Obj.mapFields g o).isFreed = false):=by
 obtain ⟨c,d,dt,sl⟩:=o
 cases dt <;> exact ⟨rfl,rfl,fun h=>h⟩
theorem Kd.fld (v : Value) (i : Nat) : Kd (PySem.field v i):=⟨fun M G P Ee p s h=>by
 rw [wp_field_iff] at h ⊢
 obtain ⟨a,o,vs,x,e1,e2,e3,e4,q⟩:=h
 exact ⟨a,o,vs,x,e1,e2,e3,e4,q,DK.refl _⟩⟩
theorem Kd.setFld (v : Value) (i : Nat) (x : Value) : Kd (PySem.setField v i x):=⟨fun M G P Ee p s h=>by
 rw [wp_setField_iff] at h ⊢
 obtain ⟨a,o,vs,e1,e2,e3,e4,q⟩:=h
 exact ⟨a,o,vs,e1,e2,e3,e4,q,DK.upd fun o=>mapFields_same _ o⟩⟩
theorem kd_under : Kd underTheClaimsCaller:=by
 unfold underTheClaimsCaller
 repeat' with_reducible first
  | assumption | exact Kd.pure _ | exact Kd.unsup _ | exact Kd.fld _ _ | exact Kd.setFld _ _ _ | exact Kd.ld _ | exact Kd.stk | exact Kd.alloc _ | apply Kd.cond | apply Kd.bind | intro _ | split
theorem kd_behind (env : Env) (outer : List Env) : Kd (behindIsImport env outer):=by
 unfold behindIsImport
 repeat' with_reducible first
  | assumption | exact Kd.pure _ | exact Kd.unsup _ | exact Kd.fld _ _ | exact Kd.setFld _ _ _ | exact Kd.ld _ | exact Kd.stk | exact Kd.alloc _ | apply Kd.cond | apply Kd.bind | intro _ | split
theorem kd_kept (env : Env) (i : Bool) (l : List Env) : Kd (keptBack env i l):=by
 have:=kd_under
 cases l <;> unfold keptBack <;> repeat' with_reducible first
  | assumption | exact Kd.pure _ | exact Kd.unsup _ | exact Kd.fld _ _ | exact Kd.setFld _ _ _ | exact Kd.ld _ | exact Kd.stk | exact Kd.alloc _ | apply Kd.cond | apply Kd.bind | intro _ | split
theorem kd_ready : ∀ l : List Env,Kd (readyFrames l)
 | []=>Kd.pure _
 | env::outer=>by
  have ih:=kd_ready outer
  have h1:=kd_behind env outer
  have h2:=fun i=>kd_kept env i outer
  unfold readyFrames
  cases hf : env.frame with
  | none=>exact Kd.unsup _
  | some f =>
   dsimp only
   refine Kd.bind (Kd.ld _) fun o=>Kd.cond (Kd.pure _) (Kd.bind h1 fun i=>Kd.bind (h2 i) fun b=>Kd.bind (Kd.upd _ _ fun o=>⟨rfl,rfl,fun h=>by obtain ⟨c,d,dt,sl⟩:=o; cases dt <;> first | rfl | exact h⟩) fun _=>ih)
theorem kd_frameObject (l : List Env) : Kd (frameObject l):=by
 cases l with
 | nil=>exact Kd.pure _
 | cons env outer=>exact Kd.bind (kd_ready _) fun _=>Kd.pure _
theorem kd_frameOf (env : Env) : Kd (frameOf env):=by
 unfold frameOf frameEnvs
 refine Kd.bind (Kd.bind Kd.stk fun _=>Kd.pure _) fun l=>Kd.bind (kd_frameObject _) fun o=>?_
 cases o with
 | none=>exact Kd.unsup _
 | some f=>exact Kd.pure _
theorem kd_entryPlace (f : Addr) (b : Bool) : Kd (entryPlaceOf f b):=by
 unfold entryPlaceOf
 refine Kd.bind Kd.stk fun acts=>?_
 split <;> exact Kd.pure _
theorem kd_newEntry (a b c d e : Value) (pl : List Value) : Kd (EntryCells.newEntry a b c d e pl):=by
 unfold EntryCells.newEntry newFields newObj
 dsimp only
 have last : ∀ d : Data,Kd (newObjAsIs (Value.type "traceback") d):=fun d=>by
  unfold newObjAsIs
  exact Kd.bind (Kd.alloc _) fun _=>Kd.pure _
 exact Kd.cond (Kd.bind (Kd.unsup _) fun _=>last _) (last _)
theorem kd_note (e : Value) (env : Env) : Kd (noteFrame e env):=by
 unfold noteFrame
 cases hf : env.frame with
 | none=>exact Kd.unsup _
 | some f =>
  dsimp only
  have tail : ∀ head : Value,Kd (do setField e 1 (← EntryCells.newEntry head (← frameOf env) .none (rawInt f) .none (← entryPlaceOf f (head != .none)))):=fun head =>
   Kd.bind (kd_frameOf env) fun _=>Kd.bind (kd_entryPlace _ _) fun _=>Kd.bind (kd_newEntry _ _ _ _ _ _) fun _=>Kd.setFld _ _ _
  refine Kd.bind (Kd.fld _ _) fun head=>Kd.cond ?_ (tail head)
  exact Kd.bind (Kd.fld _ _) fun m=>Kd.cond (Kd.pure _) (Kd.bind (Kd.setFld _ _ _) fun _=>tail head)
theorem kd_flight (e : Value) (f : Option Addr) : Kd (setFlight e f):=by
 unfold setFlight
 exact Kd.bind (Kd.fld _ _) fun _=>Kd.cond (Kd.setFld _ _ _) (Kd.pure _)
theorem kd_leaving (env : Env) (e : Value) : Kd (leaving env e):=Kd.bind (kd_note e env) fun _=>kd_flight e none
theorem Kd.any {α : Type} {t : Sem α} {M : Model} {A : Around} {Q : α→Shared→Prop} {E : Value→Shared→Prop} {s : Shared} (k : Kd t) (h : wpAny M A t Q E s) : wpAny M A t (fun a s'=>Q a s'∧DK s.heap s'.heap) E s :=
 fun G p hG=>k.out M G _ _ p s (h G p hG)
end Xc
end
section
set_option linter.all false
set_option maxRecDepth 100000
namespace Xc
open PySem
section
variable {M : Model} {A : Around} {E : Value→Shared→Prop} {h : Heap} {g : Array GenState} {d : Drawn} {t : Nat} {os : OsState}
variable {nm q : Str} {C N : Addr} {bs bm bB : List Value} {hd : Bool} {sn : List Str} {sub : List Value} {ab : Bool} {col : Option Bool} {dd : Option Addr} {k0 k1 k2 k3 k5 : Option Value} {B nw ini : String}
abbrev exc (nm q : Str) (C N : Addr) (bs bm : List Value) (hd : Bool) (sn : List Str) (sub : List Value) (ab : Bool) (col : Option Bool) (dd : Option Addr) (k0 k1 k2 k3 k5 : Option Value) (nw : String) : Obj :=
 excClassObj nm q C N bs bm hd sn sub ab col dd k0 k1 k2 k3 k5 nw
theorem has_cons {v : Value} {b : Bool} (hb : bm.contains v = b) (hn : (v == Value.ref C) = false) : (Value.ref C::bm).contains v = b:=by
 rw [List.contains_cons,hn,hb,Bool.false_or]
theorem check_new (F : ExcBaseFacts B nw ini bB) (hB : bm.contains (.type B) = true) {rest : List Value} {Q : Unit→Shared→Prop} (hC : h.get? C = some (exc nm q C N bs bm hd sn sub ab col dd k0 k1 k2 k3 k5 nw))
  (hq : Q () ⟨h,g,d,t,os⟩) : wpAny M A (checkBuiltinCall nw ⟨.ref C::rest,[]⟩) Q E ⟨h,g,d,t,os⟩:=by
 have c1 : (Value.ref C::bm).contains (.type B) = true:=has_cons hB rfl
 have c2:=F.noStar
 simp only [checkBuiltinCall,F.newKind,F.newSplit,F.newRow]
 repeat (first
  | refine wpAny_loadPart_at hC ?_
  | (refine wpAny_isSubtype_exc hC ?_; rw [c1])
  | refine wpAny_staticBase_exc hC ?_
  | refine wpAny_madeBy_exc hC ?_
  | simp only [bne_self_eq_false,Bool.false_eq_true,if_false]
  | wp_step)
 exact hq
end
section
variable {prog : Program} {w : World} {A : Around} {R : Result→Shared→Prop} {h : Heap} {g : Array GenState} {d : Drawn} {t : Nat} {os : OsState}
variable {nm q : Str} {C N : Addr} {bs bm bB : List Value} {hd : Bool} {sn : List Str} {sub : List Value} {ab : Bool} {col : Option Bool} {dd : Option Addr} {k0 k1 k2 k3 k5 : Option Value} {B nw ini : String}
abbrev tupO (rest : List Value) : Obj:={ cls:=.type "tuple",data:=.seq rest.toArray }
abbrev bareO (C T : Addr) : Obj:={ cls:=.ref C,data:=.fields #[.ref T,.none,.none,.none,.bool false,.none] }
theorem run_new (F : ExcBaseFacts B nw ini bB) (hB : bm.contains (.type B) = true) (hA : bm.contains (.type "AttributeError") = false) (hN : bm.contains (.type "NameError") = false) {rest : List Value}
  (hC : h.get? C = some (exc nm q C N bs bm hd sn sub ab col dd k0 k1 k2 k3 k5 nw))
  (hq : R (.ok (.ret (.ref (h.objs.size + 1)))) ⟨(h.push (tupO rest)).push (bareO C h.objs.size),g,d,t,os⟩) (hr : rest.length≤sizeLine) :
  codeAny (model prog w) A (.builtin nw ⟨.ref C::rest,[]⟩) R ⟨h,g,d,t,os⟩:=by
 have f0:=F.ends
 have c1 : (Value.ref C::bm).contains (.type B) = true:=has_cons hB rfl
 have c2 : (Value.ref C::bm).contains (.type "AttributeError") = false:=has_cons hA rfl
 have c3 : (Value.ref C::bm).contains (.type "NameError") = false:=has_cons hN rfl
 refine codeAny_builtinAt F.entry ?_
 unfold Builtin.«BaseException.__new__»; refine wpAt_bind ?_
 show wpAt _ _ _ (stack >>= _) _ _ _; refine wpAt_bind (wpAt_stack fun p below=>wpAt_of_wpAny ?_)
 wp_walk
 refine wpAt_of_wpAny ?_
 rw [F.owner]
 repeat (first
  | with_reducible refine wpAny_madeHere_exc F.canon hC ?_
  | with_reducible refine wpAny_loadPart_at hC ?_
  | (with_reducible refine wpAny_isSubtype_exc hC ?_; first | rw [c1] | rw [c2] | rw [c3])
  | wp_step)
 show R _ _
 rw [Heap.size_push]
 exact hq
end
end Xc
end
section
set_option linter.all false
set_option maxRecDepth 100000
namespace Xc
open PySem
section
variable {prog : Program} {w : World} {A : Around} {E : Value→Shared→Prop} {h : Heap} {g : Array GenState} {d : Drawn} {t : Nat} {os : OsState}
variable {nm q : Str} {C N : Addr} {bs bm bB : List Value} {hd : Bool} {sn : List Str} {sub : List Value} {ab : Bool} {col : Option Bool} {dd : Option Addr} {k0 k1 k2 k3 k5 : Option Value} {B nw ini : String}
theorem kept2 {h : Heap} {u v : Obj} : ∀ b o,h.get? b = some o→((h.push u).push v).get? b = some o:=fun b o e=>Heap.get?_push_of_some _ (Heap.get?_push_of_some _ e)
abbrev InitAt (M : Model) (h : Heap) (C fI : Addr) : Prop:=∀ (A : Around) (Q : Option Value→Shared→Prop) (E : Value→Shared→Prop) (s : Shared),(∀ b o,h.get? b = some o→s.heap.get? b = some o)→Q (some (.ref fI)) s→wpAny M A (typeLookup (.ref C) "__init__") Q E s
theorem type_call (F : ExcBaseFacts B nw ini bB) (hB : bm.contains (.type B) = true) (hA : bm.contains (.type "AttributeError") = false) (hN : bm.contains (.type "NameError") = false) {rest : List Value} {fI : Addr} {oI : Obj} {Q : Fin→Shared→Prop}
  (hC : h.get? C = some (exc nm q C N bs bm hd sn sub ab col dd k0 k1 k2 k3 k5 nw)) (hi : InitAt (model prog w) h C fI) (hf : h.get? fI = some oI) (hfc : oI.cls = .type "function") (hr : rest.length≤sizeLine)
  (hq : wpAny (model prog w) A (call (.ref fI) (.ref (h.objs.size + 1)::rest)) (fun r s'=>r = .none∧Q (.done (.ret (.ref (h.objs.size + 1)))) s') E ⟨(h.push (tupO rest)).push (bareO C h.objs.size),g,d,t,os⟩) :
  wpAny (model prog w) A (Builtin.«type.__call__» ⟨.ref C::rest,[]⟩) Q E ⟨h,g,d,t,os⟩:=by
 repeat (first | with_reducible refine wpAny_madeBy_exc hC ?_ | with_reducible refine wpAny_loadPart_at hC ?_ | wp_step)
 refine codeAny_call_builtin_code (Code.quiet_builtin _ F.quiet) (check_new F hB hC ?_)
 refine run_new F hB hA hN hC ?_ hr
 show wpAny _ _ _ _ _ _
 have c1:=kept2 (u:=tupO rest) (v:=bareO C h.objs.size) _ _ hC
 have c2:=kept2 (u:=tupO rest) (v:=bareO C h.objs.size) _ _ hf
 have c4 : ((h.push (tupO rest)).push (bareO C h.objs.size)).get? (h.objs.size + 1) = some (bareO C h.objs.size):=by heap_get
 have c5 : (Value.ref C::bm).contains (.ref C) = true:=by simp
 unfold isInstance
 repeat (first | with_reducible refine wpAny_loadPart_at c4 ?_ | (with_reducible refine wpAny_isSubtype_exc c1 ?_; rw [c5]) | wp_step)
 show wpAny _ _ (typeLookup (.ref C) _) _ _ _; refine hi _ _ _ _ kept2 ?_
 refine wpAny_holding (wpAny_bind ?_)
 unfold bindSpecial; refine wpAny_bind (wpAny_typeOf (T:="function") ⟨_,c2,hfc⟩ ?_)
 rw [if_pos (by decide)]
 refine wpAny_pure (wpAny_bind (wpAny_mono hq (fun r s' hr=>?_) fun _ _ x=>x))
 obtain ⟨rfl,z⟩:=hr
 wp_walk
 exact z
theorem call_exc (F : ExcBaseFacts B nw ini bB) (hB : bm.contains (.type B) = true) (hA : bm.contains (.type "AttributeError") = false) (hN : bm.contains (.type "NameError") = false) {rest : List Value} {fI : Addr} {oI : Obj} {Q : Value→Shared→Prop}
  (hC : h.get? C = some (exc nm q C N bs bm hd sn sub ab col dd k0 k1 k2 k3 k5 nw)) (hi : InitAt (model prog w) h C fI) (hf : h.get? fI = some oI) (hfc : oI.cls = .type "function") (hr : rest.length≤sizeLine)
  (hq : wpAny (model prog w) (A.under (.builtin "type.__call__" ⟨.ref C::rest,[]⟩)) (call (.ref fI) (.ref (h.objs.size + 1)::rest)) (fun r s'=>r = .none∧Q (.ref (h.objs.size + 1)) s') E
   ⟨(h.push (tupO rest)).push (bareO C h.objs.size),g,d,t,os⟩) : wpAny (model prog w) A (call (.ref C) rest) Q E ⟨h,g,d,t,os⟩:=by
 have l1:=tc_lookup
 have l2:=tc_bind (.ref C)
 have l3 : (⟨h,g,d,t,os⟩ : Shared).TypeIs (.ref C) "type":=⟨_,hC,rfl⟩
 refine wpAny_call (codeAny_of_tree ?_)
 show wpAny _ _ (callAny (.ref C) _) _ _ _
 repeat (any_goals (first | assumption | with_reducible refine wpAny_loadPart_at hC ?_ | wp_step))
 refine ⟨rfl,?_⟩
 exact codeAny_call_builtin_at (Code.quiet_builtin _ (by decide +kernel)) entry_typeCall (wpAny_check_type_call_sub hC (type_call F hB hA hN hC hi hf hfc hr hq))
end
section
variable {M : Model} {A : Around} {E : Value→Shared→Prop} {env : Env}
variable {nm q : Str} {C N : Addr} {bs bm : List Value} {hd : Bool} {sn : List Str} {sub : List Value} {ab : Bool} {col : Option Bool} {dd : Option Addr} {k0 k1 k2 k3 k5 : Option Value} {nw : String}
theorem raise_made {s : Shared} {x : Sem Value} {Q : Flow→Shared→Prop} (hb : bm.contains (.type "BaseException") = true) (hh : A.handled = none)
  (h : wpAny M A x (fun v s1=>∃ e T dx sl,v = .ref e∧s1.heap.get? C = some (exc nm q C N bs bm hd sn sub ab col dd k0 k1 k2 k3 k5 nw) ∧
   s1.heap.get? e = some { cls:=.ref C,dict:=dx,data:=.fields #[.ref T,.none,.none,.none,.bool false,.none],slots:=sl }∧E (.ref e) s1) E s) :
  wpAny M A (raiseStmt env (some x) none) Q E s:=by
 have c1 : (Value.ref C::bm).contains (.type "BaseException") = true:=has_cons hb rfl
 unfold raiseStmt
 refine wpAny_bind (wpAny_mono h (fun v s1 h1=>?_) fun _ _ x=>x)
 obtain ⟨e,T,dx,sl,rfl,hC,he,hE⟩:=h1
 obtain ⟨hp,g,d,tk,os⟩:=s1
 repeat (first
  | with_reducible refine wpAny_loadPart_at he ?_
  | with_reducible refine wpAny_loadPart_at hC ?_
  | (with_reducible refine wpAny_isSubtype_exc hC ?_; rw [c1])
  | wp_step)
 exact wpAny_raiseNew_none hh hE
theorem exec_raise {s : Shared} {x : Expr} {pos : Pos} {Q : Flow→Shared→Prop} (h : wpAny M A (raiseStmt env (some (do let v ← eval x env; standAt pos; pure v)) none) Q E s) : wpAny M A (exec (.Raise (some x) none pos) env) Q E s:=by
 rw [arm_exec_Raise]
 first
  | exact wpAny_bind (wpAny_standAt h)
  | (simp only [evalOpt,Option.map]; exact wpAny_bind (wpAny_standAt h))
end
end Xc
end
section
set_option linter.all false
set_option maxRecDepth 100000
namespace Xc
open PySem PySem.Spec PyProof.Rows L2
structure Flown (P : Program) (w : World) (outer : List Env) (H : Hp) (s : Shared) (E : XK) (a : Addr) (s' : Shared) (B : Heap) (C dx : Addr) (a0 : Value) (H' : Hp) : Prop where
 os : s'.os = s.os
 bare : AllBare s'.gens
 fly : Heap.FlyingW B outer a (.ref C) a0 s'.heap
 dict : ∃ o,s'.heap.get? a = some o∧o.dict = some dx
 keep : ∀ b o,s.heap.get? b = some o→H b = none→b ∉ frs outer→B.get? b = some o
 un : Un (frs outer) [] H H' s.heap s'.heap
 hok : HOk P w H' B
 wish : E (.ref C) (some dx) H'
def CXX (P : Program) (w : World) : CXT:=fun outer H s E e s'=>∃ (a : Addr) (B : Heap) (C dx : Addr) (a0 : Value) (H' : Hp),e = .ref a∧Flown P w outer H s E a s' B C dx a0 H'
theorem pass_no {P : Program} {w : World} {X : Cx} : Passes (CXX P w) X E0:=fun _ _ _ _ _ _ _ h=>by
 obtain ⟨_,_,_,_,_,_,_,f⟩:=h
 exact f.wish.elim
theorem pass_on {P : Program} {w : World} {K : PySem.W.Frag} {mg : Str→Option Value} {base : Heap} {N : List Str} {qual : Str} {scope : Scope} {f : Addr} {cd : Value} {A : Around} {outer : List Env} {s : Shared} {H : Hp} {E : XK} :
  Passes (CXX P w) (cxOf (CXX P w) P w K mg base N qual scope f cd A outer s H E) E:=by
 intro pins σ H1 s1 e s' I h
 obtain ⟨a,B,C,dx,a0,H',rfl,F⟩:=h
 have fl:=F.fly
 refine wpAny_mono (Kd.any (kd_leaving _ _) (wpAny_leaves_onW (Q:=fun _ s''=>∃ h',s'' = { s' with heap:=h' }∧Heap.FlyingW B outer a (.ref C) a0 h'∧s'.heap.UpToSlots h') I.ok.frames rfl fl fun h' f1 f2=>⟨h',rfl,f1,f2⟩)) ?_ fun e' s'' z=>z
 rintro _ s'' ⟨⟨h',rfl,f1,f2⟩,dk⟩
 obtain ⟨o,ho,hd⟩:=F.dict
 obtain ⟨o',ho',hd',_⟩:=dk a o ho
 have noE : ∀ b : Addr,b ∉ (cxOf (CXX P w) P w K mg base N qual scope f cd A outer s H E).ex:=fun b z=>absurd (show b ∈ ([] : List Addr) from z) (by simp)
 have keep : ∀ b o,s.heap.get? b = some o→H b = none→b ∉ frs outer→B.get? b = some o:=fun b o q n hb=>by
  refine F.keep b o (I.base.keep b o q n hb (noE b)) (I.base.free b o q n (noE b)) fun z=>?_
  rcases List.mem_cons.mp (I.stkSub b z) with e1 | e1
  ·have l1:=Heap.lt_size q
   have l2 : s.heap.objs.size≤b:=by rw [e1]; exact I.ok.above
   exact absurd (Nat.lt_of_lt_of_le l1 l2) (Nat.lt_irrefl _)
  ·exact hb e1
 refine ⟨a,B,C,dx,a0,H',rfl,F.os.trans I.os,F.bare,f1,⟨o',ho',hd'.trans hd⟩,keep,?_,F.hok,F.wish⟩
 refine ⟨fun b ob q n hb _=>f1.1 b ob (keep b ob q n hb),fun b ob q n hb _=>?_,fun b ob q n _=>?_,fun b ob q _=>?_,fun b xs q=>F.un.tups b xs (I.base.tups b xs q),fun b ob u q=>F.un.frzs b ob u (I.base.frzs b ob u q),fun b ps q=>?_⟩
 ·obtain ⟨sl,e1⟩:=I.base.slot b ob q n hb (noE b)
  have hb2 : b ∈ frs (cxOf (CXX P w) P w K mg base N qual scope f cd A outer s H E).stack:=by
   show b ∈ List.filterMap _ (_::outer)
   rw [List.filterMap_cons]
   exact List.mem_cons_of_mem _ hb
  obtain ⟨sl2,e2⟩:=F.un.slot b _ e1 (I.base.free b ob q n (noE b)) hb2 (by simp)
  obtain ⟨_,o3,e3,d3⟩:=fl.2.2.1.mem hb2
  rw [e2] at e3
  obtain rfl:=Option.some.inj e3
  obtain ⟨sl4,e4⟩:=f2 b _ e2 d3
  exact ⟨sl4,e4⟩
 ·obtain ⟨o1,e1⟩:=I.base.there b ob q (noE b)
  exact F.un.free b o1 e1 (I.base.free b ob q n (noE b)) (by simp)
 ·obtain ⟨o1,e1⟩:=I.base.there b ob q (noE b)
  obtain ⟨o2,e2⟩:=F.un.there b o1 e1 (by simp)
  obtain ⟨o3,e3,_⟩:=dk b o2 e2
  exact ⟨o3,e3⟩
 ·obtain ⟨m1,e1⟩:=I.base.tbls b ps q
  obtain ⟨m2,e2⟩:=F.un.tbls b _ e1
  exact ⟨m1++m2,by rw [e2,Array.append_assoc]⟩
end Xc
end
section
set_option linter.all false
set_option maxRecDepth 100000
set_option maxHeartbeats 4000000
namespace Xc
open PySem PySem.W PySem.Builtin PySem.Builtin.ObjectAttr
def excLine : List Value→Bool
 | [.type a,.type b,.type c]=>a == "Exception" && (b == "BaseException" && c == "object")
 | .ref _::r=>excLine r
 | _=>false
theorem excLine_cons {c : Addr} {r : List Value} (h : excLine (.ref c::r) = true) : excLine r = true:=by
 cases r <;> first | exact h | cases h
theorem refuse_exc (self : Value) : ∀ {l : List Value},excLine l = true→refuseLoop self "__setattr__" l = pure ()
 | [.type a,.type b,.type c],h=>by
  simp only [excLine,Bool.and_eq_true,beq_iff_eq] at h
  obtain ⟨rfl,rfl,rfl⟩:=h
  exact PySem.F.store_Exception.passes self
 | .ref c::r,h=>by
  rw [refuseLoop_ref]
  exact refuse_exc self (excLine_cons h)
theorem excLine_obj : ∀ {l : List Value},excLine l = true→l.contains (.type "object") = true
 | [.type a,.type b,.type c],h=>by
  simp only [excLine,Bool.and_eq_true,beq_iff_eq] at h
  obtain ⟨rfl,rfl,rfl⟩:=h
  decide +kernel
 | .ref c::r,h=>by
  rw [List.contains_cons,excLine_obj (excLine_cons h),Bool.or_true]
def excOver (K : Frag) (C : Addr) : Bool:=(clsIn K C).any fun cd=>excLine cd.mro
section
variable {prog : Program} {w : World} {A : Around} {K : Frag} {C x : Addr} {s : Shared} {R : Result→Shared→Prop}
theorem osa_exc {ox : Obj} {od : Option Obj} {name : Str} {tk : Tok} {v : Value} (X : K.In s.heap) (I : InstAt s.heap x ox C od) (hp : excOver K C = true) (ht : findIn K (.ref C) name = some none)
  (h : wpAny (model prog w) A.in1 (storeInOwnDict (.ref x) (.ref C) (.str name tk) name v false)
   (fun fin s'=>match fin with | .done f=>R (.ok f) s' | .again c'=>c'.quiet = true∧codeAny (model prog w) A c' R s') (fun e s'=>R (.error e) s') s) :
  codeAny (model prog w) A (.call (.builtin "object.__setattr__") ⟨[.ref x,.str name tk,v],[]⟩) R s:=by
 have SF:=PySem.F.store_object
 obtain ⟨cd,hc,ho⟩:=any_some hp
 have ne : cd.mro.isEmpty = false:=by
  cases q : cd.mro with
  | nil=>rw [q] at ho; cases ho
  | cons _ _=>rfl
 have inst : Looks (model prog w) s.heap (isInstance (.ref x) (.type "object")) true:=I.type.andThen (looks_mroIn X (by
  unfold mroIn
  rw [hc,Option.bind_some,if_neg (by rw [ne]; decide),excLine_obj ho]))
 have mro : Looks (model prog w) s.heap (mroOf (.ref C)) cd.mro:=(looks_clsIn X hc).andThen .now
 refine codeAny_call_builtin SF.slot.plain SF.entry
  (@check_slot (model prog w) _ _ s "object.__setattr__" "object" "__setattr__" (.ref x) [.str name tk,v] [] _ SF.kind SF.split inst (SF.args (.ref x) (.str name tk) v) ?_)
 rw [osa_eq,refuse_eq]
 refine wpAny_bind (wpAny_bind (I.type.here (wpAny_bind (mro.here ?_))))
 rw [refuse_exc _ ho]
 refine wpAny_pure (wpAny_bind (I.type.here (wpAny_bind ((looks_findIn X ht).here (wpAny_bind ?_)))))
 exact wpAny_pure (a:=none) h
theorem store_bare {E : Value→Shared→Prop} {name : Str} {v : Value} {Q : Unit→Shared→Prop} {T : Addr} (X : K.In s.heap) (hx : s.heap.get? x = some (bareO C T)) (hs : findIn K (.ref C) "__setattr__" = some (some (.builtin "object.__setattr__")))
  (hp : excOver K C = true) (ht : findIn K (.ref C) name = some none) (hh : hasDictIn K C = true)
  (h : ∀ h' tk,h'.get? x = some { bareO C T with dict:=some s.heap.objs.size }→h'.Ns1 s.heap.objs.size (fun y=>if y = name then some v else none)→(∀ b o,b ≠ x→s.heap.get? b = some o→h'.get? b = some o)→Q () { s with heap:=h',toks:=tk }) :
  wpAny (model prog w) A (setAttr (.ref x) name v) Q E s:=by
 have J : InstAt s.heap x (bareO C T) C none:=⟨hx,rfl,rfl,trivial⟩
 refine set_plain X J hs (osa_exc (s:={ s with toks:=s.toks + 1 }) X J hp ht ?_)
 obtain ⟨cd,hc,hd⟩:=any_some hh
 obtain ⟨hp0,g,d,tk,os⟩:=s
 have hxs : x ≠ hp0.objs.size:=Nat.ne_of_lt (Heap.lt_size hx)
 have hx1 : (hp0.push emptyDict).get? x = some (bareO C T):=Heap.get?_push_of_some _ hx
 refine wpAny_bind (wpAny_pure (wpAny_bind (wpAny_bind (wpAny_loadPart hx (wpAny_bind (Looks.here (s:=⟨hp0,g,d,tk + 1,os⟩) (looks_clsIn X hc) ?_))))))
 rw [hd]
 refine wpAny_bind (wpAny_alloc' ?_)
 refine wpAny_bind (wpAny_update' hx1 ?_)
 refine wpAny_pure (a:=some hp0.objs.size) (wpAny_bind (wpAny_pure (wpAny_bind ?_)))
 have gd : ((hp0.push emptyDict).update x fun o=>{ o with dict:=some hp0.objs.size }).get? hp0.objs.size = some emptyDict :=
  (Heap.get?_update_ne _ _ _ _ hxs.symm).trans (Heap.get?_push_at rfl rfl)
 have nd : ((hp0.push emptyDict).update x fun o=>{ o with dict:=some hp0.objs.size }).Ns hp0.objs.size (fun _=>none) :=
  ⟨_,#[],_,gd,rfl,fun e he=>absurd he (by simp),fun _=>rfl⟩
 refine wpAny_nsSet1 (s:=⟨(hp0.push emptyDict).update x fun o=>{ o with dict:=some hp0.objs.size },g,d,tk + 1,os⟩) (Heap.Ns1.of_empty nd) fun h' hn' hs'=>?_
 obtain ⟨oD,esD,epD,hoD,hdD,hcD⟩:=hn'.count (Within.cons name v Within.nil)
 refine wpAny_bind (wpAny_lookBehind hoD (by rw [hdD]; exact pastItsLine_dict (Nat.le_trans hcD (by rw [List.length_cons,List.length_nil,sizeLine_eq]; omega))) ?_)
 refine wpAny_pure (h h' _ ?_ hn' fun b o hbx hb=>?_)
 ·exact (hs'.2 x hxs).trans (Heap.get?_update_self _ hx1 rfl)
 ·exact (hs'.2 b (Nat.ne_of_lt (Heap.lt_size hb))).trans ((Heap.get?_update_ne _ _ _ _ hbx).trans (Heap.get?_push_of_some _ hb))
end
end Xc
end
section
set_option linter.all false
set_option maxRecDepth 100000
namespace Xc
open PySem PySem.Spec PyProof.Rows L2
def bareX (C a : Addr) : Heap→Prop:=fun h=>∃ T,h.get? a = some (bareO C T)
def fullX (C dx a : Addr) : Heap→Prop:=fun h=>∃ T,h.get? a = some { bareO C T with dict:=some dx }
structure ClsX (K : PySem.W.Frag) (C : Addr) : Prop where
 sa : PySem.W.findIn K (.ref C) "__setattr__" = some (some (.builtin "object.__setattr__"))
 over : excOver K C = true
 dct : PySem.W.hasDictIn K C = true
section
variable {X : Cx} {pins : List (Addr × Obj)} {σ : L2.St} {H : Hp} {s : Shared}
theorem setX_ok {C a : Addr} {f : Str} {y : V} {u : Value} {E : Value→Shared→Prop} {A : Around} {Q : Unit→Shared→Prop} (I : Inv X pins σ H s) (ha : H a = some (.ext (bareX C a))) (c : ClsX X.K C) (n : PySem.W.findIn X.K (.ref C) f = some none) (r : RelV y u)
  (h : ∀ dx s',H dx = none→Inv X pins σ (upd (upd H dx (.xd [(f,y)])) a (.ext (fullX C dx a))) s'→Q () s') : wpAny (model X.prog X.w) A (setAttr (.ref a) f u) Q E s:=by
 obtain ⟨⟨T,hx⟩,_,_⟩:=I.hok a _ ha
 have hdn : H s.heap.objs.size = none:=I.hok.fresh (Nat.le_refl _)
 have hda : s.heap.objs.size ≠ a:=Nat.ne_of_gt (Heap.lt_size hx)
 refine store_bare I.kIn hx c.sa c.over n c.dct fun h' tk g1 g2 g3=>h s.heap.objs.size _ hdn ?_
 have ntr : ∀ b o,H b = some o→(∀ φ,o ≠ .ext φ)→b ≠ a∧b ≠ s.heap.objs.size:=fun b o e ne=>⟨fun z=>by rw [z,ha] at e; exact ne _ (Option.some.inj e).symm,ne_of_none e hdn⟩
 refine I.un ⟨fun b o q n' _ _=>g3 b o (fun z=>by rw [z,ha] at n'; cases n') q,fun b o q n' _ _=>⟨o.slots,g3 b o (fun z=>by rw [z,ha] at n'; cases n') q⟩,fun b o q n' _=>?_,fun b o q _=>?_,fun b xs q=>?_,fun b o v q=>?_,fun b ps q=>⟨#[],?_⟩⟩ ?_
 ·rw [upd_ne (fun z=>by rw [z,ha] at n'; cases n'),upd_ne (Nat.ne_of_lt (Heap.lt_size q))]
  exact n'
 ·by_cases hb : b = a
  ·rw [hb]; exact ⟨_,g1⟩
  ·exact ⟨o,g3 b o hb q⟩
 ·obtain ⟨z1,z2⟩:=ntr b _ q (fun φ z=>by cases z)
  rw [upd_ne z1,upd_ne z2]; exact q
 ·obtain ⟨z1,z2⟩:=ntr b _ q (fun φ z=>by cases z)
  rw [upd_ne z1,upd_ne z2]; exact q
 ·obtain ⟨z1,z2⟩:=ntr b _ q (fun φ z=>by cases z)
  rw [upd_ne z1,upd_ne z2,q]; simp
 ·intro b o e
  by_cases hb : b = a
  ·subst hb
   rw [upd_same] at e
   obtain rfl:=Option.some.inj e
   exact ⟨⟨T,g1⟩,⟨_,g1⟩,fun h1 h2 ⟨T',p⟩ k=>⟨T',k _ p⟩⟩
  ·rw [upd_ne hb] at e
   by_cases hb2 : b = s.heap.objs.size
   ·subst hb2
    rw [upd_same] at e
    obtain rfl:=Option.some.inj e
    refine ⟨_,g2,fun g=>?_⟩
    show RelO (List.lookup g [(f,y)]) (if g = f then some u else none)
    by_cases q : g = f
    ·rw [if_pos q,List.lookup_cons,q,beq_self_eq_true]; exact r
    ·rw [if_neg q,List.lookup_cons,beq_eq_false_iff_ne.mpr q]; exact True.intro
   ·rw [upd_ne hb2] at e
    refine (I.hok b o e).stay (fun c' v hc q=>g3 c' v ?_ q) (fun c' q=>?_) fun c' xs q=>?_
    ·rcases hc with rfl | hc
     ·exact hb
     ·exact (ntr c' _ hc (fun φ z=>by cases z)).1
    ·obtain ⟨z1,z2⟩:=ntr c' _ q (fun φ z=>by cases z)
     rw [upd_ne z1,upd_ne z2]; exact q
    ·obtain ⟨z1,z2⟩:=ntr c' _ q (fun φ z=>by cases z)
     rw [upd_ne z1,upd_ne z2]; exact q
end
def sFldX (K : PySem.W.Frag) (ta tv : TE) (f : Str) : TS:=fun D σ H=>tv σ H fun y H1=>ta σ H1 fun x H2=>∃ a C,x = .ref a∧H2 a = some (.ext (bareX C a))∧ClsX K C∧PySem.W.findIn K (.ref C) f = some none ∧
 ∀ dx,H2 dx = none→D.nx σ (upd (upd H2 dx (.xd [(f,y)])) a (.ext (fullX C dx a)))
section
variable {X : Cx} {o e value : Expr} {f : Str} {pos pos' tpos : Pos} {ta tv : TE}
theorem ps_fldX (ha : PE X o ta) (hv : PE X value tv) (hs : swapsWith value (some (.Attribute o f pos')) pos.line X.env = pure false) : PS X (.Assign [.Attribute o f pos'] value pos) (sFldX X.K ta tv f):=by
 intro pins s σ H D I h
 refine plainObj_wpAny_Assign_Attribute (thn (hv pins s σ H _ I h) fun u s1 ⟨y,H1,I1,ry,q⟩=>thn (ha pins s1 σ H1 _ I1 q) fun ov s2 ⟨x,H2,I2,rx,a,C,ex,ea,c,n,q2⟩=>?_) hs
 subst ex
 obtain rfl : ov = Value.ref a:=rx
 exact setX_ok I2 ea c n ry fun dx s3 hd I3=>⟨σ,_,I3,q2 dx hd⟩
end
structure ExcC (K : PySem.W.Frag) (C fI : Addr) : Prop where
 cls : ∃ nm q N bs bm hd sn sub ab col dd k0 k1 k2 k3 k5,K.lookup C = some (exc nm q C N bs bm hd sn sub ab col dd k0 k1 k2 k3 k5 "Exception.__new__")∧bm.contains (.type "Exception") = true∧bm.contains (.type "AttributeError") = false ∧
  bm.contains (.type "NameError") = false∧bm.contains (.type "BaseException") = true
 init : PySem.W.findIn K (.ref C) "__init__" = some (some (.ref fI))
 fn : ∃ o,K.lookup fI = some o∧o.cls = .type "function"
 kp : PySem.W.keepIn K (.ref C) = true
section
variable {X : Cx} {CX : CXT} {k : Nat} {f C : Addr} {fd : FuncData} {ps : List Str} {sp : Sp} {E : XK} {x : Str} {p pos cpos : Pos} {e : Expr} {es : List Expr} {t : TA}
theorem run_exc {pins : List (Addr × Obj)} {σ : L2.St} {H : Hp} {s : Shared} {Q : V→Hp→Prop} {us : List Value} {vs : List V} (M : ExcC X.K C f) (F : FnOk X.prog X.w X.K X.mg X.base CX k f fd ps sp) (hr : Room (k + 1) X.A) (hb : Binds X.K fd ps [])
  (hx : Passes CX X E) (I : Inv X pins σ H s) (r : Vals vs us) (hz : us.length≤sizeLine)
  (h : ∀ a,H a = none→sp (.ref a::vs) (upd H a (.ext (bareX C a))) (fun v H2=>v = .non∧Q (.ref a) H2) E) : wpAny (model X.prog X.w) X.A (call (.ref C) us) (EP X pins σ Q) X.xe s:=by
 obtain ⟨nm,q,N,bs,bm,hd,sn,sub,ab,col,dd,k0,k1,k2,k3,k5,lk,b1,b2,b3,b4⟩:=M.cls
 obtain ⟨oI,lI,cI⟩:=M.fn
 have hq:=h (s.heap.objs.size + 1) (I.hok.fresh (Nat.le_succ _))
 obtain ⟨hp,g,d,tk,os⟩:=s
 have I1 : Inv X pins σ H { (⟨hp,g,d,tk,os⟩ : Shared) with heap:=hp.push (tupO us),toks:=tk }:=I.kept (t':=tk) fun b u e=>Heap.get?_push_of_some _ e
 have new : ((hp.push (tupO us)).push (bareO C hp.objs.size)).get? (hp.objs.size + 1) = some (bareO C hp.objs.size):=by heap_get
 have I2 : Inv X pins σ (upd H (hp.objs.size + 1) (.ext (bareX C (hp.objs.size + 1)))) ⟨(hp.push (tupO us)).push (bareO C hp.objs.size),g,d,tk,os⟩:=by
  refine I1.laid (a:=hp.objs.size + 1) (o:=.ext (bareX C (hp.objs.size + 1))) (t':=tk) (fun b u e=>Heap.get?_push_of_some _ e) (Nat.le_of_eq (Heap.size_push _ _)) ?_
  exact ⟨⟨_,new⟩,⟨_,new⟩,fun h1 h2 ⟨T',z⟩ kk=>⟨T',kk _ z⟩⟩
 have r2 : Vals (V.ref (hp.objs.size + 1)::vs) (Value.ref (hp.objs.size + 1)::us):=.cons rfl r
 have hl : (Value.ref (hp.objs.size + 1)::us++[]).length = ps.length:=by
  rw [List.append_nil,← r2.length]
  exact F.len _ _ _ _ hq
 have hbd:=hb _ (Value.ref (hp.objs.size + 1)::us) I2.kIn hl
 rw [List.append_nil] at hbd
 refine call_exc PySem.F.excBase_Exception b1 b2 b3 (I.kIn _ _ lk) (PySem.W.looks_findIn I.kIn M.init) (I.kIn _ _ lI) cI hz ?_
 refine wpAny_call (codeAny_mono (F.run _ X.stack _ _ ⟨Value.ref (hp.objs.size + 1)::us,[]⟩ (Value.ref (hp.objs.size + 1)::us) _ _ E (hr.make C us []) (I2.env0.make C us []) hbd r2 hq) fun rr s' hq'=>?_)
 cases rr with
 | error e=>exact hx pins σ _ _ e s' I2 hq'
 | ok fl =>
  cases fl with
  | ret u =>
   obtain ⟨v,H',I3,rv,ev,q3⟩:=I2.after hq'
   subst ev
   exact ⟨rv,⟨V.ref (hp.objs.size + 1),H',I3,rfl,q3⟩⟩
  | next=>exact False.elim hq'
  | brk=>exact False.elim hq'
  | cont=>exact False.elim hq'
end
def del (H : Hp) (a : Addr) : Hp:=fun b=>if b = a then none else H b
theorem del_ne {H : Hp} {a b : Addr} (h : b ≠ a) : del H a b = H b:=if_neg h
theorem del_same {H : Hp} {a : Addr} : del H a a = none:=if_pos rfl
def tRaise (C : Addr) (sp : Sp) (E : XK) (t : TA) : TS:=fun _ σ H=>t σ H fun vs H1=>vs.length≤sizeLine∧∀ a,H1 a = none→sp (.ref a::vs) (upd H1 a (.ext (bareX C a)))
 (fun v H2=>v = .non∧∃ a' dx,V.ref a = .ref a'∧H2 a' = some (.ext (fullX C dx a'))∧E (.ref C) (some dx) (del H2 a')) E0
section
variable {P : Program} {w : World} {K : PySem.W.Frag} {mg : Str→Option Value} {base : Heap} {N : List Str} {qual : Str} {scope : Scope} {f : Addr} {cd : Value} {A : Around} {outer : List Env} {s : Shared} {H : Hp} {E : XK}
theorem thrown {pins : List (Addr × Obj)} {σ : L2.St} {H2 : Hp} {s2 : Shared} {a C dx : Addr} (I : Inv (cxOf (CXX P w) P w K mg base N qual scope f cd A outer s H E) pins σ H2 s2) (ha : H2 a = some (.ext (fullX C dx a))) (hE : E (.ref C) (some dx) (del H2 a)) :
  (cxOf (CXX P w) P w K mg base N qual scope f cd A outer s H E).xe (.ref a) s2:=by
 obtain ⟨⟨T,hx⟩,_,_⟩:=I.hok a _ ha
 have noE : ∀ b : Addr,b ∉ (cxOf (CXX P w) P w K mg base N qual scope f cd A outer s H E).ex:=fun b z=>absurd (show b ∈ ([] : List Addr) from z) (by simp)
 have hin : ∀ env ∈ (cxOf (CXX P w) P w K mg base N qual scope f cd A outer s H E).stack,∀ b,env.frame = some b→b ∈ a::frs (cxOf (CXX P w) P w K mg base N qual scope f cd A outer s H E).stack:=fun env he b hb =>
  List.mem_cons_of_mem _ (List.mem_filterMap.mpr ⟨env,he,hb⟩)
 have hfr:=PySem.W.funFrames_hide I.stack hin
 have toB : ∀ b o,s2.heap.get? b = some o→b ≠ a→b ∉ frs (cxOf (CXX P w) P w K mg base N qual scope f cd A outer s H E).stack→(PySem.W.hideAll s2.heap (a::frs (cxOf (CXX P w) P w K mg base N qual scope f cd A outer s H E).stack)).get? b = some o :=
  fun b o q h1 h2=>PySem.W.hideAll_get _ q fun z=>(List.mem_cons.mp z).elim h1 h2
 refine wpAny_mono (Kd.any (kd_leaving _ _) (wpAny_leaving_firstW (base:=PySem.W.hideAll s2.heap (a::frs (cxOf (CXX P w) P w K mg base N qual scope f cd A outer s H E).stack)) (a0:=.ref T)
  (Q:=fun _ s''=>∃ h',s'' = { s2 with heap:=h' }∧Heap.LeftW (PySem.W.hideAll s2.heap (a::frs (cxOf (CXX P w) P w K mg base N qual scope f cd A outer s H E).stack)) (cxOf (CXX P w) P w K mg base N qual scope f cd A outer s H E).stack a (.ref C) (.ref T) s2.heap h')
  I.ok.frames hfr rfl hx (fun b o q=>PySem.W.of_hideAll _ q) (PySem.W.hideAll_none _ List.mem_cons_self) rfl rfl rfl fun h' l=>⟨h',rfl,l⟩)) ?_ fun e' s'' z=>z
 rintro _ s'' ⟨⟨h',rfl,l1,l2,l3,l4⟩,dk⟩
 obtain ⟨o',ho',hd',_⟩:=dk a _ hx
 have tr : ∀ b o,H2 b = some o→(∀ φ,o ≠ .ext φ)→b ≠ a:=fun b o e ne z=>by rw [z,ha] at e; exact ne _ (Option.some.inj e).symm
 have keep : ∀ b o,s.heap.get? b = some o→H b = none→b ∉ frs outer→(PySem.W.hideAll s2.heap (a::frs (cxOf (CXX P w) P w K mg base N qual scope f cd A outer s H E).stack)).get? b = some o:=fun b o q n hb=>by
  have n2:=I.base.free b o q n (noE b)
  refine toB b o (I.base.keep b o q n hb (noE b)) (fun z=>by rw [z,ha] at n2; cases n2) fun z=>?_
  rcases List.mem_cons.mp (I.stkSub b z) with e1 | e1
  ·have l1:=Heap.lt_size q
   have l2 : s.heap.objs.size≤b:=by rw [e1]; exact I.ok.above
   exact absurd (Nat.lt_of_lt_of_le l1 l2) (Nat.lt_irrefl _)
  ·exact hb e1
 refine ⟨a,_,C,dx,.ref T,del H2 a,rfl,I.os,I.bare,⟨l1,PySem.W.hideAll_none _ List.mem_cons_self,l2.2.2,l3⟩,⟨o',ho',hd'⟩,keep,?_,fun b o e=>?_,hE⟩
 ·refine ⟨fun b ob q n hb _=>l1 b ob (keep b ob q n hb),fun b ob q n hb _=>?_,fun b ob q n _=>?_,fun b ob q _=>?_,fun b xs q=>?_,fun b ob u q=>?_,fun b ps q=>?_⟩
  ·obtain ⟨sl,e1⟩:=I.base.slot b ob q n hb (noE b)
   have hb2 : b ∈ frs (cxOf (CXX P w) P w K mg base N qual scope f cd A outer s H E).stack:=by
    show b ∈ List.filterMap _ (_::outer)
    rw [List.filterMap_cons]
    exact List.mem_cons_of_mem _ hb
   obtain ⟨_,o3,e3,d3⟩:=I.stack.mem hb2
   rw [e1] at e3
   obtain rfl:=Option.some.inj e3
   obtain ⟨sl4,e4⟩:=l4 b _ e1 d3
   exact ⟨sl4,e4⟩
  ·have n2:=I.base.free b ob q n (noE b)
   by_cases hb : b = a
   ·rw [hb]; exact del_same
   ·rw [del_ne hb]; exact n2
  ·obtain ⟨o1,e1⟩:=I.base.there b ob q (noE b)
   obtain ⟨o3,e3,_⟩:=dk b o1 e1
   exact ⟨o3,e3⟩
  ·have q2:=I.base.tups b xs q
   rw [del_ne (tr b _ q2 fun φ z=>by cases z)]; exact q2
  ·have q2:=I.base.frzs b ob u q
   rw [del_ne (tr b _ q2 fun φ z=>by cases z)]; exact q2
  ·obtain ⟨m,q2⟩:=I.base.tbls b ps q
   exact ⟨m,by rw [del_ne (tr b _ q2 fun φ z=>by cases z)]; exact q2⟩
 ·have hb : b ≠ a:=fun z=>by rw [z,del_same] at e; cases e
  rw [del_ne hb] at e
  refine (I.hok b o e).stay (fun c u hc q=>toB c u q ?_ fun z=>?_) (fun c q=>?_) fun c xs q=>?_
  ·rcases hc with rfl | hc
   ·exact hb
   ·exact tr c _ hc fun φ z=>by cases z
  ·have nf:=I.stkFree c z
   rcases hc with rfl | hc
   ·rw [e] at nf; cases nf
   ·rw [hc] at nf; cases nf
  ·rw [del_ne (tr c _ q fun φ z=>by cases z)]; exact q
  ·rw [del_ne (tr c _ q fun φ z=>by cases z)]; exact q
variable {k : Nat} {C fI : Addr} {fd : FuncData} {ps : List Str} {sp : Sp} {x : Str} {p pos cpos : Pos} {e : Expr} {es : List Expr} {t : TA}
theorem raise_tail {pins : List (Addr × Obj)} {σ : L2.St} {H1 : Hp} {s1 : Shared} {env : Env} {ev : Sem Value} {D : Flow→Shared→Prop} (M : ExcC K C fI) (I : Inv (cxOf (CXX P w) P w K mg base N qual scope f cd A outer s H E) pins σ H1 s1)
  (h : wpAny (model P w) (cxOf (CXX P w) P w K mg base N qual scope f cd A outer s H E).A ev (EP (cxOf (CXX P w) P w K mg base N qual scope f cd A outer s H E) pins σ fun v H2=>∃ a dx,v = .ref a∧H2 a = some (.ext (fullX C dx a))∧E (.ref C) (some dx) (del H2 a))
   (cxOf (CXX P w) P w K mg base N qual scope f cd A outer s H E).xe s1) (hh : (cxOf (CXX P w) P w K mg base N qual scope f cd A outer s H E).A.handled = none) :
  wpAny (model P w) (cxOf (CXX P w) P w K mg base N qual scope f cd A outer s H E).A (raiseStmt env (some (do let v ← ev; standAt pos; pure v)) none) D (cxOf (CXX P w) P w K mg base N qual scope f cd A outer s H E).xe s1:=by
 obtain ⟨nm,q,N',bs,bm,hd,sn,sub,ab,col,dd,k0,k1,k2,k3,k5,lk,b1,b2,b3,b4⟩:=M.cls
 refine raise_made (C:=C) (nm:=nm) (q:=q) (N:=N') (bs:=bs) (bm:=bm) (hd:=hd) (sn:=sn) (sub:=sub) (ab:=ab) (col:=col) (dd:=dd) (k0:=k0) (k1:=k1) (k2:=k2) (k3:=k3) (k5:=k5) (nw:="Exception.__new__") b4 hh ?_
 refine wpAny_bind (wpAny_mono h (fun v s2 h2=>wpAny_bind (wpAny_standAt (wpAny_pure ?_))) fun _ _ z=>z)
 obtain ⟨vv,H2,I2,rv,a,dx,rfl,ha,hE⟩:=h2
 obtain rfl : v = Value.ref a:=rv
 obtain ⟨⟨T,hx⟩,_,_⟩:=I2.hok a _ ha
 exact ⟨a,T,some dx,#[],rfl,I2.kIn _ _ lk,hx,thrown I2 ha hE⟩
theorem ps_raise (M : ExcC K C fI) (F : FnOk P w K mg base (CXX P w) k fI fd ps sp) (hr : Room (k + 1) (cxOf (CXX P w) P w K mg base N qual scope f cd A outer s H E).A) (hb : Binds K fd ps [])
  (hg : Gl (cxOf (CXX P w) P w K mg base N qual scope f cd A outer s H E) x) (hm : mg x = some (.ref C)) (ha : PA (cxOf (CXX P w) P w K mg base N qual scope f cd A outer s H E) (e::es) t)
  (hdb : (x == ("__debug__" : Str)) = false:=by decide)
  (he : starEach (e::es) (cxOf (CXX P w) P w K mg base N qual scope f cd A outer s H E).env = (false,eval e (cxOf (CXX P w) P w K mg base N qual scope f cd A outer s H E).env)::starEach es (cxOf (CXX P w) P w K mg base N qual scope f cd A outer s H E).env:=by rfl)
  (hpl : (backTo cpos (starEach es (cxOf (CXX P w) P w K mg base N qual scope f cd A outer s H E).env)).any (·.1) = false:=by rfl) :
  PS (cxOf (CXX P w) P w K mg base N qual scope f cd A outer s H E) (.Raise (some (.Call (.Name x p) (e::es) [] cpos)) none pos) (tRaise C sp E t):=by
 intro pins s1 σ H1 D I h
 refine exec_raise (raise_tail M I ?_ hr.hd)
 refine wpAny_Call_Name_kw (ld_glob I hg hm ?_ hdb)
 refine PySem.W.callWith_K (h₀:=base) I.ok.mod.kin M.kp (thn (ha cpos pins s1 σ H1 _ I h) fun us s2 ⟨vs,H2,I2,r,hz,q⟩=>⟨I2.kIn,?_⟩) he hpl
 refine run_exc (us:=us) M F hr hb pass_no I2 r (by rw [← r.length]; exact hz) fun a hn=>?_
 exact q a hn
theorem ps_raise0 (M : ExcC K C fI) (F : FnOk P w K mg base (CXX P w) k fI fd ps sp) (hr : Room (k + 1) (cxOf (CXX P w) P w K mg base N qual scope f cd A outer s H E).A) (hb : Binds K fd ps [])
  (hg : Gl (cxOf (CXX P w) P w K mg base N qual scope f cd A outer s H E) x) (hm : mg x = some (.ref C)) (hdb : (x == ("__debug__" : Str)) = false:=by decide) :
  PS (cxOf (CXX P w) P w K mg base N qual scope f cd A outer s H E) (.Raise (some (.Call (.Name x p) [] [] cpos)) none pos) (tRaise C sp E tNil):=by
 intro pins s1 σ H1 D I h
 obtain ⟨hz,q⟩ : ([] : List V).length≤sizeLine∧_:=h
 refine exec_raise (raise_tail M I ?_ hr.hd)
 refine wpAny_Call_Name_kw (ld_glob I hg hm ?_ hdb)
 exact PySem.W.callWith_K0 I.kIn M.kp (run_exc (us:=[]) M F hr hb pass_no I .nil (Nat.zero_le _) fun a hn=>q a hn)
end
end Xc
end
section
set_option linter.all false
namespace Sp
open Rb35
def cls (b : Nat) : Nat :=
 if isWord b || (signs.contains b || (b == 35 || b == 10)) then b else if b == 9 || (b == 13 || b == 32) then 32 else 63
theorem cls_facts : ∀ b,b < 256→isSmall (cls b) = isSmall b∧isDigit (cls b) = isDigit b∧isWord (cls b) = isWord b∧(cls b == 10) = (b == 10)∧(cls b == 35) = (b == 35) ∧
  signs.contains (cls b) = signs.contains b∧((cls b == 32) || (cls b == 10)) = isBlank b∧((isWord b || signs.contains b) = true→cls b = b):=by decide +kernel
abbrev PT:=List Nat × Nat
def runLen : List Nat→Nat
 | []=>0
 | c::r=>if c = 35 then ((c::r).takeWhile fun x=>x != 10).length else if isSmall c = true then ((c::r).takeWhile isWord).length
  else if isDigit c = true then ((c::r).takeWhile isDigit).length else 1
def skipped (c : Nat) : Bool:=c == 32 || (c == 10 || c == 35)
def ptoks : Nat→Nat→List Nat→List PT
 | 0,at_,_=>[([],at_)]
 | f + 1,at_,b=>match b with
  | []=>[([],at_)]
  | c::r=>if skipped c = true then ptoks f (at_ + runLen (c::r)) ((c::r).drop (runLen (c::r)))
   else ((c::r).take (runLen (c::r)),at_)::ptoks f (at_ + runLen (c::r)) ((c::r).drop (runLen (c::r)))
theorem ptoks_cons (f at_ c : Nat) (r : List Nat) : ptoks (f + 1) at_ (c::r) = if skipped c = true then ptoks f (at_ + runLen (c::r)) ((c::r).drop (runLen (c::r)))
   else ((c::r).take (runLen (c::r)),at_)::ptoks f (at_ + runLen (c::r)) ((c::r).drop (runLen (c::r))):=rfl
def absTok (w : List Nat) : Tok:=match w with
 | []=>.ended
 | c::r=>if isSmall c = true then (if 15 < (c::r).length then .bad else .name (c::r))
  else if isDigit c = true then (if 5 < (c::r).length then .bad else .num (valueOf (c::r)))
  else if r = []∧signs.contains c = true then .sign c else .bad
def absT : List PT→Toks
 | []=>[]
 | t::r=>match absTok t.1 with
  | .bad=>[(.bad,t.2)]
  | .ended=>[(.ended,t.2)]
  | x=>(x,t.2)::absT r
theorem takeWhile_map_len {p q : Nat→Bool} {g : Nat→Nat} : ∀ {l : List Nat},(∀ x ∈ l,p (g x) = q x)→((l.map g).takeWhile p) = (l.takeWhile q).map g
 | [],_=>rfl
 | a::r,h=>by
  have h1:=h a List.mem_cons_self
  have h2:=takeWhile_map_len (p:=p) (q:=q) (g:=g) (l:=r) fun x hx=>h x (List.mem_cons_of_mem _ hx)
  simp only [List.map_cons,List.takeWhile_cons,h1]
  cases q a <;> simp [h2]
theorem takeWhile_all {p : Nat→Bool} : ∀ {l : List Nat} {x : Nat},x ∈ l.takeWhile p→p x = true∧x ∈ l
 | [],_,h=>by simp at h
 | a::r,x,h=>by
  rw [List.takeWhile_cons] at h
  cases e : p a with
  | false=>rw [e] at h; simp at h
  | true =>
   rw [e] at h
   simp at h
   rcases h with rfl | h
   ·exact ⟨e,List.mem_cons_self⟩
   ·exact ⟨(takeWhile_all h).1,List.mem_cons_of_mem _ (takeWhile_all h).2⟩
theorem take_len_takeWhile {p : Nat→Bool} : ∀ (l : List Nat),l.take (l.takeWhile p).length = l.takeWhile p
 | []=>rfl
 | a::r=>by
  rw [List.takeWhile_cons]
  cases e : p a <;> simp [take_len_takeWhile r]
theorem map_id_of {g : Nat→Nat} : ∀ {l : List Nat},(∀ x ∈ l,g x = x)→l.map g = l
 | [],_=>rfl
 | a::r,h=>by
  rw [List.map_cons,h a List.mem_cons_self,map_id_of fun x hx=>h x (List.mem_cons_of_mem _ hx)]
theorem drop_map' {g : Nat→Nat} (l : List Nat) (k : Nat) : (l.map g).drop k = (l.drop k).map g:=(List.map_drop).symm
theorem toks_eq : ∀ (f at_ : Nat) (b : List Nat),(∀ x ∈ b,x < 256)→absT (ptoks f at_ (b.map cls)) = toksFrom f at_ b
 | 0,at_,b,_=>rfl
 | f + 1,at_,[],_=>rfl
 | f + 1,at_,c::r,hb=>by
  have hc:=cls_facts c (hb c List.mem_cons_self)
  have hall : ∀ x ∈ c::r,x < 256:=hb
  obtain ⟨h1,h2,h3,h4,h5,h6,h7,h8⟩:=hc
  have e35 : (cls c = 35)↔c = 35:=by
   constructor
   ·intro e; have:=h5; rw [e] at this; simpa using this.symm
   ·intro e; have:=h5; rw [e] at this; simpa [e] using this
  have wW : ((c::r).map cls).takeWhile isWord = (c::r).takeWhile isWord:=by
   rw [takeWhile_map_len (q:=isWord) fun x hx=>(cls_facts x (hall x hx)).2.2.1]
   exact map_id_of fun x hx=>(cls_facts x (hall x (takeWhile_all hx).2)).2.2.2.2.2.2.2 (by simp [(takeWhile_all hx).1])
  have wD : ((c::r).map cls).takeWhile isDigit = (c::r).takeWhile isDigit:=by
   rw [takeWhile_map_len (q:=isDigit) fun x hx=>(cls_facts x (hall x hx)).2.1]
   exact map_id_of fun x hx=>(cls_facts x (hall x (takeWhile_all hx).2)).2.2.2.2.2.2.2 (by
    have:=(takeWhile_all hx).1
    simp [isWord,this])
  have wN : (((c::r).map cls).takeWhile fun x=>x != 10).length = ((c::r).takeWhile fun x=>x != 10).length:=by
   rw [takeWhile_map_len (q:=fun x=>x != 10) fun x hx=>by
    have:=(cls_facts x (hall x hx)).2.2.2.1
    show (!(cls x == 10)) = !(x == 10)
    rw [this]]
   exact List.length_map _
  have hlen : (c::r).map cls = cls c::r.map cls:=rfl
  have drops : ∀ k x,x ∈ (c::r).drop k→x < 256:=fun k x hx=>hall x (List.mem_of_mem_drop hx)
  rw [toksFrom]
  rw [hlen,ptoks_cons]
  by_cases hbl : isBlank c = true
  ·
   rw [if_pos hbl]
   have hs : skipped (cls c) = true:=by
    rw [hbl] at h7
    unfold skipped
    cases h32 : (cls c == 32) <;> simp_all
   rw [if_pos hs]
   have n35 : ¬ cls c = 35:=by
    rw [e35]; intro e; subst e; revert hbl; decide
   have nsm : isSmall (cls c) = false:=by
    rw [h1]; cases e : isSmall c with
    | false=>rfl
    | true =>
     exfalso
     simp [isSmall] at e
     simp [isBlank] at hbl
     omega
   have ndg : isDigit (cls c) = false:=by
    rw [h2]; cases e : isDigit c with
    | false=>rfl
    | true =>
     exfalso
     simp [isDigit] at e
     simp [isBlank] at hbl
     omega
   have er : runLen (cls c::r.map cls) = 1:=by
    unfold runLen
    dsimp only
    rw [if_neg n35,if_neg (by simp [nsm]),if_neg (by simp [ndg])]
   rw [er]
   exact toks_eq f (at_ + 1) r fun x hx=>hall x (List.mem_cons_of_mem _ hx)
  ·rw [if_neg hbl]
   have hbl' : isBlank c = false:=by simpa using hbl
   rw [hbl'] at h7
   by_cases h35 : c = 35
   ·rw [if_pos h35]
    have e1 : cls c = 35:=e35.mpr h35
    have hs : skipped (cls c) = true:=by rw [e1]; rfl
    rw [if_pos hs]
    have er : runLen (cls c::r.map cls) = ((c::r).takeWhile fun x=>x != 10).length:=by
     unfold runLen
     dsimp only
     rw [if_pos e1,← hlen,wN]
    rw [er,← hlen,drop_map']
    exact toks_eq f _ _ (drops _)
   ·rw [if_neg h35]
    have n35 : ¬ cls c = 35:=fun e=>h35 (e35.mp e)
    have hs : skipped (cls c) = false:=by
     unfold skipped
     cases h32 : (cls c == 32) <;> cases h10 : (cls c == 10) <;> simp_all
    rw [if_neg (by simp [hs])]
    by_cases hsm : isSmall c = true
    ·rw [if_pos hsm]
     have er : runLen (cls c::r.map cls) = ((c::r).takeWhile isWord).length:=by
      unfold runLen
      dsimp only
      rw [if_neg n35,if_pos (by rw [h1]; exact hsm),← hlen,wW]
     have et : (cls c::r.map cls).take ((c::r).takeWhile isWord).length = (c::r).takeWhile isWord:=by
      rw [← hlen,← wW]
      exact take_len_takeWhile _
     have ew : (c::r).takeWhile isWord = c::r.takeWhile isWord:=by
      rw [List.takeWhile_cons,show isWord c = true by simp [isWord,hsm]]
      rfl
     rw [er,et,← hlen,drop_map']
     show absT (((c::r).takeWhile isWord,at_)::_) = _
     have ih:=toks_eq f (at_ + ((c::r).takeWhile isWord).length) _ (drops ((c::r).takeWhile isWord).length)
     rw [absT,ih]
     dsimp only
     rw [ew]
     unfold absTok
     dsimp only
     rw [if_pos hsm]
     by_cases hl : 15 < (c::r.takeWhile isWord).length
     ·rw [if_pos hl,if_pos hl]
     ·rw [if_neg hl,if_neg hl]
    ·rw [if_neg hsm]
     by_cases hdg : isDigit c = true
     ·rw [if_pos hdg]
      have er : runLen (cls c::r.map cls) = ((c::r).takeWhile isDigit).length:=by
       unfold runLen
       dsimp only
       rw [if_neg n35,if_neg (by rw [h1]; exact hsm),if_pos (by rw [h2]; exact hdg),← hlen,wD]
      have et : (cls c::r.map cls).take ((c::r).takeWhile isDigit).length = (c::r).takeWhile isDigit:=by
       rw [← hlen,← wD]
       exact take_len_takeWhile _
      have ew : (c::r).takeWhile isDigit = c::r.takeWhile isDigit:=by
       rw [List.takeWhile_cons,hdg]
       rfl
      rw [er,et,← hlen,drop_map']
      show absT (((c::r).takeWhile isDigit,at_)::_) = _
      have ih:=toks_eq f (at_ + ((c::r).takeWhile isDigit).length) _ (drops ((c::r).takeWhile isDigit).length)
      rw [absT,ih]
      dsimp only
      rw [ew]
      unfold absTok
      dsimp only
      rw [if_neg hsm,if_pos hdg]
      by_cases hl : 5 < (c::r.takeWhile isDigit).length
      ·rw [if_pos hl,if_pos hl]
      ·rw [if_neg hl,if_neg hl]
     ·rw [if_neg hdg]
      have er : runLen (cls c::r.map cls) = 1:=by
       unfold runLen
       dsimp only
       rw [if_neg n35,if_neg (by rw [h1]; exact hsm),if_neg (by rw [h2]; exact hdg)]
      rw [er]
      show absT (([cls c],at_)::ptoks f (at_ + 1) (r.map cls)) = _
      have ih:=toks_eq f (at_ + 1) r fun x hx=>hall x (List.mem_cons_of_mem _ hx)
      rw [absT,ih]
      have ea : absTok [cls c] = if signs.contains c = true then .sign c else .bad:=by
       unfold absTok
       dsimp only
       rw [if_neg (by rw [h1]; exact hsm),if_neg (by rw [h2]; exact hdg)]
       by_cases hsg : signs.contains c = true
       ·rw [if_pos ⟨rfl,by rw [h6]; exact hsg⟩,if_pos hsg,h8 (by rw [hsg,Bool.or_true])]
       ·rw [if_neg fun z=>hsg (by rw [← h6]; exact z.2),if_neg hsg]
      dsimp only
      rw [ea]
      by_cases hsg : signs.contains c = true
      ·rw [if_pos hsg,if_pos hsg]
      ·rw [if_neg hsg,if_neg hsg]
end Sp
end
section
set_option linter.all false
namespace Sp
open Rb35
def ofL : List Form→Forms
 | []=>.nil
 | f::l=>.cons f (ofL l)
def toL : Forms→List Form
 | .nil=>[]
 | .cons f l=>f::toL l
theorem toL_ofL : ∀ l,toL (ofL l) = l
 | []=>rfl
 | f::l=>by rw [ofL,toL,toL_ofL l]
theorem ofL_toL : ∀ l,ofL (toL l) = l
 | .nil=>rfl
 | .cons f l=>by rw [toL,ofL,ofL_toL l]
theorem countOf_toL : ∀ l : Forms,countOf l = (toL l).length
 | .nil=>rfl
 | .cons f l=>by rw [countOf,toL,List.length_cons,countOf_toL l]
theorem toL_joined : ∀ a b : Forms,toL (joined a b) = toL a++toL b
 | .nil,b=>rfl
 | .cons f l,b=>by rw [joined,toL,toL_joined l b]; rfl
theorem is_len {c : Nat} {t : Toks} (h : is_ c t = true) : t.drop 1 = t.tail∧(t.drop 1).length + 1 = t.length:=by
 cases t with
 | nil=>simp [is_] at h
 | cons a r=>simp
theorem take_len {c : Nat} {t u : Toks} (h : take_ c t = .ok u) : u.length + 1 = t.length:=by
 unfold take_ at h
 by_cases q : is_ c t = true
 ·rw [if_pos q] at h
  cases h
  exact (is_len q).2
 ·rw [if_neg q] at h; cases h
def okWhat (w : Nat) : Prop:=w = 0∨w = 1∨w = 2∨w = 10∨w = 11∨w = 12
def cw (w : Nat) : Nat:=if w = 0 then 1 else if w = 10 then 2 else if w = 1 then 3 else if w = 11 then 4 else if w = 2 then 5 else 6
theorem readAt_succ (e : Known) (f what : Nat) (t : Toks) : readAt e (f + 1) what t =
  if 10≤what then (readAt e f (what - 10) t).bind fun (x : Forms × Toks)=>if is_ (betweens what) x.2 = true then (readAt e f what (x.2.drop 1)).map fun (y : Forms × Toks)=>(joined x.1 y.1,y.2) else .ok x
  else if 0 < what then (readAt e f (what + 9) t).map fun (x : Forms × Toks)=>(grouped what x.1,x.2)
  else match t with
   | (.name b,k)::r=>(match (if keys.contains b = true then none else meaning e b) with
    | some x=>.ok (.cons x .nil,r)
    | none=>.error k)
   | (.num k,p)::r =>
    if k = 0 then .error p
    else if isKey "of" r = false then .error (placeOf r)
    else (take_ 40 (r.drop 1)).bind fun (u : Toks)=>(readAt e f 12 u).bind fun (x : Forms × Toks)=>if is_ 41 x.2 = false∨countOf x.1 < k then .error (placeOf x.2) else .ok (.cons (.some_ k x.1) .nil,x.2.drop 1)
   | u=>(take_ 40 u).bind fun (v : Toks)=>(readAt e f 2 v).bind fun (x : Forms × Toks)=>(take_ 41 x.2).map fun (r : Toks)=>(x.1,r):=rfl
theorem shorter (e : Known) : ∀ (f what : Nat) (t : Toks) (x : Forms × Toks),okWhat what→readAt e f what t = .ok x→x.2.length < t.length
 | 0,what,t,x,_,h=>by simp [readAt] at h
 | f + 1,what,t,x,hw,h=>by
  rw [readAt_succ] at h
  by_cases h10 : 10≤what
  ·rw [if_pos h10] at h
   cases q : readAt e f (what - 10) t with
   | error k=>rw [q] at h; cases h
   | ok y =>
    rw [q] at h
    have hy:=shorter e f (what - 10) t y (by unfold okWhat at *; omega) q
    simp only [Except.bind] at h
    by_cases hi : is_ (betweens what) y.2 = true
    ·rw [if_pos hi] at h
     cases q2 : readAt e f what (y.2.drop 1) with
     | error k=>rw [q2] at h; cases h
     | ok z =>
      rw [q2] at h
      have hz:=shorter e f what _ z hw q2
      simp only [Except.map,Except.ok.injEq] at h
      subst h
      have:=(is_len hi).2
      show z.2.length < _
      omega
    ·rw [if_neg hi] at h
     cases h
     exact hy
  ·rw [if_neg h10] at h
   by_cases h0 : 0 < what
   ·rw [if_pos h0] at h
    cases q : readAt e f (what + 9) t with
    | error k=>rw [q] at h; cases h
    | ok y =>
     rw [q] at h
     have hy:=shorter e f (what + 9) t y (by unfold okWhat at *; omega) q
     simp only [Except.map,Except.ok.injEq] at h
     subst h
     exact hy
   ·rw [if_neg h0] at h
    have paren : ∀ (u : Toks),((take_ 40 u).bind fun (v : Toks)=>(readAt e f 2 v).bind fun (x : Forms × Toks)=>(take_ 41 x.2).map fun (r : Toks)=>(x.1,r)) = .ok x→x.2.length < u.length:=by
     intro u h
     cases q : take_ 40 u with
     | error k=>rw [q] at h; cases h
     | ok v =>
      rw [q] at h
      simp only [Except.bind] at h
      cases q2 : readAt e f 2 v with
      | error k=>rw [q2] at h; cases h
      | ok y =>
       rw [q2] at h
       simp only [Except.bind] at h
       cases q3 : take_ 41 y.2 with
       | error k=>rw [q3] at h; cases h
       | ok r =>
        rw [q3] at h
        simp only [Except.map,Except.ok.injEq] at h
        subst h
        have h1:=take_len q
        have h2:=take_len q3
        have h3:=shorter e f 2 v y (by unfold okWhat; omega) q2
        show r.length < _
        omega
    split at h
    ·rename_i b k r
     split at h
     ·cases h
      simp
     ·cases h
    ·rename_i k p r
     by_cases hk : k = 0
     ·rw [if_pos hk] at h; cases h
     ·rw [if_neg hk] at h
      by_cases ho : isKey "of" r = false
      ·rw [if_pos ho] at h; cases h
      ·rw [if_neg ho] at h
       cases q : take_ 40 (r.drop 1) with
       | error k=>rw [q] at h; cases h
       | ok v =>
        rw [q] at h
        simp only [Except.bind] at h
        cases q2 : readAt e f 12 v with
        | error k=>rw [q2] at h; cases h
        | ok y =>
         rw [q2] at h
         simp only [Except.bind] at h
         split at h
         ·cases h
         ·cases h
          have h1:=take_len q
          have h3:=shorter e f 12 v y (by unfold okWhat; omega) q2
          have h4 : (r.drop 1).length≤r.length:=by simp
          show (y.2.drop 1).length < r.length + 1
          have h5 : (y.2.drop 1).length≤y.2.length:=by simp
          omega
    ·exact paren _ h
theorem stable (e : Known) : ∀ (f g what : Nat) (t : Toks),okWhat what→8 * t.length + cw what≤f→8 * t.length + cw what≤g→readAt e f what t = readAt e g what t
 | 0,g,what,t,hw,hf,hg=>by
  exfalso
  have : 1≤cw what:=by unfold cw; repeat (first | split | omega)
  omega
 | f + 1,0,what,t,hw,hf,hg=>by
  exfalso
  have : 1≤cw what:=by unfold cw; repeat (first | split | omega)
  omega
 | f + 1,g + 1,what,t,hw,hf,hg=>by
  rw [readAt_succ,readAt_succ]
  by_cases h10 : 10≤what
  ·rw [if_pos h10,if_pos h10]
   have hw' : okWhat (what - 10):=by unfold okWhat at *; omega
   have hc : cw (what - 10) + 1≤cw what:=by
    unfold okWhat at hw
    rcases hw with h | h | h | h | h | h <;> subst h <;> first | omega | decide
   rw [stable e f g (what - 10) t hw' (by omega) (by omega)]
   cases q : readAt e g (what - 10) t with
   | error k=>rfl
   | ok y =>
    have hy:=shorter e g (what - 10) t y hw' q
    show (if is_ (betweens what) y.2 = true then _ else _) = (if is_ (betweens what) y.2 = true then _ else _)
    by_cases hi : is_ (betweens what) y.2 = true
    ·rw [if_pos hi,if_pos hi]
     have:=(is_len hi).2
     rw [stable e f g what (y.2.drop 1) hw (by omega) (by omega)]
    ·rw [if_neg hi,if_neg hi]
  ·rw [if_neg h10,if_neg h10]
   by_cases h0 : 0 < what
   ·rw [if_pos h0,if_pos h0]
    have hw' : okWhat (what + 9):=by unfold okWhat at *; omega
    have hc : cw (what + 9) + 1≤cw what:=by
     unfold okWhat at hw
     rcases hw with h | h | h | h | h | h <;> subst h <;> first | omega | decide
    rw [stable e f g (what + 9) t hw' (by omega) (by omega)]
   ·rw [if_neg h0,if_neg h0]
    have e0 : what = 0:=by omega
    subst e0
    have c0 : cw 0 = 1:=rfl
    have c2 : cw 2 = 5:=rfl
    have c12 : cw 12 = 6:=rfl
    rw [c0] at hf hg
    have paren : ∀ (u : Toks),u.length = t.length→((take_ 40 u).bind fun (v : Toks)=>(readAt e f 2 v).bind fun (x : Forms × Toks)=>(take_ 41 x.2).map fun (r : Toks)=>(x.1,r)) =
      ((take_ 40 u).bind fun (v : Toks)=>(readAt e g 2 v).bind fun (x : Forms × Toks)=>(take_ 41 x.2).map fun (r : Toks)=>(x.1,r)):=by
     intro u hu
     cases q : take_ 40 u with
     | error k=>rfl
     | ok v =>
      have h1:=take_len q
      show (readAt e f 2 v).bind _ = (readAt e g 2 v).bind _
      rw [stable e f g 2 v (by unfold okWhat; omega) (by omega) (by omega)]
    split
    ·rfl
    ·rename_i k p r
     by_cases hk : k = 0
     ·rw [if_pos hk,if_pos hk]
     ·rw [if_neg hk,if_neg hk]
      by_cases ho : isKey "of" r = false
      ·rw [if_pos ho,if_pos ho]
      ·rw [if_neg ho,if_neg ho]
       cases q : take_ 40 (r.drop 1) with
       | error k=>rfl
       | ok v =>
        have h1:=take_len q
        have h4 : (r.drop 1).length≤r.length:=by simp
        have h5 : r.length + 1≤8 * (r.length + 1):=by omega
        have hl : ((Tok.num k,p)::r).length = r.length + 1:=rfl
        rw [hl] at hf hg
        show (readAt e f 12 v).bind _ = (readAt e g 12 v).bind _
        rw [stable e f g 12 v (by unfold okWhat; omega) (by omega) (by omega)]
    ·exact paren _ rfl
def R (e : Known) (what : Nat) (t : Toks) : Read Forms:=readAt e (8 * t.length + 8) what t
theorem R_of (e : Known) {f what : Nat} {t : Toks} (hw : okWhat what) (hf : 8 * t.length + cw what≤f) : readAt e f what t = R e what t:=by
 refine stable e f _ what t hw hf ?_
 have : cw what≤6:=by unfold cw; repeat (first | split | omega)
 omega
abbrev RF:=Except Nat (List Form × Toks)
def lst (r : Read Forms) : RF:=r.map fun x=>(toL x.1,x.2)
def RL (e : Known) (what : Nat) (t : Toks) : RF:=lst (R e what t)
def grp (what : Nat) (l : List Form) : Form:=match l with
 | [f]=>f
 | l=>.some_ (if what = 1 then l.length else 1) (ofL l)
theorem toL_grouped (what : Nat) (l : Forms) : toL (grouped what l) = [grp what (toL l)]:=by
 unfold grouped
 rw [countOf_toL]
 match l with
 | .nil=>rfl
 | .cons f .nil=>rfl
 | .cons f (.cons g r) =>
  rw [if_neg (by simp [toL])]
  show [Form.some_ _ (Forms.cons f (Forms.cons g r))] = [Form.some_ _ (ofL (toL (Forms.cons f (Forms.cons g r))))]
  rw [ofL_toL]
  rfl
theorem RL_short {e : Known} {what : Nat} {t : Toks} {x : List Form × Toks} (hw : okWhat what) (h : RL e what t = .ok x) : x.2.length < t.length:=by
 unfold RL lst at h
 cases q : R e what t with
 | error k=>rw [q] at h; cases h
 | ok y =>
  rw [q] at h
  simp only [Except.map,Except.ok.injEq] at h
  subst h
  exact shorter e _ what t y hw q
theorem RL_list (e : Known) {what : Nat} (t : Toks) (hw : what = 10∨what = 11∨what = 12) :
  RL e what t = (RL e (what - 10) t).bind fun x=>if is_ (betweens what) x.2 = true then (RL e what (x.2.drop 1)).map fun y=>(x.1++y.1,y.2) else .ok x:=by
 unfold RL
 have ok1 : okWhat what:=by unfold okWhat; omega
 have ok2 : okWhat (what - 10):=by unfold okWhat; omega
 have hc : cw (what - 10)≤7:=by unfold cw; repeat (first | split | omega)
 have hc2 : cw what≤7:=by unfold cw; repeat (first | split | omega)
 have u : R e what t = readAt e (8 * t.length + 7 + 1) what t:=rfl
 rw [u,readAt_succ,if_pos (by omega),R_of e ok2 (by omega)]
 cases q : R e (what - 10) t with
 | error k=>rfl
 | ok y =>
  have hy : y.2.length < t.length:=shorter e _ (what - 10) t y ok2 q
  show lst (if is_ (betweens what) y.2 = true then _ else _) = (if is_ (betweens what) y.2 = true then _ else _)
  by_cases hi : is_ (betweens what) y.2 = true
  ·rw [if_pos hi,if_pos hi]
   have:=(is_len hi).2
   rw [R_of e ok1 (by omega)]
   cases q2 : R e what (y.2.drop 1) with
   | error k=>rfl
   | ok z =>
    show Except.ok (toL (joined y.1 z.1),z.2) = Except.ok (toL y.1++toL z.1,z.2)
    rw [toL_joined]
  ·rw [if_neg hi,if_neg hi]
   rfl
theorem RL_grp (e : Known) {what : Nat} (t : Toks) (hw : what = 1∨what = 2) : RL e what t = (RL e (what + 9) t).map fun x=>([grp what x.1],x.2):=by
 unfold RL
 have ok2 : okWhat (what + 9):=by unfold okWhat; omega
 have hc : cw (what + 9)≤7:=by unfold cw; repeat (first | split | omega)
 have u : R e what t = readAt e (8 * t.length + 7 + 1) what t:=rfl
 rw [u,readAt_succ,if_neg (by omega),if_pos (by omega),R_of e ok2 (by omega)]
 cases q : R e (what + 9) t with
 | error k=>rfl
 | ok y =>
  show Except.ok (toL (grouped what y.1),y.2) = Except.ok ([grp what (toL y.1)],y.2)
  rw [toL_grouped]
def parenL (e : Known) (u : Toks) : RF:=(take_ 40 u).bind fun v=>(RL e 2 v).bind fun x=>(take_ 41 x.2).map fun r=>(x.1,r)
theorem paren_eq (e : Known) (u : Toks) (n : Nat) (hn : 8 * u.length≤n) : lst ((take_ 40 u).bind fun (v : Toks)=>(readAt e n 2 v).bind fun (x : Forms × Toks)=>(take_ 41 x.2).map fun (r : Toks)=>(x.1,r)) = parenL e u:=by
 unfold parenL
 cases q : take_ 40 u with
 | error k=>rfl
 | ok v =>
  have h1:=take_len q
  show lst ((readAt e n 2 v).bind _) = (RL e 2 v).bind _
  have c2 : cw 2 = 5:=rfl
  rw [R_of e (by unfold okWhat; omega) (by rw [c2]; omega)]
  unfold RL
  cases q2 : R e 2 v with
  | error k=>rfl
  | ok y =>
   show lst ((take_ 41 y.2).map _) = (take_ 41 y.2).map _
   cases take_ 41 y.2 <;> rfl
theorem RL_name (e : Known) (b : Bytes) (k : Nat) (r : Toks) : RL e 0 ((.name b,k)::r) = match (if keys.contains b = true then none else meaning e b) with
  | some x=>.ok ([x],r)
  | none=>.error k:=by
 unfold RL
 have u : R e 0 ((.name b,k)::r) = readAt e (8 * ((Tok.name b,k)::r).length + 7 + 1) 0 ((.name b,k)::r):=rfl
 rw [u,readAt_succ,if_neg (by omega),if_neg (by omega)]
 dsimp only
 cases (if keys.contains b = true then none else meaning e b) <;> rfl
theorem RL_num (e : Known) (k p : Nat) (r : Toks) : RL e 0 ((.num k,p)::r) = if k = 0 then .error p else if isKey "of" r = false then .error (placeOf r) else
  (take_ 40 (r.drop 1)).bind fun u=>(RL e 12 u).bind fun x=>if is_ 41 x.2 = false∨x.1.length < k then .error (placeOf x.2) else .ok ([.some_ k (ofL x.1)],x.2.drop 1):=by
 unfold RL
 have u : R e 0 ((.num k,p)::r) = readAt e (8 * ((Tok.num k,p)::r).length + 7 + 1) 0 ((.num k,p)::r):=rfl
 rw [u,readAt_succ,if_neg (by omega),if_neg (by omega)]
 dsimp only
 by_cases hk : k = 0
 ·rw [if_pos hk,if_pos hk]; rfl
 ·rw [if_neg hk,if_neg hk]
  by_cases ho : isKey "of" r = false
  ·rw [if_pos ho,if_pos ho]; rfl
  ·rw [if_neg ho,if_neg ho]
   cases q : take_ 40 (r.drop 1) with
   | error k=>rfl
   | ok v =>
    have h1:=take_len q
    have h4 : (r.drop 1).length≤r.length:=by simp
    have c12 : cw 12 = 6:=rfl
    show lst ((readAt e _ 12 v).bind _) = (lst (R e 12 v)).bind _
    rw [R_of e (by unfold okWhat; omega) (by rw [c12,List.length_cons]; omega)]
    cases q2 : R e 12 v with
    | error k=>rfl
    | ok y =>
     show lst (if is_ 41 y.2 = false∨countOf y.1 < k then _ else _) = (if is_ 41 y.2 = false∨(toL y.1).length < k then _ else _)
     rw [countOf_toL]
     by_cases hh : is_ 41 y.2 = false∨(toL y.1).length < k
     ·rw [if_pos hh,if_pos hh]; rfl
     ·rw [if_neg hh,if_neg hh]
      show Except.ok (toL (Forms.cons (Form.some_ k y.1) .nil),y.2.drop 1) = Except.ok ([Form.some_ k (ofL (toL y.1))],y.2.drop 1)
      rw [ofL_toL]; rfl
def plainTok : Toks→Bool
 | (.name _,_)::_=>false
 | (.num _,_)::_=>false
 | _=>true
theorem RL_else (e : Known) (t : Toks) (h : plainTok t = true) : RL e 0 t = parenL e t:=by
 unfold RL
 have u : R e 0 t = readAt e (8 * t.length + 7 + 1) 0 t:=rfl
 rw [u,readAt_succ,if_neg (by omega),if_neg (by omega)]
 match t,h with
 | [],_=>exact paren_eq e [] _ (by simp)
 | (.sign c,k)::r,_=>exact paren_eq e _ _ (by omega)
 | (.bad,k)::r,_=>exact paren_eq e _ _ (by omega)
 | (.ended,k)::r,_=>exact paren_eq e _ _ (by omega)
theorem formula_eq (e : Known) (t : Toks) : formula e t = (RL e 2 t).map fun x=>(first (ofL x.1),x.2):=by
 unfold formula RL R
 cases readAt e (8 * t.length + 8) 2 t with
 | error k=>rfl
 | ok y =>
  show Except.ok (first y.1,y.2) = Except.ok (first (ofL (toL y.1)),y.2)
  rw [ofL_toL]
structure Fra where
 asked : Nat
 fs : List Form
 bs : List Form
 ps : List Form
def Fra.empty (k : Nat) : Fra:=⟨k,[],[],[]⟩
section
variable (e : Known)
def a10 (ps : List Form) (t : Toks) : RF:=if is_ 38 t = true then (RL e 10 (t.drop 1)).map fun y=>(ps++y.1,y.2) else .ok (ps,t)
def a11 (bs ps : List Form) (t : Toks) : RF:=(a10 e ps t).bind fun x=>if is_ 124 x.2 = true then (RL e 11 (x.2.drop 1)).map fun y=>((bs++[grp 1 x.1])++y.1,y.2) else .ok (bs++[grp 1 x.1],x.2)
def a2 (F : Fra) (t : Toks) : Except Nat (Form × Toks):=(a11 e F.bs F.ps t).map fun x=>(grp 2 x.1,x.2)
def a12 (F : Fra) (t : Toks) : RF:=(a2 e F t).bind fun x=>if is_ 44 x.2 = true then (RL e 12 (x.2.drop 1)).map fun y=>((F.fs++[x.1])++y.1,y.2) else .ok (F.fs++[x.1],x.2)
def fin (F : Fra) (t : Toks) : Except Nat (Form × Toks) :=
 if F.asked = 0 then (a2 e F t).bind fun x=>(take_ 41 x.2).map fun r=>(x.1,r)
 else (a12 e F t).bind fun x=>if is_ 41 x.2 = false∨x.1.length < F.asked then .error (placeOf x.2) else .ok (.some_ F.asked (ofL x.1),x.2.drop 1)
def cAll : Fra→List Fra→Toks→Except Nat (Form × Toks)
 | F,[],t=>a2 e F t
 | F,G::r,t=>(fin e F t).bind fun x=>cAll { G with ps:=G.ps++[x.1] } r x.2
def bAll (F : Fra) (r : List Fra) (t : Toks) : Except Nat (Form × Toks):=(RL e 0 t).bind fun x=>cAll e { F with ps:=F.ps++x.1 } r x.2
end
section
variable {e : Known} {F G : Fra} {r : List Fra} {t : Toks}
theorem bind_assoc' {α β γ : Type} (x : Except Nat α) (f : α→Except Nat β) (g : β→Except Nat γ) : (x.bind f).bind g = x.bind fun a=>(f a).bind g:=by cases x <;> rfl
theorem map_bind' {α β γ : Type} (x : Except Nat α) (f : α→β) (g : β→Except Nat γ) : (x.map f).bind g = x.bind fun a=>g (f a):=by cases x <;> rfl
theorem bind_map' {α β γ : Type} (x : Except Nat α) (f : α→Except Nat β) (g : β→γ) : (x.bind f).map g = x.bind fun a=>(f a).map g:=by cases x <;> rfl
theorem map_map' {α β γ : Type} (x : Except Nat α) (f : α→β) (g : β→γ) : (x.map f).map g = x.map fun a=>g (f a):=by cases x <;> rfl
theorem map_id' {α : Type} (x : Except Nat α) : (x.map fun a=>a) = x:=by cases x <;> rfl
theorem bind_congr' {α β : Type} {x : Except Nat α} {f g : α→Except Nat β} (h : ∀ a,x = .ok a→f a = g a) : x.bind f = x.bind g:=by
 cases x with
 | error k=>rfl
 | ok a=>exact h a rfl
theorem RL10 (e : Known) (t : Toks) : RL e 10 t = (RL e 0 t).bind fun x=>a10 e x.1 x.2:=by
 rw [RL_list e t (.inl rfl)]
 refine bind_congr' fun x _=>?_
 unfold a10
 rfl
theorem RL1 (e : Known) (t : Toks) : RL e 1 t = (RL e 10 t).map fun x=>([grp 1 x.1],x.2):=RL_grp e t (.inl rfl)
theorem RL2 (e : Known) (t : Toks) : RL e 2 t = (RL e 11 t).map fun x=>([grp 2 x.1],x.2):=RL_grp e t (.inr rfl)
theorem RL11 (e : Known) (t : Toks) : RL e 11 t = (RL e 0 t).bind fun x=>a11 e [] x.1 x.2:=by
 rw [RL_list e t (.inr (.inl rfl))]
 show (RL e 1 t).bind _ = _
 rw [RL1,RL10,map_bind',bind_assoc']
 refine bind_congr' fun x _=>?_
 unfold a11
 refine bind_congr' fun y _=>?_
 show (if is_ 124 y.2 = true then _ else _) = if is_ 124 y.2 = true then _ else _
 rfl
theorem RL2' (e : Known) (t : Toks) : RL e 2 t = (RL e 0 t).bind fun x=>(a2 e ⟨0,[],[],x.1⟩ x.2).map fun y=>([y.1],y.2):=by
 rw [RL2,RL11,bind_map']
 refine bind_congr' fun x _=>?_
 unfold a2
 rw [map_map']
theorem RL12 (e : Known) (k : Nat) (t : Toks) : RL e 12 t = (RL e 0 t).bind fun x=>a12 e ⟨k,[],[],x.1⟩ x.2:=by
 rw [RL_list e t (.inr (.inr rfl))]
 show (RL e 2 t).bind _ = _
 rw [RL2',bind_assoc']
 refine bind_congr' fun x _=>?_
 unfold a12
 rw [map_bind']
 show (a2 e ⟨0,[],[],x.1⟩ x.2).bind _ = (a2 e ⟨0,[],[],x.1⟩ x.2).bind _
 refine bind_congr' fun y _=>?_
 show (if is_ 44 y.2 = true then _ else _) = if is_ 44 y.2 = true then _ else _
 rfl
theorem formula_start (e : Known) (t : Toks) : formula e t = bAll e (Fra.empty 0) [] t:=by
 rw [formula_eq,RL2',bind_map']
 unfold bAll
 refine bind_congr' fun x _=>?_
 rw [map_map']
 show (a2 e ⟨0,[],[],x.1⟩ x.2).map (fun a=>(a.1,a.2)) = a2 e ⟨0,[],[],x.1⟩ x.2
 exact map_id' _
theorem b_open (k : Nat) : bAll e F r ((.sign 40,k)::t) = bAll e (Fra.empty 0) (F::r) t:=by
 unfold bAll
 rw [RL_else e _ rfl]
 unfold parenL
 show ((RL e 2 t).bind _).bind _ = _
 rw [bind_assoc',RL2',bind_assoc']
 refine bind_congr' fun x _=>?_
 rw [map_bind']
 show _ = (fin e ⟨0,[],[],x.1⟩ x.2).bind _
 unfold fin
 rw [if_pos rfl,bind_assoc']
 refine bind_congr' fun y _=>?_
 cases take_ 41 y.2 <;> rfl
theorem b_openK {b : Bytes} (k p q s : Nat) (hk : k ≠ 0) (hb : b = ascii "of") : bAll e F r ((.num k,p)::(.name b,q)::(.sign 40,s)::t) = bAll e (Fra.empty k) (F::r) t:=by
 unfold bAll
 rw [RL_num,if_neg hk,if_neg (by simp [isKey,hb])]
 show ((RL e 12 t).bind _).bind _ = _
 rw [bind_assoc',RL12 e k,bind_assoc']
 refine bind_congr' fun x _=>?_
 show _ = (fin e ⟨k,[],[],x.1⟩ x.2).bind _
 unfold fin
 rw [if_neg hk,bind_assoc']
 refine bind_congr' fun y _=>?_
 show (if is_ 41 y.2 = false∨y.1.length < k then _ else _ : RF).bind _ = (if is_ 41 y.2 = false∨y.1.length < k then _ else _ : Except Nat (Form × Toks)).bind _
 by_cases hh : is_ 41 y.2 = false∨y.1.length < k
 ·rw [if_pos hh,if_pos hh]; rfl
 ·rw [if_neg hh,if_neg hh]; rfl
theorem b_name {b : Bytes} {x : Form} (k : Nat) (hk : keys.contains b = false) (hm : meaning e b = some x) : bAll e F r ((.name b,k)::t) = cAll e { F with ps:=F.ps++[x] } r t:=by
 unfold bAll
 rw [RL_name,hk]
 show (match meaning e b with | some x=>_ | none=>_ : RF).bind _ = _
 rw [hm]
 rfl
theorem b_bad (h : RL e 0 t = .error (placeOf t)) : bAll e F r t = .error (placeOf t):=by
 unfold bAll
 rw [h]; rfl
theorem c_and (k : Nat) : cAll e F r ((.sign 38,k)::t) = bAll e F r t:=by
 have h10 : a10 e F.ps ((.sign 38,k)::t) = (RL e 0 t).bind fun x=>a10 e (F.ps++x.1) x.2:=by
  rw [show a10 e F.ps ((.sign 38,k)::t) = (RL e 10 t).map (fun y=>(F.ps++y.1,y.2)) from rfl,RL10,bind_map']
  refine bind_congr' fun x _=>?_
  unfold a10
  by_cases hi : is_ 38 x.2 = true
  ·rw [if_pos hi,if_pos hi,map_map']
   congr 1
   funext y
   show (F.ps++(x.1++y.1),y.2) = ((F.ps++x.1)++y.1,y.2)
   rw [List.append_assoc]
  ·rw [if_neg hi,if_neg hi]; rfl
 have h2 : ∀ k' fs,a2 e ⟨k',fs,F.bs,F.ps⟩ ((.sign 38,k)::t) = (RL e 0 t).bind fun x=>a2 e ⟨k',fs,F.bs,F.ps++x.1⟩ x.2:=by
  intro k' fs
  unfold a2 a11
  rw [h10,bind_assoc',bind_map']
 unfold bAll
 cases r with
 | nil=>exact h2 F.asked F.fs
 | cons G r =>
  show (fin e F _).bind _ = (RL e 0 t).bind fun x=>(fin e ⟨F.asked,F.fs,F.bs,F.ps++x.1⟩ x.2).bind _
  rw [← bind_assoc']
  congr 1
  unfold fin
  by_cases h0 : F.asked = 0
  ·rw [if_pos h0]
   have:=h2 F.asked F.fs
   rw [show a2 e F ((.sign 38,k)::t) = _ from this,bind_assoc']
   refine bind_congr' fun x _=>?_
   rw [if_pos h0]
  ·rw [if_neg h0]
   unfold a12
   rw [show a2 e F ((.sign 38,k)::t) = _ from h2 F.asked F.fs,bind_assoc',bind_assoc']
   refine bind_congr' fun x _=>?_
   rw [if_neg h0,bind_assoc']
theorem c_or (k : Nat) : cAll e F r ((.sign 124,k)::t) = bAll e ⟨F.asked,F.fs,F.bs++[grp 1 F.ps],[]⟩ r t:=by
 have h11 : a11 e F.bs F.ps ((.sign 124,k)::t) = (RL e 0 t).bind fun x=>a11 e (F.bs++[grp 1 F.ps]) x.1 x.2:=by
  have h10 : a10 e F.ps ((.sign 124,k)::t) = .ok (F.ps,(.sign 124,k)::t):=by
   unfold a10
   rw [if_neg (by simp [is_])]
  rw [show a11 e F.bs F.ps ((.sign 124,k)::t) = (RL e 11 t).map (fun y=>((F.bs++[grp 1 F.ps])++y.1,y.2)) from by rw [a11,h10]; rfl,RL11,bind_map']
  refine bind_congr' fun x _=>?_
  unfold a11
  rw [bind_map']
  refine bind_congr' fun y _=>?_
  by_cases hi : is_ 124 y.2 = true
  ·rw [if_pos hi,if_pos hi,map_map']
   congr 1
   funext z
   show (_++(([]++[grp 1 y.1])++z.1),z.2) = (((F.bs++[grp 1 F.ps])++[grp 1 y.1])++z.1,z.2)
   rw [List.nil_append,← List.append_assoc]
  ·rw [if_neg hi,if_neg hi]; rfl
 have h2 : ∀ k' fs,a2 e ⟨k',fs,F.bs,F.ps⟩ ((.sign 124,k)::t) = (RL e 0 t).bind fun x=>a2 e ⟨k',fs,F.bs++[grp 1 F.ps],x.1⟩ x.2:=by
  intro k' fs
  unfold a2
  dsimp only
  rw [h11,bind_map']
 unfold bAll
 cases r with
 | nil=>exact h2 F.asked F.fs
 | cons G r =>
  show (fin e F _).bind _ = (RL e 0 t).bind fun x=>(fin e ⟨F.asked,F.fs,F.bs++[grp 1 F.ps],x.1⟩ x.2).bind _
  rw [← bind_assoc']
  congr 1
  unfold fin
  by_cases h0 : F.asked = 0
  ·rw [if_pos h0]
   rw [show a2 e F ((.sign 124,k)::t) = _ from h2 F.asked F.fs,bind_assoc']
   refine bind_congr' fun x _=>?_
   rw [if_pos h0]
  ·rw [if_neg h0]
   unfold a12
   rw [show a2 e F ((.sign 124,k)::t) = _ from h2 F.asked F.fs,bind_assoc',bind_assoc']
   refine bind_congr' fun x _=>?_
   rw [if_neg h0,bind_assoc']
theorem a2_stop (h1 : is_ 38 t = false) (h2 : is_ 124 t = false) : a2 e F t = .ok (grp 2 (F.bs++[grp 1 F.ps]),t):=by
 unfold a2 a11 a10
 rw [if_neg (by simp [h1])]
 show (if is_ 124 t = true then _ else _ : RF).map _ = _
 rw [if_neg (by simp [h2])]
 rfl
theorem c_comma (k : Nat) (h0 : F.asked ≠ 0) (G : Fra) : cAll e F (G::r) ((.sign 44,k)::t) = bAll e ⟨F.asked,F.fs++[grp 2 (F.bs++[grp 1 F.ps])],[],[]⟩ (G::r) t:=by
 unfold bAll
 show (fin e F _).bind _ = (RL e 0 t).bind fun x=>(fin e ⟨F.asked,F.fs++[grp 2 (F.bs++[grp 1 F.ps])],[],x.1⟩ x.2).bind _
 rw [← bind_assoc']
 congr 1
 unfold fin
 rw [if_neg h0]
 have h12 : a12 e F ((.sign 44,k)::t) = (RL e 0 t).bind fun x=>a12 e ⟨F.asked,F.fs++[grp 2 (F.bs++[grp 1 F.ps])],[],x.1⟩ x.2:=by
  rw [show a12 e F ((.sign 44,k)::t) = (RL e 12 t).map (fun y=>((F.fs++[grp 2 (F.bs++[grp 1 F.ps])])++y.1,y.2)) from by rw [a12,a2_stop rfl rfl]; rfl,RL12 e F.asked,bind_map']
  refine bind_congr' fun x _=>?_
  unfold a12
  rw [bind_map']
  show (a2 e ⟨F.asked,[],[],x.1⟩ x.2).bind _ = (a2 e ⟨F.asked,[],[],x.1⟩ x.2).bind _
  refine bind_congr' fun y _=>?_
  by_cases hi : is_ 44 y.2 = true
  ·rw [if_pos hi,if_pos hi,map_map']
   congr 1
   funext z
   show (_++(([]++[y.1])++z.1),z.2) = (((F.fs++[grp 2 (F.bs++[grp 1 F.ps])])++[y.1])++z.1,z.2)
   rw [List.nil_append,← List.append_assoc]
  ·rw [if_neg hi,if_neg hi]; rfl
 rw [h12,bind_assoc']
 refine bind_congr' fun x _=>?_
 rw [if_neg h0]
theorem c_close (k : Nat) (h0 : F.asked = 0) : cAll e F (G::r) ((.sign 41,k)::t) = cAll e { G with ps:=G.ps++[grp 2 (F.bs++[grp 1 F.ps])] } r t:=by
 show (fin e F _).bind _ = _
 unfold fin
 rw [if_pos h0,a2_stop rfl rfl]
 rfl
theorem finK_stop (h0 : F.asked ≠ 0) (h1 : is_ 38 t = false) (h2 : is_ 124 t = false) (h4 : is_ 44 t = false) : fin e F t =
  if is_ 41 t = false∨(F.fs++[grp 2 (F.bs++[grp 1 F.ps])]).length < F.asked then .error (placeOf t) else .ok (.some_ F.asked (ofL (F.fs++[grp 2 (F.bs++[grp 1 F.ps])])),t.drop 1):=by
 have h12 : a12 e F t = .ok (F.fs++[grp 2 (F.bs++[grp 1 F.ps])],t):=by
  rw [a12,a2_stop h1 h2]
  simp only [Except.bind,h4,Bool.false_eq_true,if_false]
 rw [fin,if_neg h0,h12]
 rfl
theorem c_closeK (k : Nat) (h0 : F.asked ≠ 0) (hk : F.asked≤(F.fs++[grp 2 (F.bs++[grp 1 F.ps])]).length) :
  cAll e F (G::r) ((.sign 41,k)::t) = cAll e { G with ps:=G.ps++[.some_ F.asked (ofL (F.fs++[grp 2 (F.bs++[grp 1 F.ps])]))] } r t:=by
 rw [cAll,finK_stop h0 rfl rfl rfl,if_neg (by
  rintro (h | h)
  ·simp [is_] at h
  ·omega)]
 rfl
theorem c_few (k : Nat) (h0 : F.asked ≠ 0) (hk : (F.fs++[grp 2 (F.bs++[grp 1 F.ps])]).length < F.asked) : cAll e F (G::r) ((.sign 41,k)::t) = .error k:=by
 rw [cAll,finK_stop h0 rfl rfl rfl,if_pos (.inr hk)]
 rfl
theorem c_bad (h1 : is_ 38 t = false) (h2 : is_ 124 t = false) (h3 : is_ 41 t = false) (h4 : is_ 44 t = false∨F.asked = 0) : cAll e F (G::r) t = .error (placeOf t):=by
 rw [cAll]
 by_cases h0 : F.asked = 0
 ·rw [fin,if_pos h0,a2_stop h1 h2]
  simp only [Except.bind,take_,h3,Bool.false_eq_true,if_false,Except.map]
 ·rw [finK_stop h0 h1 h2 (h4.resolve_right h0),if_pos (.inl h3)]
  rfl
theorem c_end (h1 : is_ 38 t = false) (h2 : is_ 124 t = false) : cAll e F [] t = .ok (grp 2 (F.bs++[grp 1 F.ps]),t):=a2_stop h1 h2
end
end Sp
end
section
set_option linter.all false
namespace Sp
open Rb35
abbrev NodeM:=Nat × List Nat
def dens (P : Nat) (ns : List NodeM) : List Form:=ns.foldl (fun d n=>d++[.some_ n.1 (ofL (n.2.map fun i=>d.getD i (.one 0)))]) ((List.range P).map .one)
def den (P : Nat) (ns : List NodeM) (i : Nat) : Form:=(dens P ns).getD i (.one 0)
theorem dens_snoc (P : Nat) (ns : List NodeM) (n : NodeM) : dens P (ns++[n]) = dens P ns++[.some_ n.1 (ofL (n.2.map (den P ns)))]:=by
 unfold dens
 rw [List.foldl_append]
 rfl
theorem snocInd {α : Type} {p : List α→Prop} (h0 : p []) (h1 : ∀ l a,p l→p (l++[a])) (l : List α) : p l:=by
 have : ∀ r : List α,p r.reverse:=fun r=>by
  induction r with
  | nil=>exact h0
  | cons a r ih=>rw [List.reverse_cons]; exact h1 _ _ ih
 have h:=this l.reverse
 rwa [List.reverse_reverse] at h
theorem dens_length (P : Nat) (ns : List NodeM) : (dens P ns).length = P + ns.length:=by
 induction ns using snocInd with
 | h0=>simp [dens]
 | h1 l a ih=>rw [dens_snoc,List.length_append,ih,List.length_append]; simp; omega
theorem dens_append (P : Nat) (ns more : List NodeM) : ∃ d,dens P (ns++more) = dens P ns++d:=by
 induction more using snocInd with
 | h0=>exact ⟨[],by simp⟩
 | h1 l a ih =>
  obtain ⟨d,e⟩:=ih
  refine ⟨d++[Form.some_ a.1 (ofL (a.2.map (den P (ns++l))))],?_⟩
  rw [← List.append_assoc,dens_snoc,e,List.append_assoc]
theorem den_ext {P : Nat} {ns : List NodeM} (more : List NodeM) {i : Nat} (h : i < P + ns.length) : den P (ns++more) i = den P ns i:=by
 obtain ⟨d,e⟩:=dens_append P ns more
 unfold den
 rw [e,List.getD_eq_getElem?_getD,List.getD_eq_getElem?_getD,List.getElem?_append_left (by rw [dens_length]; exact h)]
theorem den_new (P : Nat) (ns : List NodeM) (n : NodeM) : den P (ns++[n]) (P + ns.length) = .some_ n.1 (ofL (n.2.map (den P ns))):=by
 show (dens P (ns++[n])).getD (P + ns.length) (.one 0) = _
 rw [dens_snoc,List.getD_eq_getElem?_getD,List.getElem?_append_right (by rw [dens_length]; exact Nat.le_refl _),dens_length,Nat.sub_self]
 rfl
theorem den_person {P : Nat} (ns : List NodeM) {i : Nat} (h : i < P) : den P ns i = .one i:=by
 have e:=den_ext (P:=P) (ns:=[]) ns (i:=i) (by simpa using h)
 rw [List.nil_append] at e
 rw [e]
 unfold den dens
 rw [List.foldl_nil,List.getD_eq_getElem?_getD,List.getElem?_map,List.getElem?_range h]
 rfl
theorem den_map_ext {P : Nat} {ns : List NodeM} (more : List NodeM) {l : List Nat} (h : ∀ i ∈ l,i < P + ns.length) : l.map (den P (ns++more)) = l.map (den P ns) :=
 List.map_congr_left fun i hi=>den_ext more (h i hi)
def Good (P : Nat) (ns : List NodeM) : Prop:=∀ (j : Nat) (n : NodeM),ns[j]? = some n→(∀ i ∈ n.2,i < P + j)∧1≤n.1∧n.1≤n.2.length
theorem Good.nil {P : Nat} : Good P []:=fun j n h=>by simp at h
theorem Good.snoc {P : Nat} {ns : List NodeM} {n : NodeM} (g : Good P ns) (h : ∀ i ∈ n.2,i < P + ns.length) (h1 : 1≤n.1) (h2 : n.1≤n.2.length) : Good P (ns++[n]):=fun j m e=>by
 by_cases hj : j < ns.length
 ·rw [List.getElem?_append_left hj] at e
  exact g j m e
 ·rw [List.getElem?_append_right (by omega)] at e
  have hj2 : j - ns.length = 0:=by
   cases q : j - ns.length with
   | zero=>rfl
   | succ k=>rw [q] at e; simp at e
  rw [hj2] at e
  simp at e
  subst e
  have : j = ns.length:=by omega
  subst this
  exact ⟨h,h1,h2⟩
theorem Good.init {P : Nat} {ns : List NodeM} {n : NodeM} (g : Good P (ns++[n])) : Good P ns∧(∀ i ∈ n.2,i < P + ns.length)∧1≤n.1∧n.1≤n.2.length:=by
 refine ⟨fun j m e=>g j m ?_,g ns.length n (by simp)⟩
 rw [List.getElem?_append_left (List.getElem?_eq_some_iff.mp e).1]
 exact e
def evals {α : Type} (base : Nat→α) (step : Nat→List α→α) (dflt : α) (P : Nat) (ns : List NodeM) : List α :=
 ns.foldl (fun d n=>d++[step n.1 (n.2.map fun i=>d.getD i dflt)]) ((List.range P).map base)
theorem evals_snoc {α : Type} (base : Nat→α) (step : Nat→List α→α) (dflt : α) (P : Nat) (ns : List NodeM) (n : NodeM) :
  evals base step dflt P (ns++[n]) = evals base step dflt P ns++[step n.1 (n.2.map fun i=>(evals base step dflt P ns).getD i dflt)]:=by
 unfold evals
 rw [List.foldl_append]
 rfl
theorem evals_eq {α : Type} {base : Nat→α} {step : Nat→List α→α} {dflt : α} {P : Nat} (g : Form→α) (h1 : ∀ i,g (.one i) = base i) (h2 : ∀ k l,g (.some_ k (ofL l)) = step k (l.map g)) (ns : List NodeM) (ok : Good P ns) :
  evals base step dflt P ns = (dens P ns).map g:=by
 induction ns using snocInd with
 | h0 =>
  show (List.range P).map base = ((List.range P).map Form.one).map g
  rw [List.map_map]
  exact List.map_congr_left fun i _=>(h1 i).symm
 | h1 l a ih =>
  obtain ⟨g1,g2,_⟩:=ok.init
  rw [evals_snoc,dens_snoc,ih g1,List.map_append,List.map_cons,List.map_nil,h2,List.map_map]
  congr 2
  congr 1
  refine List.map_congr_left fun i hi=>?_
  have hl : i < (dens P l).length:=by rw [dens_length]; exact g2 i hi
  show ((dens P l).map g).getD i dflt = g ((dens P l).getD i (.one 0))
  rw [List.getD_eq_getElem?_getD,List.getD_eq_getElem?_getD,List.getElem?_map,List.getElem?_eq_getElem hl]
  rfl
theorem evals_at {α : Type} {base : Nat→α} {step : Nat→List α→α} {dflt : α} {P : Nat} (g : Form→α) (h1 : ∀ i,g (.one i) = base i) (h2 : ∀ k l,g (.some_ k (ofL l)) = step k (l.map g)) (ns : List NodeM) (ok : Good P ns) {i : Nat} (hi : i < P + ns.length) :
  (evals base step dflt P ns)[i]? = some (g (den P ns i)):=by
 have hl : i < (dens P ns).length:=by rw [dens_length]; exact hi
 rw [evals_eq g h1 h2 ns ok,List.getElem?_map,List.getElem?_eq_getElem hl]
 unfold den
 rw [List.getD_eq_getElem?_getD,List.getElem?_eq_getElem hl]
 rfl
theorem leavesIn_ofL : ∀ l : List Form,(leavesIn (ofL l)).length = (l.map fun f=>(leaves f).length).sum
 | []=>rfl
 | f::l=>by rw [ofL,leavesIn,List.length_append,leavesIn_ofL l]; rfl
theorem countOf_ofL (l : List Form) : countOf (ofL l) = l.length:=by rw [countOf_toL,toL_ofL]
theorem soundIn_ofL (p : Nat) : ∀ l : List Form,soundIn p (ofL l) = true↔∀ f ∈ l,sound p f = true
 | []=>by simp [ofL,soundIn]
 | f::l=>by rw [ofL,soundIn,Bool.and_eq_true,soundIn_ofL p l]; simp
theorem sound_some (p k : Nat) (l : List Form) : sound p (.some_ k (ofL l)) = true↔1≤k∧k≤l.length∧l.length < p∧∀ f ∈ l,sound p f = true:=by
 rw [sound,Bool.and_eq_true,Bool.and_eq_true,Bool.and_eq_true,soundIn_ofL,countOf_ofL]
 simp
def Narrow (p : Nat) (ns : List NodeM) : Prop:=∀ n ∈ ns,n.2.length < p
theorem sound_of_narrow {p P : Nat} (ns : List NodeM) (ok : Good P ns) (h : Narrow p ns) : ∀ i,i < P + ns.length→sound p (den P ns i) = true:=by
 induction ns using snocInd with
 | h0 =>
  intro i hi
  rw [den_person [] (by simpa using hi)]
  rfl
 | h1 l a ih =>
  obtain ⟨g1,g2,g3,g4⟩:=ok.init
  have ih':=ih g1 fun n hn=>h n (List.mem_append_left _ hn)
  intro i hi
  by_cases hl : i < P + l.length
  ·rw [den_ext [a] hl]; exact ih' i hl
  ·have e : i = P + l.length:=by rw [List.length_append] at hi; simp at hi; omega
   subst e
   rw [den_new,sound_some,List.length_map]
   refine ⟨g3,g4,h a (by simp),fun f hf=>?_⟩
   obtain ⟨j,hj,rfl⟩:=List.mem_map.mp hf
   exact ih' j (g2 j hj)
theorem den_node {P : Nat} {ns : List NodeM} (ok : Good P ns) {j : Nat} {n : NodeM} (h : ns[j]? = some n) : den P ns (P + j) = .some_ n.1 (ofL (n.2.map (den P ns))):=by
 obtain ⟨hj,e⟩:=List.getElem?_eq_some_iff.mp h
 have hs : ns = (ns.take j++[n])++ns.drop (j + 1):=by
  rw [← e,List.append_assoc,List.singleton_append,List.getElem_cons_drop,List.take_append_drop]
 have hl : (ns.take j).length = j:=by rw [List.length_take,Nat.min_eq_left (Nat.le_of_lt hj)]
 have h1 : den P ((ns.take j++[n])++ns.drop (j + 1)) (P + j) = den P (ns.take j++[n]) (P + j):=den_ext _ (by rw [List.length_append,hl]; simp)
 have h2 : den P (ns.take j++[n]) (P + (ns.take j).length) = .some_ n.1 (ofL (n.2.map (den P (ns.take j)))):=den_new _ _ _
 rw [hl] at h2
 rw [← hs] at h1
 rw [h1,h2]
 have g:=(ok j n h).1
 have h3 : ∀ i ∈ n.2,i < P + (ns.take j).length:=fun i hi=>by rw [hl]; exact g i hi
 have h4:=den_map_ext (P:=P) (ns:=ns.take j) ([n]++ns.drop (j + 1)) h3
 rw [← List.append_assoc,← hs] at h4
 rw [h4]
def Hered (q : Form→Prop) : Prop:=∀ k l,q (.some_ k (ofL l))→∀ f ∈ l,q f
def Cov (P : Nat) (ns : List NodeM) (rts : List Nat) : Prop:=∀ q,Hered q→(∀ i ∈ rts,q (den P ns i))→∀ j,j < ns.length→q (den P ns (P + j))
theorem Cov.mono {P : Nat} {ns : List NodeM} {a b : List Nat} (c : Cov P ns a) (h : ∀ i ∈ a,i ∈ b) : Cov P ns b:=fun q hq z=>c q hq fun i hi=>z i (h i hi)
theorem Cov.nil {P : Nat} : Cov P [] []:=fun q _ _ j hj=>by simp at hj
theorem Cov.node {P k : Nat} {ns : List NodeM} {w a b : List Nat} (c : Cov P ns a) (hw : ∀ i ∈ w,i < P + ns.length) (ha : ∀ i ∈ a,i < P + ns.length) (hab : ∀ i ∈ a,i ∈ w∨i ∈ b) (hn : P + ns.length ∈ b) : Cov P (ns++[(k,w)]) b:=fun q hq z j hj=>by
 have h1:=z _ hn
 by_cases hl : j < ns.length
 ·rw [den_ext [(k,w)] (by omega : P + j < P + ns.length)]
  refine c q hq (fun i hi=>?_) j hl
  rcases hab i hi with y | y
  ·rw [den_new] at h1
   exact hq _ _ h1 _ (List.mem_map.mpr ⟨i,y,rfl⟩)
  ·rw [← den_ext [(k,w)] (ha i hi)]
   exact z i y
 ·have : j = ns.length:=by rw [List.length_append] at hj; simp at hj; omega
  subst this
  exact h1
theorem Cov.narrow {P : Nat} {ns : List NodeM} {a : List Nat} (c : Cov P ns a) (g : Good P ns) (p : Nat) (h : ∀ i ∈ a,sound p (den P ns i) = true) : Narrow p ns:=fun n hn=>by
 obtain ⟨j,hj,e⟩:=List.mem_iff_getElem.mp hn
 have h1:=c (fun f=>sound p f = true) (fun k l z f hf=>((sound_some p k l).mp z).2.2.2 f hf) h j hj
 rw [den_node g (by rw [List.getElem?_eq_getElem hj,e]),sound_some,List.length_map] at h1
 exact h1.2.2.1
theorem Cov.places {P : Nat} {ns : List NodeM} {a : List Nat} (c : Cov P ns a) (m : Nat) (h : ∀ i ∈ a,(leaves (den P ns i)).length≤m) {j : Nat} (hj : j < ns.length) : (leaves (den P ns (P + j))).length≤m :=
 c (fun f=>(leaves f).length≤m) (fun k l z f hf=>by
  have z' : (leavesIn (ofL l)).length≤m:=z
  rw [leavesIn_ofL] at z'
  refine Nat.le_trans ?_ z'
  clear z z'
  induction l with
  | nil=>simp at hf
  | cons x t ih =>
   rw [List.map_cons,List.sum_cons]
   rcases List.mem_cons.mp hf with rfl | hf
   ·exact Nat.le_add_right _ _
   ·exact Nat.le_trans (ih hf) (Nat.le_add_left _ _)) h j hj
structure FraN where
 asked : Nat
 fs : List Nat
 bs : List Nat
 ps : List Nat
def FraN.empty (k : Nat) : FraN:=⟨k,[],[],[]⟩
def FraN.all (F : FraN) : List Nat:=F.fs++(F.bs++F.ps)
def FraN.den (P : Nat) (ns : List NodeM) (F : FraN) : Fra:=⟨F.asked,F.fs.map (Sp.den P ns),F.bs.map (Sp.den P ns),F.ps.map (Sp.den P ns)⟩
theorem FraN.den_ext {P : Nat} {ns : List NodeM} (more : List NodeM) {F : FraN} (h : ∀ i ∈ F.all,i < P + ns.length) : F.den P (ns++more) = F.den P ns:=by
 unfold FraN.den
 rw [den_map_ext more fun i hi=>h i (by simp [FraN.all,hi]),den_map_ext more fun i hi=>h i (by simp [FraN.all,hi]),den_map_ext more fun i hi=>h i (by simp [FraN.all,hi])]
def joinNs (ns : List NodeM) (k : Nat) (w : List Nat) : List NodeM:=if w.length = 1 then ns else ns++[(k,w)]
def joinAt (P : Nat) (ns : List NodeM) (w : List Nat) : Nat:=if w.length = 1 then w.headD 0 else P + ns.length
theorem joinNs_ext (ns : List NodeM) (k : Nat) (w : List Nat) : ∃ more,joinNs ns k w = ns++more:=by
 unfold joinNs
 split
 ·exact ⟨[],by simp⟩
 ·exact ⟨_,rfl⟩
theorem joinAt_lt {P k : Nat} {ns : List NodeM} {w : List Nat} (hw : ∀ i ∈ w,i < P + ns.length) : joinAt P ns w < P + (joinNs ns k w).length:=by
 unfold joinAt joinNs
 by_cases h : w.length = 1
 ·rw [if_pos h,if_pos h]
  match w,h with
  | [i],_=>exact hw i (by simp)
 ·rw [if_neg h,if_neg h]; simp
theorem joinNs_good {P k : Nat} {ns : List NodeM} {w : List Nat} (g : Good P ns) (hw : ∀ i ∈ w,i < P + ns.length) (h1 : 1≤k) (h2 : k≤w.length) : Good P (joinNs ns k w):=by
 unfold joinNs
 split
 ·exact g
 ·exact g.snoc hw h1 h2
theorem joinAt_den {P k what : Nat} {ns : List NodeM} {w : List Nat} (hw : ∀ i ∈ w,i < P + ns.length) (hk : k = if what = 1 then w.length else 1) : den P (joinNs ns k w) (joinAt P ns w) = grp what (w.map (den P ns)):=by
 unfold joinAt joinNs
 by_cases h : w.length = 1
 ·rw [if_pos h,if_pos h]
  match w,h with
  | [i],_=>rfl
 ·rw [if_neg h,if_neg h,den_new]
  show Form.some_ k _ = _
  match w,h with
  | [],_=>rw [hk]; rfl
  | i::j::r,_ =>
   show Form.some_ k _ = Form.some_ _ _
   rw [hk]
   simp
theorem joinNs_cov {P k : Nat} {ns : List NodeM} {w a b : List Nat} (c : Cov P ns a) (hw : ∀ i ∈ w,i < P + ns.length) (ha : ∀ i ∈ a,i < P + ns.length) (hab : ∀ i ∈ a,i ∈ w∨i ∈ b) (hn : joinAt P ns w ∈ b) : Cov P (joinNs ns k w) b:=by
 unfold joinAt at hn
 unfold joinNs
 by_cases h : w.length = 1
 ·rw [if_pos h] at hn ⊢
  refine c.mono fun i hi=>?_
  rcases hab i hi with z | z
  ·match w,h with
   | [j],_ =>
    simp at z
    subst z
    exact hn
  ·exact z
 ·rw [if_neg h] at hn ⊢
  exact c.node hw ha hab hn
end Sp
end
section
set_option linter.all false
namespace Sp
open Rb35
def look (l : List (Bytes × Nat)) (b : Bytes) : Option Nat:=(l.find? fun x=>x.1 == b).map (·.2)
theorem look_append (l m : List (Bytes × Nat)) (b : Bytes) : look (l++m) b = (look l b).or (look m b):=by
 unfold look
 rw [List.find?_append]
 cases List.find? (fun x=>x.1 == b) l <;> rfl
theorem look_zipIdx (b : Bytes) : ∀ (l : List Bytes) (k : Nat),look (l.zipIdx k) b = (l.findIdx? fun x=>x == b).map (· + k)
 | [],k=>rfl
 | a::r,k=>by
  rw [List.zipIdx_cons,List.findIdx?_cons]
  unfold look
  rw [List.find?_cons]
  cases h : (a == b) with
  | true=>simp [h]
  | false =>
   have ih:=look_zipIdx b r (k + 1)
   unfold look at ih
   simp only [h,ih,Bool.false_eq_true,if_false,Option.map_map]
   congr 1
   funext x
   show x + (k + 1) = (x + 1) + k
   omega
structure Bk where
 people : List Bytes
 ns : List NodeM
 ls : List (Bytes × Nat)
def Bk.P (B : Bk) : Nat:=B.people.length
def Bk.names (B : Bk) : List (Bytes × Nat):=B.people.zipIdx++B.ls
def Bk.known (B : Bk) : Known:=⟨B.people,B.ls.map fun x=>(x.1,den B.P B.ns x.2)⟩
structure Bk.Ok (B : Bk) : Prop where
 good : Good B.P B.ns
 lt : ∀ x ∈ B.ls,x.2 < B.P + B.ns.length
 cov : Cov B.P B.ns (B.ls.map (·.2))
theorem find_map_lets (g : Nat→Form) (b : Bytes) : ∀ l : List (Bytes × Nat),((l.map fun x=>(x.1,g x.2)).find? fun (x : Bytes × Form)=>x.1 == b).map (fun x=>x.2) = (look l b).map g
 | []=>rfl
 | a::r=>by
  have ih:=find_map_lets g b r
  unfold look at ih ⊢
  rw [List.map_cons,List.find?_cons,List.find?_cons]
  show (match a.1 == b with | true=>_ | false=>_ : Option (Bytes × Form)).map _ = _
  cases h : (a.1 == b) with
  | true=>rfl
  | false=>exact ih
theorem any_map_lets (g : Nat→Form) (b : Bytes) : ∀ l : List (Bytes × Nat),((l.map fun x=>(x.1,g x.2)).any fun (x : Bytes × Form)=>x.1 == b) = (look l b).isSome
 | []=>rfl
 | a::r=>by
  have ih:=any_map_lets g b r
  unfold look at ih ⊢
  rw [List.map_cons,List.any_cons,List.find?_cons,ih]
  cases h : (a.1 == b) <;> simp [h]
theorem contains_people (b : Bytes) : ∀ (l : List Bytes),l.contains b = (l.findIdx? fun x=>x == b).isSome
 | []=>rfl
 | a::r=>by
  rw [List.contains_cons,List.findIdx?_cons,contains_people b r]
  by_cases h : a = b
  ·subst h
   simp
  ·have h1 : (b == a) = false:=by simpa using fun z : b = a=>h z.symm
   have h2 : (a == b) = false:=by simpa using h
   rw [h1,h2]
   simp
theorem findIdx_lt (b : Bytes) : ∀ (l : List Bytes) (i : Nat),(l.findIdx? fun x=>x == b) = some i→i < l.length
 | [],i,h=>by simp at h
 | a::r,i,h=>by
  rw [List.findIdx?_cons] at h
  split at h
  ·cases h; simp
  ·cases q : r.findIdx? fun x=>x == b with
   | none=>rw [q] at h; cases h
   | some j =>
    rw [q] at h
    cases h
    have:=findIdx_lt b r j q
    simp; omega
theorem Bk.knows_eq (B : Bk) (b : Bytes) : knows B.known b = (look B.names b).isSome:=by
 unfold knows Bk.names
 rw [look_append,look_zipIdx]
 show (B.people.contains b || (B.ls.map fun x=>(x.1,den B.P B.ns x.2)).any _) = _
 rw [any_map_lets,contains_people]
 cases (B.people.findIdx? fun x=>x == b) <;> simp
theorem Bk.meaning_eq (B : Bk) (b : Bytes) : meaning B.known b = (look B.names b).map (den B.P B.ns):=by
 unfold meaning Bk.names
 rw [look_append,look_zipIdx]
 show (match B.people.findIdx? fun (x : Bytes)=>x == b with | some i=>some (Form.one i) | none=>_) = _
 cases h : (B.people.findIdx? fun x=>x == b) with
 | none =>
  show (((B.ls.map fun x=>(x.1,den B.P B.ns x.2)).find? fun (x : Bytes × Form)=>x.1 == b).map fun x=>x.2) = _
  rw [find_map_lets]
  simp
 | some i =>
  have hi : i < B.P:=findIdx_lt b _ i h
  show some (Form.one i) = some (den B.P B.ns (i + 0))
  rw [Nat.add_zero,den_person _ hi]
theorem look_mem {l : List (Bytes × Nat)} {b : Bytes} {i : Nat} (h : look l b = some i) : (b,i) ∈ l:=by
 unfold look at h
 cases q : l.find? fun x=>x.1 == b with
 | none=>rw [q] at h; cases h
 | some x =>
  rw [q] at h
  have h1:=List.find?_some q
  have h2:=List.mem_of_find?_eq_some q
  simp at h h1
  rw [← h1,← h]
  exact h2
theorem Bk.Ok.look_lt {B : Bk} (k : B.Ok) {b : Bytes} {i : Nat} (h : look B.names b = some i) : i < B.P + B.ns.length:=by
 have hm:=look_mem h
 unfold Bk.names at hm
 rcases List.mem_append.mp hm with z | z
 ·have:=(List.mem_zipIdx z).2.1
  simp at this
  unfold Bk.P
  omega
 ·exact k.lt _ z
theorem newName_len {e : Known} {t : Toks} {x : Bytes × Toks} (h : newName e t = .ok x) : x.2.length + 1 = t.length:=by
 match t,h with
 | (.name b,k)::r,h =>
  rw [newName] at h
  split at h
  ·cases h
  ·cases h; rfl
 | [],h=>simp [newName] at h
 | (.num b,k)::r,h=>simp [newName] at h
 | (.sign b,k)::r,h=>simp [newName] at h
 | (.bad,k)::r,h=>simp [newName] at h
 | (.ended,k)::r,h=>simp [newName] at h
theorem people_succ (f : Nat) (e : Known) (t : Toks) : people (f + 1) e t = (newName e t).bind fun (x : Bytes × Toks)=>if is_ 44 x.2 = true then people f ⟨e.people++[x.1],e.lets⟩ (x.2.drop 1) else .ok (⟨e.people++[x.1],e.lets⟩,x.2):=rfl
theorem people_stable : ∀ (f g : Nat) (e : Known) (t : Toks),t.length < f→t.length < g→people f e t = people g e t
 | 0,_,_,_,h,_=>absurd h (Nat.not_lt_zero _)
 | _ + 1,0,_,_,_,h=>absurd h (Nat.not_lt_zero _)
 | f + 1,g + 1,e,t,h1,h2=>by
  rw [people_succ,people_succ]
  refine bind_congr' fun x hx=>?_
  have:=newName_len hx
  by_cases hi : is_ 44 x.2 = true
  ·rw [if_pos hi,if_pos hi]
   have:=(is_len hi).2
   exact people_stable f g _ _ (by omega) (by omega)
  ·rw [if_neg hi,if_neg hi]
def peopleR (e : Known) (t : Toks) : Read Known:=people (t.length + 1) e t
theorem peopleR_eq (e : Known) (t : Toks) : peopleR e t = (newName e t).bind fun (x : Bytes × Toks)=>if is_ 44 x.2 = true then peopleR ⟨e.people++[x.1],e.lets⟩ (x.2.drop 1) else .ok (⟨e.people++[x.1],e.lets⟩,x.2):=by
 unfold peopleR
 rw [people_succ]
 refine bind_congr' fun x hx=>?_
 have:=newName_len hx
 by_cases hi : is_ 44 x.2 = true
 ·rw [if_pos hi,if_pos hi]
  have:=(is_len hi).2
  exact people_stable _ _ _ _ (by omega) (by omega)
 ·rw [if_neg hi,if_neg hi]
theorem formula_len {e : Known} {t : Toks} {x : Form × Toks} (h : formula e t = .ok x) : x.2.length < t.length:=by
 rw [formula_eq] at h
 cases q : RL e 2 t with
 | error k=>rw [q] at h; cases h
 | ok y =>
  rw [q] at h
  simp only [Except.map,Except.ok.injEq] at h
  subst h
  exact RL_short (by unfold okWhat; omega) q
def letsBody (e : Known) (t : Toks) (k : Known→Toks→Except Nat Known) : Except Nat Known :=
 if atEnd t = true then .ok e
 else if isKey "let" t = false then .error (placeOf t)
 else (newName e (t.drop 1)).bind fun (x : Bytes × Toks)=>(take_ 61 x.2).bind fun (u : Toks)=>(formula e u).bind fun (y : Form × Toks)=>(take_ 59 y.2).bind fun (r : Toks)=>k ⟨e.people,e.lets++[(x.1,y.1)]⟩ r
theorem lets_succ (f : Nat) (e : Known) (t : Toks) : lets (f + 1) e t = letsBody e t (lets f):=rfl
theorem letsBody_congr {e : Known} {t : Toks} {k k' : Known→Toks→Except Nat Known} (h : ∀ e' r,r.length < t.length→k e' r = k' e' r) : letsBody e t k = letsBody e t k':=by
 unfold letsBody
 by_cases h1 : atEnd t = true
 ·rw [if_pos h1,if_pos h1]
 ·rw [if_neg h1,if_neg h1]
  by_cases h2 : isKey "let" t = false
  ·rw [if_pos h2,if_pos h2]
  ·rw [if_neg h2,if_neg h2]
   refine bind_congr' fun x hx=>bind_congr' fun u hu=>bind_congr' fun y hy=>bind_congr' fun r hr=>h _ _ ?_
   have h3:=newName_len hx
   have h4:=take_len hu
   have h5:=formula_len hy
   have h6:=take_len hr
   have h7 : (t.drop 1).length≤t.length:=by simp
   omega
theorem lets_stable : ∀ (f g : Nat) (e : Known) (t : Toks),t.length < f→t.length < g→lets f e t = lets g e t
 | 0,_,_,_,h,_=>absurd h (Nat.not_lt_zero _)
 | _ + 1,0,_,_,_,h=>absurd h (Nat.not_lt_zero _)
 | f + 1,g + 1,e,t,h1,h2=>by
  rw [lets_succ,lets_succ]
  exact letsBody_congr fun e' r hr=>lets_stable f g e' r (by omega) (by omega)
def letsR (e : Known) (t : Toks) : Except Nat Known:=lets (t.length + 1) e t
theorem letsR_eq (e : Known) (t : Toks) : letsR e t = letsBody e t letsR:=by
 unfold letsR
 rw [lets_succ]
 exact letsBody_congr fun e' r hr=>lets_stable _ _ _ _ (by omega) (by omega)
theorem program_eq (t : Toks) : program t = (field t).bind fun (x : Nat × Toks)=>if isKey "who" x.2 = false then .error (placeOf x.2) else
  (peopleR ⟨[],[]⟩ (x.2.drop 1)).bind fun (y : Known × Toks)=>(take_ 59 y.2).bind fun (r : Toks)=>(letsR y.1 r).map fun (e : Known)=>⟨x.1,e.people,e.lets⟩:=by
 unfold program
 refine bind_congr' fun x _=>?_
 by_cases h : isKey "who" x.2 = false
 ·rw [if_pos h,if_pos h]
 ·rw [if_neg h,if_neg h]
  have hl : (x.2.drop 1).length≤x.2.length:=by simp
  unfold peopleR
  rw [people_stable (x.2.length + 1) ((x.2.drop 1).length + 1) _ _ (by omega) (by omega)]
  rfl
theorem small_iff {B : Bk} (k : B.Ok) (p : Nat) : small ⟨p,B.people,B.known.lets⟩ = true ↔
  B.people.length≤10∧B.ls.length≤16∧Narrow p B.ns∧∀ x ∈ B.ls,(leaves (den B.P B.ns x.2)).length≤24:=by
 unfold small
 rw [Bool.and_eq_true,Bool.and_eq_true,List.all_eq_true]
 show (decide (B.people.length≤10) = true∧decide ((B.ls.map fun x=>(x.1,den B.P B.ns x.2)).length≤16) = true∧∀ x ∈ B.ls.map fun x=>(x.1,den B.P B.ns x.2),_)↔_
 rw [List.length_map,decide_eq_true_iff,decide_eq_true_iff]
 constructor
 ·rintro ⟨h1,h2,h3⟩
  have h3' : ∀ x ∈ B.ls,(leaves (den B.P B.ns x.2)).length≤24∧sound p (den B.P B.ns x.2) = true:=fun x hx=>by
   have:=h3 _ (List.mem_map.mpr ⟨x,hx,rfl⟩)
   rw [Bool.and_eq_true,decide_eq_true_iff] at this
   exact this
  refine ⟨h1,h2,k.cov.narrow k.good p fun i hi=>?_,fun x hx=>(h3' x hx).1⟩
  obtain ⟨x,hx,rfl⟩:=List.mem_map.mp hi
  exact (h3' x hx).2
 ·rintro ⟨h1,h2,h3,h4⟩
  refine ⟨h1,h2,fun x hx=>?_⟩
  obtain ⟨y,hy,rfl⟩:=List.mem_map.mp hx
  rw [Bool.and_eq_true,decide_eq_true_iff]
  exact ⟨h4 y hy,sound_of_narrow B.ns k.good h3 y.2 (k.lt y hy)⟩
end Sp
end
section
set_option linter.all false
namespace Sp
open Rb35
structure PSt (B : Bk) (ns : List NodeM) (st : List FraN) : Prop where
 ext : ∃ more,ns = B.ns++more
 good : Good B.P ns
 ltl : ∀ i ∈ B.ls.map (·.2),i < B.P + ns.length
 lt : ∀ i ∈ st.flatMap FraN.all,i < B.P + ns.length
 cov : Cov B.P ns (B.ls.map (·.2)++st.flatMap FraN.all)
section
variable {B : Bk} {ns : List NodeM} {F G : FraN} {r : List FraN}
theorem PSt.start (k : B.Ok) : PSt B B.ns [FraN.empty 0]:=⟨⟨[],by simp⟩,k.good,fun i hi=>by obtain ⟨x,hx,rfl⟩:=List.mem_map.mp hi; exact k.lt x hx,fun i hi=>by simp [FraN.all,FraN.empty] at hi,by
 have e : ([FraN.empty 0].flatMap FraN.all) = []:=rfl
 rw [e,List.append_nil]
 exact k.cov⟩
theorem PSt.le (S : PSt B ns r) : B.ns.length≤ns.length:=by
 obtain ⟨m,rfl⟩:=S.ext
 rw [List.length_append]; omega
theorem PSt.old (S : PSt B ns r) {i : Nat} (h : i < B.P + B.ns.length) : den B.P ns i = den B.P B.ns i:=by
 obtain ⟨m,rfl⟩:=S.ext
 exact den_ext m h
theorem PSt.push (S : PSt B ns r) (k : Nat) : PSt B ns (FraN.empty k::r):=by
 have e : (FraN.empty k::r).flatMap FraN.all = r.flatMap FraN.all:=rfl
 exact ⟨S.ext,S.good,S.ltl,by rw [e]; exact S.lt,by rw [e]; exact S.cov⟩
theorem PSt.part (k : B.Ok) (S : PSt B ns (F::r)) {b : Bytes} {i : Nat} (h : look B.names b = some i) : PSt B ns ({ F with ps:=F.ps++[i] }::r):=by
 have hi : i < B.P + ns.length:=Nat.lt_of_lt_of_le (k.look_lt h) (Nat.add_le_add_left S.le _)
 have mem : ∀ j,j ∈ ({ F with ps:=F.ps++[i] }::r).flatMap FraN.all↔j = i∨j ∈ (F::r).flatMap FraN.all:=fun j=>by
  simp only [List.flatMap_cons,FraN.all,List.mem_append,List.mem_singleton]
  constructor
  ·rintro ((h | (h | (h | h))) | h) <;> simp [h]
  ·rintro (h | ((h | (h | h)) | h)) <;> simp [h]
 refine ⟨S.ext,S.good,S.ltl,fun j hj=>?_,S.cov.mono fun j hj=>?_⟩
 ·rcases (mem j).mp hj with rfl | z
  ·exact hi
  ·exact S.lt j z
 ·rcases List.mem_append.mp hj with z | z
  ·exact List.mem_append_left _ z
  ·exact List.mem_append_right _ ((mem j).mpr (.inr z))
def ebNs (ns : List NodeM) (F : FraN) : List NodeM:=joinNs ns F.ps.length F.ps
def ebFra (P : Nat) (ns : List NodeM) (F : FraN) : FraN:=⟨F.asked,F.fs,F.bs++[joinAt P ns F.ps],[]⟩
def efNs (P : Nat) (ns : List NodeM) (F : FraN) : List NodeM:=joinNs (ebNs ns F) 1 (ebFra P ns F).bs
def efAt (P : Nat) (ns : List NodeM) (F : FraN) : Nat:=joinAt P (ebNs ns F) (ebFra P ns F).bs
def efFra (P : Nat) (ns : List NodeM) (F : FraN) : FraN:=⟨F.asked,F.fs++[efAt P ns F],[],[]⟩
theorem mem_head {i : Nat} (h : i ∈ F.all) : i ∈ (F::r).flatMap FraN.all:=by rw [List.flatMap_cons]; exact List.mem_append_left _ h
theorem mem_rest {i : Nat} (h : i ∈ r.flatMap FraN.all) : i ∈ (F::r).flatMap FraN.all:=by rw [List.flatMap_cons]; exact List.mem_append_right _ h
theorem eb_ext (ns : List NodeM) (F : FraN) : ∃ more,ebNs ns F = ns++more:=joinNs_ext _ _ _
theorem PSt.eb (S : PSt B ns (F::r)) (hp : F.ps ≠ []) : PSt B (ebNs ns F) (ebFra B.P ns F::r):=by
 have hlen : 1≤F.ps.length:=by cases h : F.ps with
  | nil=>exact absurd h hp
  | cons a b=>simp
 have hps : ∀ i ∈ F.ps,i < B.P + ns.length:=fun i hi=>S.lt i (mem_head (by simp [FraN.all,hi]))
 obtain ⟨m,em⟩:=eb_ext ns F
 obtain ⟨m0,e0⟩:=S.ext
 have hle : ns.length≤(ebNs ns F).length:=by rw [em,List.length_append]; omega
 have mem : ∀ j,j ∈ (ebFra B.P ns F::r).flatMap FraN.all↔j = joinAt B.P ns F.ps∨(j ∈ F.fs∨j ∈ F.bs)∨j ∈ r.flatMap FraN.all:=fun j=>by
  simp only [List.flatMap_cons,FraN.all,ebFra,List.mem_append,List.mem_singleton,List.append_nil]
  constructor
  ·rintro ((h | (h | h)) | h) <;> simp [h]
  ·rintro (h | (h | h) | h) <;> simp [h]
 refine ⟨⟨m0++m,by rw [em,e0,List.append_assoc]⟩,joinNs_good S.good hps hlen (Nat.le_refl _),fun i hi=>Nat.lt_of_lt_of_le (S.ltl i hi) (Nat.add_le_add_left hle _),fun j hj=>?_,?_⟩
 ·rcases (mem j).mp hj with rfl | (h | h) | h
  ·exact joinAt_lt hps
  ·exact Nat.lt_of_lt_of_le (S.lt j (mem_head (by simp [FraN.all,h]))) (Nat.add_le_add_left hle _)
  ·exact Nat.lt_of_lt_of_le (S.lt j (mem_head (by simp [FraN.all,h]))) (Nat.add_le_add_left hle _)
  ·exact Nat.lt_of_lt_of_le (S.lt j (mem_rest h)) (Nat.add_le_add_left hle _)
 ·refine joinNs_cov (a:=B.ls.map (·.2)++(F::r).flatMap FraN.all) S.cov hps (fun i hi=>?_) (fun i hi=>?_) (List.mem_append_right _ ((mem _).mpr (.inl rfl)))
  ·rcases List.mem_append.mp hi with z | z
   ·exact S.ltl i z
   ·exact S.lt i z
  ·rcases List.mem_append.mp hi with z | z
   ·exact .inr (List.mem_append_left _ z)
   ·rw [List.flatMap_cons] at z
    rcases List.mem_append.mp z with z | z
    ·simp only [FraN.all,List.mem_append] at z
     rcases z with z | z | z
     ·exact .inr (List.mem_append_right _ ((mem i).mpr (.inr (.inl (.inl z)))))
     ·exact .inr (List.mem_append_right _ ((mem i).mpr (.inr (.inl (.inr z)))))
     ·exact .inl z
    ·exact .inr (List.mem_append_right _ ((mem i).mpr (.inr (.inr z))))
theorem den_all {P : Nat} {l : List FraN} {more : List NodeM} (h : ∀ i ∈ l.flatMap FraN.all,i < P + ns.length) : l.map (FraN.den P (ns++more)) = l.map (FraN.den P ns) :=
 List.map_congr_left fun F hF=>FraN.den_ext more fun i hi=>h i (List.mem_flatMap.mpr ⟨F,hF,hi⟩)
theorem PSt.eb_den (S : PSt B ns (F::r)) : (ebFra B.P ns F).den B.P (ebNs ns F) = ⟨F.asked,F.fs.map (den B.P ns),F.bs.map (den B.P ns)++[grp 1 (F.ps.map (den B.P ns))],[]⟩∧r.map (FraN.den B.P (ebNs ns F)) = r.map (FraN.den B.P ns):=by
 have hps : ∀ i ∈ F.ps,i < B.P + ns.length:=fun i hi=>S.lt i (mem_head (by simp [FraN.all,hi]))
 have hj:=joinAt_den (P:=B.P) (ns:=ns) (w:=F.ps) (what:=1) (k:=F.ps.length) hps rfl
 obtain ⟨m,em⟩:=eb_ext ns F
 constructor
 ·unfold FraN.den ebFra
  dsimp only
  rw [List.map_append,List.map_cons,List.map_nil]
  show (⟨F.asked,F.fs.map (Sp.den B.P (ebNs ns F)),F.bs.map (Sp.den B.P (ebNs ns F))++[Sp.den B.P (joinNs ns F.ps.length F.ps) (joinAt B.P ns F.ps)],[]⟩ : Fra) = _
  rw [hj,em,den_map_ext m fun i hi=>S.lt i (mem_head (by simp [FraN.all,hi])),den_map_ext m fun i hi=>S.lt i (mem_head (by simp [FraN.all,hi]))]
 ·rw [em]
  exact den_all fun i hi=>S.lt i (mem_rest hi)
theorem PSt.ef (S : PSt B ns (F::r)) (hp : F.ps ≠ []) : PSt B (efNs B.P ns F) (efFra B.P ns F::r):=by
 have S1:=S.eb hp
 have hlen : 1≤(ebFra B.P ns F).bs.length:=by simp [ebFra]
 have hbs : ∀ i ∈ (ebFra B.P ns F).bs,i < B.P + (ebNs ns F).length:=fun i hi=>S1.lt i (mem_head (by simp [FraN.all,hi]))
 obtain ⟨m,em⟩:=joinNs_ext (ebNs ns F) 1 (ebFra B.P ns F).bs
 obtain ⟨m0,e0⟩:=S1.ext
 have hle : (ebNs ns F).length≤(efNs B.P ns F).length:=by unfold efNs; rw [em,List.length_append]; omega
 have mem : ∀ j,j ∈ (efFra B.P ns F::r).flatMap FraN.all↔j = efAt B.P ns F∨j ∈ F.fs∨j ∈ r.flatMap FraN.all:=fun j=>by
  simp only [List.flatMap_cons,FraN.all,efFra,List.mem_append,List.mem_singleton,List.append_nil]
  constructor
  ·rintro ((h | h) | h) <;> simp [h]
  ·rintro (h | h | h) <;> simp [h]
 refine ⟨⟨m0++m,by unfold efNs; rw [em,e0,List.append_assoc]⟩,joinNs_good S1.good hbs (Nat.le_refl _) hlen,fun i hi=>Nat.lt_of_lt_of_le (S1.ltl i hi) (Nat.add_le_add_left hle _),fun j hj=>?_,?_⟩
 ·rcases (mem j).mp hj with rfl | h | h
  ·exact joinAt_lt hbs
  ·exact Nat.lt_of_lt_of_le (S1.lt j (mem_head (by simp [FraN.all,ebFra,h]))) (Nat.add_le_add_left hle _)
  ·exact Nat.lt_of_lt_of_le (S1.lt j (mem_rest h)) (Nat.add_le_add_left hle _)
 ·refine joinNs_cov (a:=B.ls.map (·.2)++(ebFra B.P ns F::r).flatMap FraN.all) S1.cov hbs (fun i hi=>?_) (fun i hi=>?_) (List.mem_append_right _ ((mem _).mpr (.inl rfl)))
  ·rcases List.mem_append.mp hi with z | z
   ·exact S1.ltl i z
   ·exact S1.lt i z
  ·rcases List.mem_append.mp hi with z | z
   ·exact .inr (List.mem_append_left _ z)
   ·rw [List.flatMap_cons] at z
    rcases List.mem_append.mp z with z | z
    ·have z : i ∈ F.fs∨i ∈ (ebFra B.P ns F).bs:=by simpa [FraN.all,ebFra] using z
     rcases z with z | z
     ·exact .inr (List.mem_append_right _ ((mem i).mpr (.inr (.inl z))))
     ·exact .inl z
    ·exact .inr (List.mem_append_right _ ((mem i).mpr (.inr (.inr z))))
theorem PSt.ef_den (S : PSt B ns (F::r)) (hp : F.ps ≠ []) : den B.P (efNs B.P ns F) (efAt B.P ns F) = grp 2 (F.bs.map (den B.P ns)++[grp 1 (F.ps.map (den B.P ns))]) ∧
  (efFra B.P ns F).den B.P (efNs B.P ns F) = ⟨F.asked,F.fs.map (den B.P ns)++[grp 2 (F.bs.map (den B.P ns)++[grp 1 (F.ps.map (den B.P ns))])],[],[]⟩∧r.map (FraN.den B.P (efNs B.P ns F)) = r.map (FraN.den B.P ns):=by
 have S1:=S.eb hp
 have hbs : ∀ i ∈ (ebFra B.P ns F).bs,i < B.P + (ebNs ns F).length:=fun i hi=>S1.lt i (mem_head (by simp [FraN.all,hi]))
 have hj:=joinAt_den (P:=B.P) (ns:=ebNs ns F) (w:=(ebFra B.P ns F).bs) (what:=2) (k:=1) hbs rfl
 obtain ⟨e1,e2⟩:=S.eb_den
 have eb : (ebFra B.P ns F).bs.map (den B.P (ebNs ns F)) = F.bs.map (den B.P ns)++[grp 1 (F.ps.map (den B.P ns))]:=congrArg Fra.bs e1
 have ef0 : (ebFra B.P ns F).fs.map (den B.P (ebNs ns F)) = F.fs.map (den B.P ns):=congrArg Fra.fs e1
 rw [eb] at hj
 obtain ⟨m,em⟩:=joinNs_ext (ebNs ns F) 1 (ebFra B.P ns F).bs
 have hj' : den B.P (efNs B.P ns F) (efAt B.P ns F) = grp 2 (F.bs.map (den B.P ns)++[grp 1 (F.ps.map (den B.P ns))]):=hj
 refine ⟨hj',?_,?_⟩
 ·unfold FraN.den
  show (⟨F.asked,(F.fs++[efAt B.P ns F]).map (Sp.den B.P (efNs B.P ns F)),[],[]⟩ : Fra) = _
  rw [List.map_append,List.map_cons,List.map_nil,hj']
  unfold efNs
  rw [em,den_map_ext m fun i hi=>S1.lt i (mem_head (by simp [FraN.all,ebFra,hi]))]
  have ef1 : F.fs.map (den B.P (ebNs ns F)) = F.fs.map (den B.P ns):=ef0
  rw [ef1]
 ·unfold efNs
  rw [em,den_all fun i hi=>S1.lt i (mem_rest hi),e2]
theorem PSt.close (S : PSt B ns (F::G::r)) (hf : F.bs = []∧F.ps = []) {i : Nat} (hi : F.fs = [i]) : PSt B ns ({ G with ps:=G.ps++[i] }::r):=by
 have mem : ∀ j,j ∈ ({ G with ps:=G.ps++[i] }::r).flatMap FraN.all↔j ∈ (F::G::r).flatMap FraN.all:=fun j=>by
  simp only [List.flatMap_cons,FraN.all,List.mem_append,List.mem_singleton,hf.1,hf.2,hi,List.append_nil]
  constructor
  ·rintro ((h | (h | (h | h))) | h) <;> simp [h]
  ·rintro (h | ((h | (h | h)) | h)) <;> simp [h]
 exact ⟨S.ext,S.good,S.ltl,fun j hj=>S.lt j ((mem j).mp hj),S.cov.mono fun j hj=>by
  rcases List.mem_append.mp hj with z | z
  ·exact List.mem_append_left _ z
  ·exact List.mem_append_right _ ((mem j).mpr z)⟩
theorem PSt.closeK (S : PSt B ns (F::G::r)) (hf : F.bs = []∧F.ps = []) (h1 : 1≤F.asked) (h2 : F.asked≤F.fs.length) : PSt B (ns++[(F.asked,F.fs)]) ({ G with ps:=G.ps++[B.P + ns.length] }::r):=by
 have hfs : ∀ i ∈ F.fs,i < B.P + ns.length:=fun i hi=>S.lt i (mem_head (by simp [FraN.all,hi]))
 have mem : ∀ j,j ∈ ({ G with ps:=G.ps++[B.P + ns.length] }::r).flatMap FraN.all↔j = B.P + ns.length∨j ∈ (G::r).flatMap FraN.all:=fun j=>by
  simp only [List.flatMap_cons,FraN.all,List.mem_append,List.mem_singleton]
  constructor
  ·rintro ((h | (h | (h | h))) | h) <;> simp [h]
  ·rintro (h | ((h | (h | h)) | h)) <;> simp [h]
 obtain ⟨m,em⟩:=S.ext
 have hl : (ns++[(F.asked,F.fs)]).length = ns.length + 1:=by simp
 refine ⟨⟨m++[(F.asked,F.fs)],by rw [em,List.append_assoc]⟩,S.good.snoc hfs h1 h2,fun i hi=>by rw [hl]; have:=S.ltl i hi; omega,fun j hj=>?_,?_⟩
 ·rw [hl]
  rcases (mem j).mp hj with rfl | z
  ·omega
  ·have:=S.lt j (mem_rest z)
   omega
 ·refine S.cov.node hfs (fun i hi=>?_) (fun i hi=>?_) (List.mem_append_right _ ((mem _).mpr (.inl rfl)))
  ·rcases List.mem_append.mp hi with z | z
   ·exact S.ltl i z
   ·exact S.lt i z
  ·rcases List.mem_append.mp hi with z | z
   ·exact .inr (List.mem_append_left _ z)
   ·rw [List.flatMap_cons] at z
    rcases List.mem_append.mp z with z | z
    ·have z : i ∈ F.fs:=by simpa [FraN.all,hf.1,hf.2] using z
     exact .inl z
    ·exact .inr (List.mem_append_right _ ((mem i).mpr (.inr z)))
theorem PSt.known (S : PSt B ns r) (k : B.Ok) : (⟨B.people,ns,B.ls⟩ : Bk).known = B.known:=by
 unfold Bk.known
 show (⟨B.people,B.ls.map fun x=>(x.1,den B.P ns x.2)⟩ : Known) = _
 congr 1
 refine List.map_congr_left fun x hx=>?_
 rw [S.old (k.lt x hx)]
theorem PSt.done (k : B.Ok) (S : PSt B ns [F]) (hf : F.bs = []∧F.ps = []) {i : Nat} (hi : F.fs = [i]) (x : Bytes) : (⟨B.people,ns,B.ls++[(x,i)]⟩ : Bk).Ok ∧
  (⟨B.people,ns,B.ls++[(x,i)]⟩ : Bk).known = ⟨B.known.people,B.known.lets++[(x,den B.P ns i)]⟩:=by
 have hall : [F].flatMap FraN.all = [i]:=by simp [FraN.all,hf.1,hf.2,hi]
 refine ⟨⟨S.good,fun y hy=>?_,?_⟩,?_⟩
 ·rcases List.mem_append.mp hy with z | z
  ·exact S.ltl y.2 (List.mem_map.mpr ⟨y,z,rfl⟩)
  ·simp at z
   subst z
   exact S.lt i (by rw [hall]; simp)
 ·have c:=S.cov
  rw [hall] at c
  show Cov B.P ns ((B.ls++[(x,i)]).map (·.2))
  rw [List.map_append]
  exact c
 ·have e:=S.known k
  unfold Bk.known at e ⊢
  show (⟨B.people,(B.ls++[(x,i)]).map fun y=>(y.1,den B.P ns y.2)⟩ : Known) = _
  rw [List.map_append]
  have e2 : (B.ls.map fun y=>(y.1,den B.P ns y.2)) = B.ls.map fun y=>(y.1,den B.P B.ns y.2):=congrArg Known.lets e
  rw [e2]
  rfl
end
end Sp
end
section
set_option linter.all false
set_option maxRecDepth 100000
namespace Pg
open PySem L2 Xc Sp
theorem lk_hit {f : Str} {v : V} {r : List (Str × V)} : List.lookup f ((f,v)::r) = some v:=by rw [List.lookup_cons,beq_self_eq_true]
theorem lk_miss {f g : Str} {v : V} {r : List (Str × V)} (h : ¬ f = g) : List.lookup f ((g,v)::r) = List.lookup f r:=by rw [List.lookup_cons,beq_eq_false_iff_ne.mpr h]
theorem pf_hit {f : Str} {v x : V} {r : List (Str × V)} : putF f v ((f,x)::r) = (f,v)::r:=by
 rw [show putF f v ((f,x)::r) = (if f = f then (f,v)::r else (f,x)::putF f v r) from rfl,if_pos rfl]
theorem pf_miss {f g : Str} {v x : V} {r : List (Str × V)} (h : ¬ g = f) : putF f v ((g,x)::r) = (g,x)::putF f v r:=by
 rw [show putF f v ((g,x)::r) = (if g = f then (g,v)::r else (g,x)::putF f v r) from rfl,if_neg h]
theorem pf_nil {f : Str} {v : V} : putF f v [] = [(f,v)]:=rfl
def mkS (l : List Nat) : Str:=⟨l.toArray⟩
theorem mkS_inj {a b : List Nat} (h : mkS a = mkS b) : a = b:=by
 have:=congrArg TL.tl h
 exact this
def kindS (w : List Nat) : Str:=match w with
 | []=>"end"
 | c::r=>if Rb35.isSmall c = true∧(c::r).length≤15∧¬ Rb35.keys.contains (c::r) = true then "name" else if Rb35.isDigit c = true∧(c::r).length≤5 then "number" else "other"
def tokG (k w : Str) (p : Int) : List (Str × V):=[("kind",.str k),("word",.str w),("place",.int p)]
def ndF (k : Int) (wl : Addr) : List (Str × V):=[("asked",.int k),("within",.ref wl)]
def bkF (p : Int) (pa na la ma : Addr) : List (Str × V):=[("prime",.int p),("people",.ref pa),("nodes",.ref na),("lets",.ref la),("names",.ref ma)]
def brF (k : Int) (fl bl pl : Addr) : List (Str × V):=[("asked",.int k),("formulas",.ref fl),("boths",.ref bl),("parts",.ref pl)]
def rdF (lt : Addr) (i : Int) : List (Str × V):=[("tokens",.ref lt),("at",.int i)]
theorem tokG_kind (k w : Str) (p : Int) : (tokG k w p).lookup ("kind" : Str) = some (.str k):=lk_hit
theorem tokG_word (k w : Str) (p : Int) : (tokG k w p).lookup ("word" : Str) = some (.str w):=(lk_miss (by decide +kernel)).trans lk_hit
theorem tokG_place (k w : Str) (p : Int) : (tokG k w p).lookup ("place" : Str) = some (.int p):=(lk_miss (by decide +kernel)).trans ((lk_miss (by decide +kernel)).trans lk_hit)
theorem ndF_asked (k : Int) (wl : Addr) : (ndF k wl).lookup ("asked" : Str) = some (.int k):=lk_hit
theorem ndF_within (k : Int) (wl : Addr) : (ndF k wl).lookup ("within" : Str) = some (.ref wl):=(lk_miss (by decide +kernel)).trans lk_hit
section
variable (p : Int) (pa na la ma : Addr)
theorem bkF_prime : (bkF p pa na la ma).lookup ("prime" : Str) = some (.int p):=lk_hit
theorem bkF_people : (bkF p pa na la ma).lookup ("people" : Str) = some (.ref pa):=(lk_miss (by decide +kernel)).trans lk_hit
theorem bkF_nodes : (bkF p pa na la ma).lookup ("nodes" : Str) = some (.ref na):=(lk_miss (by decide +kernel)).trans ((lk_miss (by decide +kernel)).trans lk_hit)
theorem bkF_lets : (bkF p pa na la ma).lookup ("lets" : Str) = some (.ref la):=(lk_miss (by decide +kernel)).trans ((lk_miss (by decide +kernel)).trans ((lk_miss (by decide +kernel)).trans lk_hit))
theorem bkF_names : (bkF p pa na la ma).lookup ("names" : Str) = some (.ref ma):=(lk_miss (by decide +kernel)).trans ((lk_miss (by decide +kernel)).trans ((lk_miss (by decide +kernel)).trans ((lk_miss (by decide +kernel)).trans lk_hit)))
theorem bkF_no {m : Str} (h1 : ¬ m = "prime") (h2 : ¬ m = "people") (h3 : ¬ m = "nodes") (h4 : ¬ m = "lets") (h5 : ¬ m = "names") : (bkF p pa na la ma).lookup m = none :=
 (lk_miss h1).trans ((lk_miss h2).trans ((lk_miss h3).trans ((lk_miss h4).trans ((lk_miss h5).trans rfl))))
end
section
variable (k : Int) (fl bl pl x : Addr)
theorem brF_asked : (brF k fl bl pl).lookup ("asked" : Str) = some (.int k):=lk_hit
theorem brF_formulas : (brF k fl bl pl).lookup ("formulas" : Str) = some (.ref fl):=(lk_miss (by decide +kernel)).trans lk_hit
theorem brF_boths : (brF k fl bl pl).lookup ("boths" : Str) = some (.ref bl):=(lk_miss (by decide +kernel)).trans ((lk_miss (by decide +kernel)).trans lk_hit)
theorem brF_parts : (brF k fl bl pl).lookup ("parts" : Str) = some (.ref pl):=(lk_miss (by decide +kernel)).trans ((lk_miss (by decide +kernel)).trans ((lk_miss (by decide +kernel)).trans lk_hit))
theorem brF_no {m : Str} (h1 : ¬ m = "asked") (h2 : ¬ m = "formulas") (h3 : ¬ m = "boths") (h4 : ¬ m = "parts") : (brF k fl bl pl).lookup m = none :=
 (lk_miss h1).trans ((lk_miss h2).trans ((lk_miss h3).trans ((lk_miss h4).trans rfl)))
theorem brF_putParts : putF "parts" (.ref x) (brF k fl bl pl) = brF k fl bl x:=by
 unfold brF
 rw [pf_miss (by decide +kernel),pf_miss (by decide +kernel),pf_miss (by decide +kernel),pf_hit]
theorem brF_putBoths : putF "boths" (.ref x) (brF k fl bl pl) = brF k fl x pl:=by
 unfold brF
 rw [pf_miss (by decide +kernel),pf_miss (by decide +kernel),pf_hit]
end
theorem rdF_tokens (lt : Addr) (i : Int) : (rdF lt i).lookup ("tokens" : Str) = some (.ref lt):=lk_hit
theorem rdF_at (lt : Addr) (i : Int) : (rdF lt i).lookup ("at" : Str) = some (.int i):=(lk_miss (by decide +kernel)).trans lk_hit
theorem rdF_put (lt : Addr) (i j : Int) : putF "at" (.int j) (rdF lt i) = rdF lt j:=by
 unfold rdF
 rw [pf_miss (by decide +kernel),pf_hit]
theorem rdF_no (lt : Addr) (i : Int) {m : Str} (h1 : ¬ m = "tokens") (h2 : ¬ m = "at") : (rdF lt i).lookup m = none:=(lk_miss h1).trans ((lk_miss h2).trans rfl)
def Kp (F : List Addr) (H H' : Hp) : Prop:=∀ b o,H b = some o→b ∉ F→H' b = some o
theorem Kp.refl {H : Hp} {F : List Addr} : Kp F H H:=fun _ _ h _=>h
theorem Kp.trans {F : List Addr} {H H1 H2 : Hp} (a : Kp F H H1) (b : Kp F H1 H2) : Kp F H H2:=fun c o h n=>b c o (a c o h n) n
theorem Kp.mono {F G : List Addr} {H H1 : Hp} (a : Kp F H H1) (h : ∀ x ∈ F,x ∈ G) : Kp G H H1:=fun c o q n=>a c o q fun z=>n (h c z)
theorem Kp.same {H H1 : Hp} (h : Same H H1) (F : List Addr) : Kp F H H1:=fun c o q _=>h c o q
theorem Kp.toSame {H H1 : Hp} (h : Kp [] H H1) : Same H H1:=fun c o q=>h c o q (by simp)
theorem Kp.upd {F : List Addr} {H H1 : Hp} {a : Addr} {o : HO} (h : Kp F H H1) (ha : a ∈ F∨H a = none) : Kp F H (L2.upd H1 a o):=fun c u q n=>by
 have hca : c ≠ a:=by
  rcases ha with z | z
  ·exact fun e=>n (e ▸ z)
  ·exact ne_of_none q z
 rw [upd_ne hca]
 exact h c u q n
structure Cs where
 nod : Addr
 boo : Addr
 tok : Addr
 bra : Addr
 rea : Addr
 ref : Addr
 oor : Addr
 ovl : Addr
 cst : Addr
end Pg
end
section
set_option linter.all false
set_option maxRecDepth 100000
namespace Pg
open PySem PySem.Spec PyProof.Rows L2 Xc Sp
section
variable {P : Program} {w : World} {K : PySem.W.Frag} {mg : Str→Option Value} {base : Heap}
theorem okN {x qual : Str} {st : Stmt} {f : Addr} {fd : FuncData} {N ps : List Str} {k : Nat} {sp : Sp} (F : Fun K x qual st f fd) (S : FnScope N ps (defScope st)) (len : ∀ vs H Q E,sp vs H Q E→vs.length = ps.length)
  (hbody : ∀ (cdv : Value) (A : Around) (outer : List Env) (s : Shared) (H : Hp) (vs : List V) (Q : VK) (E : XK),Room k (A.deeper (envOfC qual (defScope st) s.heap.objs.size f cdv))→sp vs H Q E →
   ∃ t,PSs (cxOf (CXX P w) P w K mg base N qual (defScope st) f cdv A outer s H E).nox (defBody st) t∧t { nx:=fun _ H'=>Q .non H',rt:=Q } (start N vs) H) : FnOk P w K mg base (CXX P w) (k + 1) f fd ps sp:=by
 obtain ⟨oc,od,kV,doc,pm,an,cdv,ct,osl,rfl,lk,hcd⟩:=F.ex
 refine fn_of lk hcd S len fun A outer s H vs Q E hr hsp=>?_
 obtain ⟨t,h,q⟩:=hbody cdv A outer s H vs Q E hr hsp
 exact ⟨t,h.nox,q⟩
theorem okX {x qual : Str} {st : Stmt} {f : Addr} {fd : FuncData} {N ps : List Str} {k : Nat} {sp : Sp} (F : Fun K x qual st f fd) (S : FnScope N ps (defScope st)) (len : ∀ vs H Q E,sp vs H Q E→vs.length = ps.length)
  (hbody : ∀ (cdv : Value) (A : Around) (outer : List Env) (s : Shared) (H : Hp) (vs : List V) (Q : VK) (E : XK),Room k (A.deeper (envOfC qual (defScope st) s.heap.objs.size f cdv))→sp vs H Q E →
   ∃ t,PSs (cxOf (CXX P w) P w K mg base N qual (defScope st) f cdv A outer s H E) (defBody st) t∧t { nx:=fun _ H'=>Q .non H',rt:=Q } (start N vs) H) : FnOk P w K mg base (CXX P w) (k + 1) f fd ps sp:=by
 obtain ⟨oc,od,kV,doc,pm,an,cdv,ct,osl,rfl,lk,hcd⟩:=F.ex
 exact fn_of lk hcd S len fun A outer s H vs Q E hr hsp=>hbody cdv A outer s H vs Q E hr hsp
structure DefOk (P : Program) (w : World) (K : PySem.W.Frag) (mg : Str→Option Value) (base : Heap) (k : Nat) (x : Str) (ps : List Str) (sp : Sp) : Prop where
 ex : ∃ f fd,mg x = some (.ref f)∧PySem.W.keepIn K (.ref f) = true∧Binds K fd ps []∧FnOk P w K mg base (CXX P w) k f fd ps sp
structure MetOk (P : Program) (w : World) (K : PySem.W.Frag) (mg : Str→Option Value) (base : Heap) (k : Nat) (C : Addr) (m : Str) (ps : List Str) (sp : Sp) : Prop where
 ex : ∃ f fd,Meth K C m f∧Binds K fd ps []∧FnOk P w K mg base (CXX P w) k f fd ps sp
structure ClaOk (P : Program) (w : World) (K : PySem.W.Frag) (mg : Str→Option Value) (base : Heap) (k : Nat) (x : Str) (C : Addr) (ps : List Str) (sp : Sp) : Prop where
 ex : ∃ f fd,mg x = some (.ref C)∧Mk K C f∧Binds K fd ps []∧FnOk P w K mg base (CXX P w) k f fd ps sp
theorem DefOk.mono {j k : Nat} {x : Str} {ps : List Str} {sp : Sp} (D : DefOk P w K mg base j x ps sp) (h : j≤k) : DefOk P w K mg base k x ps sp :=
 let ⟨f,fd,a,b,c,d⟩:=D.ex; ⟨f,fd,a,b,c,d.mono h⟩
theorem MetOk.mono {j k : Nat} {C : Addr} {x : Str} {ps : List Str} {sp : Sp} (D : MetOk P w K mg base j C x ps sp) (h : j≤k) : MetOk P w K mg base k C x ps sp :=
 let ⟨f,fd,a,c,d⟩:=D.ex; ⟨f,fd,a,c,d.mono h⟩
theorem ClaOk.mono {j k : Nat} {C : Addr} {x : Str} {ps : List Str} {sp : Sp} (D : ClaOk P w K mg base j x C ps sp) (h : j≤k) : ClaOk P w K mg base k x C ps sp :=
 let ⟨f,fd,a,b,c,d⟩:=D.ex; ⟨f,fd,a,b,c,d.mono h⟩
end
section
variable {X : Cx} {k : Nat} {C : Addr} {ps : List Str} {sp : Sp} {E : XK} {x m : Str} {p pos apos : Pos} {e o : Expr} {es : List Expr} {ta : TE} {t : TA}
theorem pe_def (D : DefOk X.prog X.w X.K X.mg X.base k x ps sp) (hr : Room k X.A) (hg : Gl X x) (hx : Passes (CXX X.prog X.w) X E) (ha : PA X (e::es) t) (hdb : (x == ("__debug__" : Str)) = false:=by decide)
  (he : starEach (e::es) X.env = (false,eval e X.env)::starEach es X.env:=by rfl) (hpl : (backTo pos (starEach es X.env)).any (·.1) = false:=by rfl) : PE X (.Call (.Name x p) (e::es) [] pos) (tCall sp [] E t):=by
 obtain ⟨f,fd,h1,h2,h3,h4⟩:=D.ex
 exact pe_call h4 hr hg h1 h2 h3 .nil hx ha hdb he hpl
theorem pe_cla (D : ClaOk X.prog X.w X.K X.mg X.base k x C ps sp) (hr : Room (k + 1) X.A) (hg : Gl X x) (hx : Passes (CXX X.prog X.w) X E) (ha : PA X (e::es) t) (hdb : (x == ("__debug__" : Str)) = false:=by decide)
  (he : starEach (e::es) X.env = (false,eval e X.env)::starEach es X.env:=by rfl) (hpl : (backTo pos (starEach es X.env)).any (·.1) = false:=by rfl) : PE X (.Call (.Name x p) (e::es) [] pos) (tMake C sp [] E t):=by
 obtain ⟨f,fd,h1,h2,h3,h4⟩:=D.ex
 exact pe_make h2 h4 hr hg h1 h3 .nil hx ha hdb he hpl
theorem pe_met {pl : Sem Bool} (he : PE X o ta) (c : Cls X.K C) (D : MetOk X.prog X.w X.K X.mg X.base k C m ps sp) (hr : Room k X.A) (hx : Passes (CXX X.prog X.w) X E) (ha : PA X (e::es) t)
  (hst : starEach (e::es) X.env = (false,eval e X.env)::starEach es X.env:=by rfl) (hpl : (backTo pos (starEach es X.env)).any (·.1) = false:=by rfl)
  (ht : eval (.Call (.Attribute o m apos) (e::es) [] pos) X.env = (do
   let ov ← eval o X.env
   standAt apos.atName
   let (f,first) ← holding [ov] (getMethod ov m pl)
   callWith pos f first (backTo pos (starEach (e::es) X.env)) (backToKw pos (keywordEach [] X.env))):=by rfl) :
  PE X (.Call (.Attribute o m apos) (e::es) [] pos) (tMeth C m sp [] E ta t):=by
 obtain ⟨f,fd,h2,h3,h4⟩:=D.ex
 exact pe_meth (pl:=pl) he c h2 h4 hr h3 .nil hx ha hst hpl ht
theorem pe_met0 {pl : Sem Bool} (he : PE X o ta) (c : Cls X.K C) (D : MetOk X.prog X.w X.K X.mg X.base k C m ps sp) (hr : Room k X.A) (hx : Passes (CXX X.prog X.w) X E)
  (ht : eval (.Call (.Attribute o m apos) [] [] pos) X.env = (do
   let ov ← eval o X.env
   standAt apos.atName
   let (f,first) ← holding [ov] (getMethod ov m pl)
   callWith pos f first (backTo pos (starEach [] X.env)) (backToKw pos (keywordEach [] X.env))):=by rfl) :
  PE X (.Call (.Attribute o m apos) [] [] pos) (tMeth C m sp [] E ta tNil):=by
 obtain ⟨f,fd,h2,h3,h4⟩:=D.ex
 exact pe_meth0 (pl:=pl) he c h2 h4 hr h3 .nil hx ht
end
structure FunT (K : PySem.W.Frag) (mg : Str→Option Value) (x : Str) (st : Stmt) : Prop where
 ex : ∃ f fd,Fun K x x st f fd∧mg x = some (.ref f)
structure MetT (K : PySem.W.Frag) (C : Addr) (m qual : Str) (st : Stmt) : Prop where
 ex : ∃ f fd,Fun K m qual st f fd∧Meth K C m f
structure ClaT (K : PySem.W.Frag) (mg : Str→Option Value) (x : Str) (C : Addr) (qual : Str) (st : Stmt) : Prop where
 ex : ∃ f fd,Fun K "__init__" qual st f fd∧Mk K C f∧mg x = some (.ref C)
structure ExcT (K : PySem.W.Frag) (mg : Str→Option Value) (x : Str) (C : Addr) (qual : Str) (st : Stmt) : Prop where
 ex : ∃ f fd,Fun K "__init__" qual st f fd∧ExcC K C f∧mg x = some (.ref C)
 cls : ClsX K C
abbrev NoAt (K : PySem.W.Frag) (C : Addr) (fs : List Str) : Prop:=∀ f ∈ fs,NoAttr K C f
end Pg
end
section
set_option linter.all false
set_option maxRecDepth 100000
set_option maxHeartbeats 4000000
namespace Pg
open PySem L2 Xc Sp
def top (i : Nat) : Stmt:=PySem.Challenge.pw_secretparts_s04_told.main.body.getD i (.Pass ⟨0,0,0,0⟩)
abbrev st_all_places : Stmt:=top 2
abbrev st_Refusal_init : Stmt:=inClass (top 4) 0
abbrev st_TooMany_init : Stmt:=inClass (top 5) 0
abbrev st_OutOfRange_init : Stmt:=inClass (top 6) 0
abbrev st_OverLimit_init : Stmt:=inClass (top 7) 0
abbrev st_CannotStand_init : Stmt:=inClass (top 8) 0
abbrev st_Node_init : Stmt:=inClass (top 10) 0
abbrev st_Book_init : Stmt:=inClass (top 11) 0
abbrev st_Book_add_person : Stmt:=inClass (top 11) 1
abbrev st_Book_add_node : Stmt:=inClass (top 11) 2
abbrev st_Book_add_let : Stmt:=inClass (top 11) 3
abbrev st_Token_init : Stmt:=inClass (top 25) 0
abbrev st_tokens_of : Stmt:=top 26
abbrev st_row_of : Stmt:=top 27
abbrev st_run_end : Stmt:=top 28
abbrev st_end_of_signs : Stmt:=top 29
abbrev st_kind_of : Stmt:=top 30
abbrev st_Bracket_init : Stmt:=inClass (top 32) 0
abbrev st_Bracket_end_both : Stmt:=inClass (top 32) 1
abbrev st_Bracket_end_formula : Stmt:=inClass (top 32) 2
abbrev st_joined : Stmt:=top 33
abbrev st_read_formula : Stmt:=top 34
abbrev st_begin_brackets : Stmt:=top 35
abbrev st_close_brackets : Stmt:=top 36
abbrev st_closed : Stmt:=top 37
abbrev st_read_between : Stmt:=top 38
abbrev st_keep_limits : Stmt:=top 43
abbrev st_Reader_init : Stmt:=inClass (top 46) 0
abbrev st_Reader_now : Stmt:=inClass (top 46) 1
abbrev st_Reader_take : Stmt:=inClass (top 46) 2
abbrev st_Reader_take_written : Stmt:=inClass (top 46) 3
abbrev st_Reader_take_new_name : Stmt:=inClass (top 46) 4
abbrev st_Reader_take_known_name : Stmt:=inClass (top 46) 5
abbrev st_Reader_take_prime : Stmt:=inClass (top 46) 6
abbrev st_Reader_take_asked : Stmt:=inClass (top 46) 7
abbrev st_is_field : Stmt:=top 47
abbrev st_book_of : Stmt:=top 50
abbrev st_read_field : Stmt:=top 51
abbrev st_read_people : Stmt:=top 52
abbrev st_read_let : Stmt:=top 53
abbrev st_bytes_told : Stmt:=top 56
abbrev st_all_told : Stmt:=top 57
abbrev st_asked_of : Stmt:=top 58
abbrev st_sign_between : Stmt:=top 59
abbrev st_set_apart : Stmt:=top 60
abbrev st_joined_by : Stmt:=top 61
abbrev st_told : Stmt:=top 63
abbrev st_answered : Stmt:=top 64
abbrev st_no_more : Stmt:=top 65
abbrev st_counted : Stmt:=top 66
abbrev st_formula_of : Stmt:=top 67
theorem ndF_mk (k : Int) (wl : Addr) : putF "within" (.ref wl) (putF "asked" (.int k) []) = ndF k wl:=by
 unfold ndF
 rw [pf_nil,pf_miss (by decide +kernel),pf_nil]
theorem tokG_mk (k w : Str) (p : Int) : putF "place" (.int p) (putF "word" (.str w) (putF "kind" (.str k) [])) = tokG k w p:=by
 unfold tokG
 rw [pf_nil,pf_miss (by decide +kernel),pf_nil,pf_miss (by decide +kernel),pf_miss (by decide +kernel),pf_nil]
theorem rdF_mk (lt : Addr) (i : Int) : putF "at" (.int i) (putF "tokens" (.ref lt) []) = rdF lt i:=by
 unfold rdF
 rw [pf_nil,pf_miss (by decide +kernel),pf_nil]
def spNode (cs : Cs) : Sp:=fun vs H Q _=>∃ (p dx wl : Addr) (k : Int),vs = [.ref p,.int k,.ref wl]∧H p = some (.ins cs.nod dx [])∧∀ H',H' p = some (.ins cs.nod dx (ndF k wl))→Kp [p] H H'→Q .non H'
def spToken (cs : Cs) : Sp:=fun vs H Q _=>∃ (p dx : Addr) (k w : Str) (i : Int),vs = [.ref p,.str k,.str w,.int i]∧H p = some (.ins cs.tok dx [])∧∀ H',H' p = some (.ins cs.tok dx (tokG k w i))→Kp [p] H H'→Q .non H'
def spReader (cs : Cs) : Sp:=fun vs H Q _=>∃ (p dx lt : Addr),vs = [.ref p,.ref lt]∧H p = some (.ins cs.rea dx [])∧∀ H',H' p = some (.ins cs.rea dx (rdF lt 0))→Kp [p] H H'→Q .non H'
section
variable {P : Program} {w : World} {K : PySem.W.Frag} {mg : Str→Option Value} {base : Heap} {cs : Cs}
theorem sc_Node : FnScope ["self","asked","within"] ["self","asked","within"] (defScope st_Node_init):=⟨rfl,rfl,rfl,by decide +kernel,rfl,by decide +kernel,by decide +kernel⟩
theorem ok_Node (T : ClaT K mg "Node" cs.nod "Node.__init__" st_Node_init) (cl : Cls K cs.nod) (na : NoAt K cs.nod ["asked","within"]) : ClaOk P w K mg base 1 "Node" cs.nod ["self","asked","within"] (spNode cs):=by
 obtain ⟨f,fd,F,M,hm⟩:=T.ex
 refine ⟨f,fd,hm,M,F.binds (fun _ _ _ _ _ _ us hl=>match us,hl with | [_,_,_],_=>rfl),okN F sc_Node (fun vs H Q E h=>?_) (fun cdv A outer s H vs Q E hr h=>?_)⟩
 ·obtain ⟨p,dx,wl,k,rfl,_⟩:=h
  rfl
 ·obtain ⟨p,dx,wl,k,rfl,hp,kq⟩:=h
  refine ⟨_,pss_cons (ps_fld (pv 0) (pv 1) rfl) (pss_one (ps_fld (pv 0) (pv 2) rfl)),?_⟩
  refine ⟨_,rfl,_,rfl,p,cs.nod,dx,[],rfl,hp,cl,na _ (by simp),(by show 0 < 1000; decide),_,rfl,_,rfl,p,cs.nod,dx,_,rfl,upd_same,cl,na _ (by simp),(by show 1 < 1000; decide),?_⟩
  exact kq _ (Eq.trans upd_same (congrArg (fun q=>some (HO.ins cs.nod dx q)) (ndF_mk k wl))) (((Kp.refl).upd (.inl (by simp))).upd (.inl (by simp)))
theorem sc_Token : FnScope ["self","kind","word","place"] ["self","kind","word","place"] (defScope st_Token_init):=⟨rfl,rfl,rfl,by decide +kernel,rfl,by decide +kernel,by decide +kernel⟩
theorem ok_Token (T : ClaT K mg "Token" cs.tok "Token.__init__" st_Token_init) (cl : Cls K cs.tok) (na : NoAt K cs.tok ["kind","word","place"]) : ClaOk P w K mg base 1 "Token" cs.tok ["self","kind","word","place"] (spToken cs):=by
 obtain ⟨f,fd,F,M,hm⟩:=T.ex
 refine ⟨f,fd,hm,M,F.binds (fun _ _ _ _ _ _ us hl=>match us,hl with | [_,_,_,_],_=>rfl),okN F sc_Token (fun vs H Q E h=>?_) (fun cdv A outer s H vs Q E hr h=>?_)⟩
 ·obtain ⟨p,dx,k,wd,i,rfl,_⟩:=h
  rfl
 ·obtain ⟨p,dx,k,wd,i,rfl,hp,kq⟩:=h
  refine ⟨_,pss_cons (ps_fld (pv 0) (pv 1) rfl) (pss_cons (ps_fld (pv 0) (pv 2) rfl) (pss_one (ps_fld (pv 0) (pv 3) rfl))),?_⟩
  refine ⟨_,rfl,_,rfl,p,cs.tok,dx,[],rfl,hp,cl,na _ (by simp),(by show 0 < 1000; decide),_,rfl,_,rfl,p,cs.tok,dx,_,rfl,upd_same,cl,na _ (by simp),(by show 1 < 1000; decide),?_⟩
  refine ⟨_,rfl,_,rfl,p,cs.tok,dx,_,rfl,upd_same,cl,na _ (by simp),?_,?_⟩
  ·exact Nat.lt_of_le_of_lt (length_putF _ _ _) (by show 1 + 1 < 1000; decide)
  ·exact kq _ (Eq.trans upd_same (congrArg (fun q=>some (HO.ins cs.tok dx q)) (tokG_mk k wd i))) ((((Kp.refl).upd (.inl (by simp))).upd (.inl (by simp))).upd (.inl (by simp)))
theorem sc_Reader : FnScope ["self","tokens"] ["self","tokens"] (defScope st_Reader_init):=⟨rfl,rfl,rfl,by decide +kernel,rfl,by decide +kernel,by decide +kernel⟩
theorem ok_Reader (T : ClaT K mg "Reader" cs.rea "Reader.__init__" st_Reader_init) (cl : Cls K cs.rea) (na : NoAt K cs.rea ["tokens","at"]) : ClaOk P w K mg base 1 "Reader" cs.rea ["self","tokens"] (spReader cs):=by
 obtain ⟨f,fd,F,M,hm⟩:=T.ex
 refine ⟨f,fd,hm,M,F.binds (fun _ _ _ _ _ _ us hl=>match us,hl with | [_,_],_=>rfl),okN F sc_Reader (fun vs H Q E h=>?_) (fun cdv A outer s H vs Q E hr h=>?_)⟩
 ·obtain ⟨p,dx,lt,rfl,_⟩:=h
  rfl
 ·obtain ⟨p,dx,lt,rfl,hp,kq⟩:=h
  refine ⟨_,pss_cons (ps_fld (pv 0) (pv 1) rfl) (pss_one (ps_fld (pv 0) pe_int rfl)),?_⟩
  refine ⟨_,rfl,_,rfl,p,cs.rea,dx,[],rfl,hp,cl,na _ (by simp),(by show 0 < 1000; decide),_,rfl,p,cs.rea,dx,_,rfl,upd_same,cl,na _ (by simp),(by show 1 < 1000; decide),?_⟩
  exact kq _ (Eq.trans upd_same (congrArg (fun q=>some (HO.ins cs.rea dx q)) (rdF_mk lt 0))) (((Kp.refl).upd (.inl (by simp))).upd (.inl (by simp)))
end
end Pg
end
section
set_option linter.all false
set_option maxRecDepth 100000
set_option maxHeartbeats 4000000
namespace Pg
open PySem L2 Xc Sp
theorem lenF {f : Str} {v : V} {fs : List (Str × V)} {n : Nat} (h : fs.length≤n) : (putF f v fs).length≤n + 1:=Nat.le_trans (length_putF f v fs) (Nat.add_le_add_right h 1)
theorem bkF_mk (k : Int) (pa na la ma : Addr) : putF "names" (.ref ma) (putF "lets" (.ref la) (putF "nodes" (.ref na) (putF "people" (.ref pa) (putF "prime" (.int k) [])))) = bkF k pa na la ma:=by
 unfold bkF
 repeat (first | rw [pf_nil] | rw [pf_miss (by decide +kernel)])
theorem brF_mk (k : Int) (fl bl pl : Addr) : putF "parts" (.ref pl) (putF "boths" (.ref bl) (putF "formulas" (.ref fl) (putF "asked" (.int k) []))) = brF k fl bl pl:=by
 unfold brF
 repeat (first | rw [pf_nil] | rw [pf_miss (by decide +kernel)])
def spBook (cs : Cs) : Sp:=fun vs H Q _=>∃ (p dx : Addr) (k : Int),vs = [.ref p,.int k]∧H p = some (.ins cs.boo dx [])∧∀ (pa na la ma : Addr) (H' : Hp),H' p = some (.ins cs.boo dx (bkF k pa na la ma)) →
 H' pa = some (.lst [])→H' na = some (.lst [])→H' la = some (.lst [])→H' ma = some (.dK [])→H pa = none→H na = none→H la = none→H ma = none→[pa,na,la].Nodup→Kp [p] H H'→Q .non H'
def spBracket (cs : Cs) : Sp:=fun vs H Q _=>∃ (p dx : Addr) (k : Int),vs = [.ref p,.int k]∧H p = some (.ins cs.bra dx [])∧∀ (fl bl pl : Addr) (H' : Hp),H' p = some (.ins cs.bra dx (brF k fl bl pl)) →
 H' fl = some (.lst [])→H' bl = some (.lst [])→H' pl = some (.lst [])→H fl = none→H bl = none→H pl = none→[fl,bl,pl].Nodup→Kp [p] H H'→Q .non H'
section
variable {P : Program} {w : World} {K : PySem.W.Frag} {mg : Str→Option Value} {base : Heap} {cs : Cs}
theorem sc_Bracket : FnScope ["self","asked"] ["self","asked"] (defScope st_Bracket_init):=⟨rfl,rfl,rfl,by decide +kernel,rfl,by decide +kernel,by decide +kernel⟩
theorem ok_Bracket (T : ClaT K mg "Bracket" cs.bra "Bracket.__init__" st_Bracket_init) (cl : Cls K cs.bra) (na : NoAt K cs.bra ["asked","formulas","boths","parts"]) : ClaOk P w K mg base 1 "Bracket" cs.bra ["self","asked"] (spBracket cs):=by
 obtain ⟨f,fd,F,M,hm⟩:=T.ex
 refine ⟨f,fd,hm,M,F.binds (fun _ _ _ _ _ _ us hl=>match us,hl with | [_,_],_=>rfl),okN F sc_Bracket (fun vs H Q E h=>?_) (fun cdv A outer s H vs Q E hr h=>?_)⟩
 ·obtain ⟨p,dx,k,rfl,_⟩:=h
  rfl
 ·obtain ⟨p,dx,k,rfl,hp,kq⟩:=h
  refine ⟨_,pss_cons (ps_fld (pv 0) (pv 1) rfl) (pss_cons (ps_fld (pv 0) (pe_lst pa_nil) rfl) (pss_cons (ps_fld (pv 0) (pe_lst pa_nil) rfl) (pss_one (ps_fld (pv 0) (pe_lst pa_nil) rfl)))),?_⟩
  refine ⟨_,rfl,_,rfl,p,cs.bra,dx,[],rfl,hp,cl,na _ (by simp),(by show 0 < 1000; decide),?_⟩
  refine ⟨Nat.zero_le _,fun fl hfl=>?_⟩
  have p1 : p ≠ fl:=fun z=>by rw [← z,upd_same] at hfl; cases hfl
  refine ⟨_,rfl,p,cs.bra,dx,_,rfl,by rw [upd_ne p1]; exact upd_same,cl,na _ (by simp),Nat.lt_of_le_of_lt (lenF (Nat.le_refl _)) (by decide),?_⟩
  refine ⟨Nat.zero_le _,fun bl hbl=>?_⟩
  have p2 : p ≠ bl:=fun z=>by rw [← z,upd_same] at hbl; cases hbl
  refine ⟨_,rfl,p,cs.bra,dx,_,rfl,by rw [upd_ne p2]; exact upd_same,cl,na _ (by simp),Nat.lt_of_le_of_lt (lenF (lenF (Nat.le_refl _))) (by decide),?_⟩
  refine ⟨Nat.zero_le _,fun pl hpl=>?_⟩
  have p3 : p ≠ pl:=fun z=>by rw [← z,upd_same] at hpl; cases hpl
  refine ⟨_,rfl,p,cs.bra,dx,_,rfl,by rw [upd_ne p3]; exact upd_same,cl,na _ (by simp),Nat.lt_of_le_of_lt (lenF (lenF (lenF (Nat.le_refl _)))) (by decide),?_⟩
  have q1 : H fl = none:=by rw [upd_ne p1.symm] at hfl; exact hfl
  have b1 : bl ≠ fl:=fun z=>by rw [upd_ne p2.symm,z,upd_same] at hbl; cases hbl
  have q2 : H bl = none:=by rw [upd_ne p2.symm,upd_ne b1,upd_ne p2.symm] at hbl; exact hbl
  have c1 : pl ≠ bl:=fun z=>by rw [upd_ne p3.symm,z,upd_same] at hpl; cases hpl
  have c2 : pl ≠ fl:=fun z=>by rw [upd_ne p3.symm,upd_ne c1,upd_ne p3.symm,z,upd_same] at hpl; cases hpl
  have q3 : H pl = none:=by rw [upd_ne p3.symm,upd_ne c1,upd_ne p3.symm,upd_ne c2,upd_ne p3.symm] at hpl; exact hpl
  refine kq fl bl pl _ (Eq.trans upd_same (congrArg (fun q=>some (HO.ins cs.bra dx q)) (brF_mk k fl bl pl))) ?_ ?_ ?_ q1 q2 q3 (by simp [b1.symm,c1.symm,c2.symm]) ?_
  ·rw [upd_ne p1.symm,upd_ne c2.symm,upd_ne p1.symm,upd_ne b1.symm,upd_ne p1.symm,upd_same]
  ·rw [upd_ne p2.symm,upd_ne c1.symm,upd_ne p2.symm,upd_same]
  ·rw [upd_ne p3.symm,upd_same]
  ·exact ((((((Kp.refl.upd (.inl (by simp))).upd (.inr q1)).upd (.inl (by simp))).upd (.inr q2)).upd (.inl (by simp))).upd (.inr q3)).upd (.inl (by simp))
theorem sc_Book : FnScope ["self","prime"] ["self","prime"] (defScope st_Book_init):=⟨rfl,rfl,rfl,by decide +kernel,rfl,by decide +kernel,by decide +kernel⟩
theorem ok_Book (T : ClaT K mg "Book" cs.boo "Book.__init__" st_Book_init) (cl : Cls K cs.boo) (na : NoAt K cs.boo ["prime","people","nodes","lets","names"]) : ClaOk P w K mg base 1 "Book" cs.boo ["self","prime"] (spBook cs):=by
 obtain ⟨f,fd,F,M,hm⟩:=T.ex
 refine ⟨f,fd,hm,M,F.binds (fun _ _ _ _ _ _ us hl=>match us,hl with | [_,_],_=>rfl),okN F sc_Book (fun vs H Q E h=>?_) (fun cdv A outer s H vs Q E hr h=>?_)⟩
 ·obtain ⟨p,dx,k,rfl,_⟩:=h
  rfl
 ·obtain ⟨p,dx,k,rfl,hp,kq⟩:=h
  refine ⟨_,pss_cons (ps_fld (pv 0) (pv 1) rfl) (pss_cons (ps_fld (pv 0) (pe_lst pa_nil) rfl) (pss_cons (ps_fld (pv 0) (pe_lst pa_nil) rfl) (pss_cons (ps_fld (pv 0) (pe_lst pa_nil) rfl) (pss_one (ps_fld (pv 0) pe_dnewK rfl))))),?_⟩
  refine ⟨_,rfl,_,rfl,p,cs.boo,dx,[],rfl,hp,cl,na _ (by simp),(by show 0 < 1000; decide),?_⟩
  refine ⟨Nat.zero_le _,fun fl hfl=>?_⟩
  have p1 : p ≠ fl:=fun z=>by rw [← z,upd_same] at hfl; cases hfl
  refine ⟨_,rfl,p,cs.boo,dx,_,rfl,by rw [upd_ne p1]; exact upd_same,cl,na _ (by simp),Nat.lt_of_le_of_lt (lenF (Nat.le_refl _)) (by decide),?_⟩
  refine ⟨Nat.zero_le _,fun bl hbl=>?_⟩
  have p2 : p ≠ bl:=fun z=>by rw [← z,upd_same] at hbl; cases hbl
  refine ⟨_,rfl,p,cs.boo,dx,_,rfl,by rw [upd_ne p2]; exact upd_same,cl,na _ (by simp),Nat.lt_of_le_of_lt (lenF (lenF (Nat.le_refl _))) (by decide),?_⟩
  refine ⟨Nat.zero_le _,fun pl hpl=>?_⟩
  have p3 : p ≠ pl:=fun z=>by rw [← z,upd_same] at hpl; cases hpl
  refine ⟨_,rfl,p,cs.boo,dx,_,rfl,by rw [upd_ne p3]; exact upd_same,cl,na _ (by simp),Nat.lt_of_le_of_lt (lenF (lenF (lenF (Nat.le_refl _)))) (by decide),?_⟩
  intro ma hma
  have p4 : p ≠ ma:=fun z=>by rw [← z,upd_same] at hma; cases hma
  refine ⟨_,rfl,p,cs.boo,dx,_,rfl,by rw [upd_ne p4]; exact upd_same,cl,na _ (by simp),Nat.lt_of_le_of_lt (lenF (lenF (lenF (lenF (Nat.le_refl _))))) (by decide),?_⟩
  have q1 : H fl = none:=by rw [upd_ne p1.symm] at hfl; exact hfl
  have b1 : bl ≠ fl:=fun z=>by rw [upd_ne p2.symm,z,upd_same] at hbl; cases hbl
  have q2 : H bl = none:=by rw [upd_ne p2.symm,upd_ne b1,upd_ne p2.symm] at hbl; exact hbl
  have c1 : pl ≠ bl:=fun z=>by rw [upd_ne p3.symm,z,upd_same] at hpl; cases hpl
  have c2 : pl ≠ fl:=fun z=>by rw [upd_ne p3.symm,upd_ne c1,upd_ne p3.symm,z,upd_same] at hpl; cases hpl
  have q3 : H pl = none:=by rw [upd_ne p3.symm,upd_ne c1,upd_ne p3.symm,upd_ne c2,upd_ne p3.symm] at hpl; exact hpl
  have d1 : ma ≠ pl:=fun z=>by rw [upd_ne p4.symm,z,upd_same] at hma; cases hma
  have d2 : ma ≠ bl:=fun z=>by rw [upd_ne p4.symm,upd_ne d1,upd_ne p4.symm,z,upd_same] at hma; cases hma
  have d3 : ma ≠ fl:=fun z=>by rw [upd_ne p4.symm,upd_ne d1,upd_ne p4.symm,upd_ne d2,upd_ne p4.symm,z,upd_same] at hma; cases hma
  have q4 : H ma = none:=by rw [upd_ne p4.symm,upd_ne d1,upd_ne p4.symm,upd_ne d2,upd_ne p4.symm,upd_ne d3,upd_ne p4.symm] at hma; exact hma
  refine kq fl bl pl ma _ (Eq.trans upd_same (congrArg (fun q=>some (HO.ins cs.boo dx q)) (bkF_mk k fl bl pl ma))) ?_ ?_ ?_ ?_ q1 q2 q3 q4 (by simp [b1.symm,c1.symm,c2.symm]) ?_
  ·rw [upd_ne p1.symm,upd_ne d3.symm,upd_ne p1.symm,upd_ne c2.symm,upd_ne p1.symm,upd_ne b1.symm,upd_ne p1.symm,upd_same]
  ·rw [upd_ne p2.symm,upd_ne d2.symm,upd_ne p2.symm,upd_ne c1.symm,upd_ne p2.symm,upd_same]
  ·rw [upd_ne p3.symm,upd_ne d1.symm,upd_ne p3.symm,upd_same]
  ·rw [upd_ne p4.symm,upd_same]
  ·exact ((((((((Kp.refl.upd (.inl (by simp))).upd (.inr q1)).upd (.inl (by simp))).upd (.inr q2)).upd (.inl (by simp))).upd (.inr q3)).upd (.inl (by simp))).upd (.inr q4)).upd (.inl (by simp))
end
end Pg
end
section
set_option linter.all false
set_option maxRecDepth 100000
set_option maxHeartbeats 4000000
namespace Pg
open PySem L2 Xc Sp
structure BkA where
 pa : Addr
 na : Addr
 la : Addr
 ma : Addr
 nds : List (Addr × Addr)
def BkA.lists (A : BkA) : List Addr:=A.pa::A.na::A.la::A.nds.map (·.2)
def nV (l : List Nat) : List V:=l.map fun (i : Nat)=>V.int (i : Int)
theorem nV_length (l : List Nat) : (nV l).length = l.length:=List.length_map _
theorem nV_snoc (l : List Nat) (i : Nat) : nV (l++[i]) = nV l++[V.int (i : Int)]:=by unfold nV; rw [List.map_append]; rfl
def NodeAt (cs : Cs) (H : Hp) (x : Addr × Addr) (n : NodeM) : Prop:=(∃ dx,H x.1 = some (.ins cs.nod dx (ndF (n.1 : Int) x.2)))∧H x.2 = some (.lst (nV n.2))
structure BookAt (cs : Cs) (H : Hp) (b : Addr) (A : BkA) (p : Nat) (B : Bk) : Prop where
 ob : ∃ dx,H b = some (.ins cs.boo dx (bkF (p : Int) A.pa A.na A.la A.ma))
 people : H A.pa = some (.lst (B.people.map fun x=>V.str (mkS x)))
 nodes : H A.na = some (.lst (A.nds.map fun x=>V.ref x.1))
 lets : H A.la = some (.lst (nV (B.ls.map (·.2))))
 names : H A.ma = some (.dK (B.names.map fun x=>(Sum.inr (mkS x.1),V.int (x.2 : Int))))
 len : A.nds.length = B.ns.length
 at_ : ∀ (j : Nat) (x : Addr × Addr) (n : NodeM),A.nds[j]? = some x→B.ns[j]? = some n→NodeAt cs H x n
 nd : A.lists.Nodup
theorem insNe {H : Hp} {a b : Addr} {C dx : Addr} {fs : List (Str × V)} {xs : List V} (h : H a = some (.ins C dx fs)) (h' : H b = some (.lst xs)) : a ≠ b:=ne_of h h' (by intro z; cases z)
theorem dicNe {H : Hp} {a b : Addr} {kvs : List (Key × V)} {xs : List V} (h : H a = some (.dK kvs)) (h' : H b = some (.lst xs)) : a ≠ b:=ne_of h h' (by intro z; cases z)
theorem BookAt.keepL {cs : Cs} {H H' : Hp} {b : Addr} {A : BkA} {p : Nat} {B : Bk} (R : BookAt cs H b A p B) {F : List Addr} (k : Kp F H H') (hF : ∀ x ∈ F,x ∉ A.lists∧∀ C dx fs,H x = some (.ins C dx fs)→C ≠ cs.boo∧C ≠ cs.nod) (hD : ∀ x ∈ F,∀ kvs,H x ≠ some (.dK kvs)) : BookAt cs H' b A p B:=by
 have lst : ∀ x xs,x ∈ A.lists→H x = some (.lst xs)→H' x = some (.lst xs):=fun x xs hx e=>k x _ e fun z=>(hF x z).1 hx
 obtain ⟨dx,ob⟩:=R.ob
 refine ⟨⟨dx,k b _ ob fun z=>((hF b z).2 _ _ _ ob).1 rfl⟩,lst _ _ (by simp [BkA.lists]) R.people,lst _ _ (by simp [BkA.lists]) R.nodes,lst _ _ (by simp [BkA.lists]) R.lets,k _ _ R.names fun z=>hD _ z _ R.names,R.len,fun j x n h1 h2=>?_,R.nd⟩
 obtain ⟨⟨dy,n1⟩,n2⟩:=R.at_ j x n h1 h2
 exact ⟨⟨dy,k _ _ n1 fun z=>((hF _ z).2 _ _ _ n1).2 rfl⟩,lst _ _ (by
  have : x.2 ∈ A.nds.map (·.2):=List.mem_map.mpr ⟨x,List.mem_of_getElem? h1,rfl⟩
  simp [BkA.lists,this]) n2⟩
def spAddNode (cs : Cs) : Sp:=fun vs H Q _=>∃ (b wl : Addr) (k : Nat) (A : BkA) (p : Nat) (B : Bk) (ws : List Nat),vs = [.ref b,.int k,.ref wl]∧BookAt cs H b A p B∧H wl = some (.lst (nV ws))∧wl ∉ A.lists∧B.ns.length < 100000 ∧
 ∀ (nx : Addr) (H' : Hp),BookAt cs H' b { A with nds:=A.nds++[(nx,wl)] } p { B with ns:=B.ns++[(k,ws)] }→Kp [A.na] H H'→H nx = none→Q (.int ((B.P + B.ns.length : Nat) : Int)) H'
section
variable {P : Program} {w : World} {K : PySem.W.Frag} {mg : Str→Option Value} {base : Heap} {cs : Cs}
theorem line100000 : 100000 < sizeLine:=by decide
theorem sc_add_node : FnScope ["self","asked","within"] ["self","asked","within"] (defScope st_Book_add_node):=⟨rfl,rfl,rfl,by decide +kernel,rfl,by decide +kernel,by decide +kernel⟩
theorem ok_add_node (T : MetT K cs.boo "add_node" "Book.add_node" st_Book_add_node) (clB : Cls K cs.boo) (naB : NoAt K cs.boo ["prime","people","nodes","lets","names"]) (hlen : mg "len" = none) (N1 : ClaOk P w K mg base 1 "Node" cs.nod ["self","asked","within"] (spNode cs)) :
  MetOk P w K mg base 3 cs.boo "add_node" ["self","asked","within"] (spAddNode cs):=by
 obtain ⟨f,fd,F,M⟩:=T.ex
 refine ⟨f,fd,M,F.binds (fun _ _ _ _ _ _ us hl=>match us,hl with | [_,_,_],_=>rfl),okN F sc_add_node (fun vs H Q E h=>?_) (fun cdv A outer s H vs Q E hr h=>?_)⟩
 ·obtain ⟨b,wl,k,A,p,B,ws,rfl,_⟩:=h
  rfl
 ·obtain ⟨b,wl,k,Ad,p,B,ws,rfl,R,hwl,nwl,hsm,kq⟩:=h
  obtain ⟨dx,ob⟩:=R.ob
  refine ⟨_,pss_cons (ps_expr (pe_bm PySem.F.plainAttrs_list PySem.F.slot_list_append PySem.F.type_list_append mt_append (pe_fld (pv 0) rfl) (pa_cons (pe_cla N1 hr rfl pass_no (pa_cons (pv 1) (pa_cons (pv 2) pa_nil))) pa_nil)))
   (pss_one (ps_ret (pe_op op_sub (pe_op op_add (pe_callB call_len_seq (by rfl) hlen PySem.boot_len (pa_cons (pe_fld (pv 0) rfl) pa_nil)) (pe_callB call_len_seq (by rfl) hlen PySem.boot_len (pa_cons (pe_fld (pv 0) rfl) pa_nil))) pe_int))),?_⟩
  refine ⟨_,rfl,b,cs.boo,dx,_,_,rfl,ob,clB,naB _ (by simp),bkF_nodes _ _ _ _ _,.inl ⟨rfl,_,SqL.of R.nodes⟩,_,rfl,_,rfl,?_⟩
  intro x dxn nx ndx nex
  refine ⟨x,dxn,wl,k,rfl,upd_same,fun H1 h1 k1=>⟨rfl,?_⟩⟩
  have s1 : Same H H1:=Same.made nx ndx fun c o e hc=>k1 c o e (by simpa using hc)
  have nl1:=s1 _ _ R.nodes
  have hll : (Ad.nds.map fun x=>V.ref x.1).length < sizeLine:=by rw [List.length_map,R.len]; exact Nat.lt_trans hsm line100000
  refine ⟨Ad.na,_,_,rfl,rfl,nl1,hll,?_⟩
  have ob2 : (upd H1 Ad.na (.lst ((Ad.nds.map fun x=>V.ref x.1)++[V.ref x]))) b = some (.ins cs.boo dx (bkF (p : Int) Ad.pa Ad.na Ad.la Ad.ma)):=by rw [upd_ne (insNe ob R.nodes)]; exact s1 _ _ ob
  have npn : Ad.pa ≠ Ad.na:=fun z=>by have:=R.nd; unfold BkA.lists at this; rw [z] at this; simp at this
  refine ⟨_,rfl,b,cs.boo,dx,_,_,rfl,ob2,clB,naB _ (by simp),bkF_people _ _ _ _ _,_,_,rfl,.inl (SqL.of (by rw [upd_ne npn]; exact s1 _ _ R.people)),?_⟩
  refine ⟨_,rfl,b,cs.boo,dx,_,_,rfl,ob2,clB,naB _ (by simp),bkF_nodes _ _ _ _ _,_,_,rfl,.inl (SqL.of upd_same),_,_,rfl,rfl,_,_,rfl,rfl,?_⟩
  have ek : Kp [Ad.na] H (upd H1 Ad.na (.lst ((Ad.nds.map fun x=>V.ref x.1)++[V.ref x]))):=(Kp.same s1 _).upd (.inl (by simp))
  have ev : (V.int (((B.people.map fun x=>V.str (mkS x)).length : Int) + (((Ad.nds.map fun x=>V.ref x.1)++[V.ref x]).length : Int) - 1)) = V.int ((B.P + B.ns.length : Nat) : Int):=by
   rw [List.length_map,List.length_append,List.length_map,R.len,List.length_singleton]
   show V.int ((B.people.length : Int) + ((B.ns.length + 1 : Nat) : Int) - 1) = V.int ((B.people.length + B.ns.length : Nat) : Int)
   congr 1
   omega
  show Q (V.int (((B.people.map fun x=>V.str (mkS x)).length : Int) + (((Ad.nds.map fun x=>V.ref x.1)++[V.ref x]).length : Int) - 1)) _
  rw [ev]
  refine kq x _ ?_ ek nx
  have nnd:=R.nd
  have hnl : ∀ y ∈ Ad.lists,y ≠ wl:=fun y hy z=>nwl (z ▸ hy)
  have na_in : ∀ y ∈ Ad.nds.map (·.2),y ≠ Ad.na:=fun y hy z=>by
   have:=R.nd
   unfold BkA.lists at this
   rw [z] at hy
   simp only [List.nodup_cons] at this
   exact this.2.1 (List.mem_cons_of_mem _ hy)
  have wlna : wl ≠ Ad.na:=fun z=>nwl (by rw [z]; simp [BkA.lists])
  refine ⟨⟨dx,ob2⟩,by show upd _ _ _ Ad.pa = _; rw [upd_ne npn]; exact s1 _ _ R.people,?_,?_,?_,?_,fun j y n e1 e2=>?_,?_⟩
  ·show upd _ _ _ Ad.na = _
   rw [upd_same,List.map_append]
   rfl
  ·show upd _ _ _ Ad.la = _
   have : Ad.la ≠ Ad.na:=fun z=>by have:=R.nd; unfold BkA.lists at this; rw [z] at this; simp at this
   rw [upd_ne this]; exact s1 _ _ R.lets
  ·show upd _ _ _ Ad.ma = _
   rw [upd_ne (dicNe R.names R.nodes)]; exact s1 _ _ R.names
  ·show (Ad.nds++[(x,wl)]).length = (B.ns++[(k,ws)]).length
   rw [List.length_append,List.length_append,R.len]; rfl
  ·by_cases hj : j < Ad.nds.length
   ·rw [List.getElem?_append_left hj] at e1
    rw [List.getElem?_append_left (by rw [← R.len]; exact hj)] at e2
    obtain ⟨⟨dy,n1⟩,n2⟩:=R.at_ j y n e1 e2
    exact ⟨⟨dy,by rw [upd_ne (insNe n1 R.nodes)]; exact s1 _ _ n1⟩,by rw [upd_ne (na_in _ (List.mem_map.mpr ⟨y,List.mem_of_getElem? e1,rfl⟩))]; exact s1 _ _ n2⟩
   ·rw [List.getElem?_append_right (by omega)] at e1
    rw [List.getElem?_append_right (by rw [← R.len]; omega)] at e2
    have h0 : j - Ad.nds.length = 0:=by
     cases q : j - Ad.nds.length with
     | zero=>rfl
     | succ i=>rw [q] at e1; simp at e1
    have h0' : j - B.ns.length = 0:=by rw [← R.len]; exact h0
    rw [h0] at e1
    rw [h0'] at e2
    simp at e1 e2
    subst e1 e2
    exact ⟨⟨dxn,by rw [upd_ne (insNe h1 nl1)]; exact h1⟩,by rw [upd_ne wlna]; exact s1 _ _ hwl⟩
  ·show (Ad.pa::Ad.na::Ad.la::(Ad.nds++[(x,wl)]).map (·.2)).Nodup
   have e : (Ad.pa::Ad.na::Ad.la::(Ad.nds++[(x,wl)]).map (·.2)) = Ad.lists++[wl]:=by unfold BkA.lists; rw [List.map_append]; rfl
   rw [e]
   exact nd_snoc R.nd nwl
end
end Pg
end
section
set_option linter.all false
set_option maxRecDepth 100000
set_option maxHeartbeats 4000000
namespace Pg
open PySem L2 Xc Sp
def Grow (H : Hp) (A A' : BkA) (ws : List Addr) : Prop:=∃ more : List (Addr × Addr),A' = { A with nds:=A.nds++more }∧more.map (·.2) = ws∧∀ x ∈ more,H x.1 = none
theorem Grow.none (H : Hp) (A : BkA) : Grow H A A []:=⟨[],by simp,rfl,fun x hx=>by simp at hx⟩
theorem Grow.one {H : Hp} {A : BkA} {nx wl : Addr} (h : H nx = Option.none) : Grow H A { A with nds:=A.nds++[(nx,wl)] } [wl]:=⟨[(nx,wl)],rfl,rfl,fun x hx=>by simp at hx; subst hx; exact h⟩
theorem Grow.lists {H : Hp} {A A' : BkA} {ws : List Addr} (g : Grow H A A' ws) : A'.lists = A.lists++ws:=by
 obtain ⟨more,rfl,rfl,_⟩:=g
 show A.pa::A.na::A.la::(A.nds++more).map (·.2) = (A.pa::A.na::A.la::A.nds.map (·.2))++more.map (·.2)
 rw [List.map_append]
 rfl
theorem Grow.na {H : Hp} {A A' : BkA} {ws : List Addr} (g : Grow H A A' ws) : A'.na = A.na∧A'.ma = A.ma∧A'.la = A.la∧A'.pa = A.pa:=by
 obtain ⟨more,rfl,_,_⟩:=g
 exact ⟨rfl,rfl,rfl,rfl⟩
theorem Grow.trans {H H1 : Hp} {A A1 A2 : BkA} {ws vs : List Addr} (a : Grow H A A1 ws) (b : Grow H1 A1 A2 vs) (h : ∀ x,H1 x = Option.none→H x = Option.none) : Grow H A A2 (ws++vs):=by
 obtain ⟨m,rfl,rfl,h1⟩:=a
 obtain ⟨m2,rfl,rfl,h2⟩:=b
 refine ⟨m++m2,by simp,by rw [List.map_append],fun x hx=>?_⟩
 rcases List.mem_append.mp hx with z | z
 ·exact h1 x z
 ·exact h _ (h2 x z)
theorem Kp.free {F : List Addr} {H H' : Hp} (k : Kp F H H') (hF : ∀ x ∈ F,H' x ≠ Option.none) {x : Addr} (h : H' x = Option.none) : H x = Option.none:=by
 cases q : H x with
 | none=>rfl
 | some o =>
  by_cases hx : x ∈ F
  ·exact absurd h (hF x hx)
  ·rw [k x o q hx] at h; cases h
structure BrA where
 ob : Addr
 fl : Addr
 bl : Addr
 pl : Addr
def BrA.lists (a : BrA) : List Addr:=[a.fl,a.bl,a.pl]
structure BrkAt (cs : Cs) (H : Hp) (a : BrA) (F : FraN) : Prop where
 ob : ∃ dx,H a.ob = some (.ins cs.bra dx (brF (F.asked : Int) a.fl a.bl a.pl))
 fs : H a.fl = some (.lst (nV F.fs))
 bs : H a.bl = some (.lst (nV F.bs))
 ps : H a.pl = some (.lst (nV F.ps))
structure CsOk (cs : Cs) : Prop where
 nb : cs.nod ≠ cs.boo
 bn : cs.bra ≠ cs.nod
 bb : cs.bra ≠ cs.boo
 rn : cs.rea ≠ cs.nod
 rb : cs.rea ≠ cs.boo
 rr : cs.rea ≠ cs.bra
def spJoined (cs : Cs) : Sp:=fun vs H Q _=>∃ (b wl : Addr) (k : Nat) (A : BkA) (p : Nat) (B : Bk) (ws : List Nat),vs = [.ref b,.int k,.ref wl]∧BookAt cs H b A p B∧H wl = some (.lst (nV ws))∧wl ∉ A.lists∧B.ns.length < 100000 ∧
 ∀ (A' : BkA) (vs' : List Addr) (H' : Hp),BookAt cs H' b A' p { B with ns:=joinNs B.ns k ws }→Grow H A A' vs'→(∀ x ∈ vs',x = wl)→vs'.length≤1→Kp [A.na] H H'→Q (.int ((joinAt B.P B.ns ws : Nat) : Int)) H'
section
variable {P : Program} {w : World} {K : PySem.W.Frag} {mg : Str→Option Value} {base : Heap} {cs : Cs}
theorem sc_joined : FnScope ["book","asked","within"] ["book","asked","within"] (defScope st_joined):=⟨rfl,rfl,rfl,by decide +kernel,rfl,by decide +kernel,by decide +kernel⟩
theorem ok_joined (T : FunT K mg "joined" st_joined) (clB : Cls K cs.boo) (hlen : mg "len" = none) (AN : MetOk P w K mg base 3 cs.boo "add_node" ["self","asked","within"] (spAddNode cs)) :
  DefOk P w K mg base 4 "joined" ["book","asked","within"] (spJoined cs):=by
 obtain ⟨f,fd,F,hm⟩:=T.ex
 refine ⟨f,fd,hm,F.kp,F.binds (fun _ _ _ _ _ _ us hl=>match us,hl with | [_,_,_],_=>rfl),okN F sc_joined (fun vs H Q E h=>?_) (fun cdv A outer s H vs Q E hr h=>?_)⟩
 ·obtain ⟨b,wl,k,A,p,B,ws,rfl,_⟩:=h
  rfl
 ·obtain ⟨b,wl,k,Ad,p,B,ws,rfl,R,hwl,nwl,hsm,kq⟩:=h
  obtain ⟨dx,ob⟩:=R.ob
  refine ⟨_,pss_cons (ps_if (pt_cmpR op_eq (pe_callB call_len_seq (by rfl) hlen PySem.boot_len (pa_cons (pv 2) pa_nil)) pe_int (nomark _)) (pss_one (ps_ret (pe_ix ix_list (pv 2) pe_int (fun _ _=>rfl)))) pss_nil)
   (pss_one (ps_ret (pe_met (pv 0) clB AN hr pass_no (pa_cons (pv 1) (pa_cons (pv 2) pa_nil))))),?_⟩
  refine ⟨_,rfl,_,_,rfl,.inl (SqL.of hwl),rfl,_,rfl,ite2 (fun hc=>?_) fun hc=>?_⟩
  ·have h1 : ws.length = 1:=by
    have:=of_decide_eq_true hc
    injection this with this
    rw [nV_length] at this
    omega
   match ws,h1,hwl,kq with
   | [i],_,hwl,kq =>
    refine ⟨_,rfl,wl,_,_,V.int (i : Int),rfl,rfl,SqL.of hwl,at_of (j:=0) rfl rfl,?_⟩
    exact kq Ad [] H (by
     have e : joinNs B.ns k [i] = B.ns:=if_pos rfl
     rw [e]; exact R) (Grow.none H Ad) (fun x hx=>by simp at hx) (by simp) Kp.refl
  ·have h1 : ¬ ws.length = 1:=fun z=>hc (decide_eq_true (by rw [nV_length,z]; rfl))
   refine ⟨_,rfl,b,dx,_,rfl,ob,bkF_no _ _ _ _ _ (by decide +kernel) (by decide +kernel) (by decide +kernel) (by decide +kernel) (by decide +kernel),_,rfl,_,rfl,b,wl,k,Ad,p,B,ws,rfl,R,hwl,nwl,hsm,fun nx H' R' k' hn=>?_⟩
   have e1 : joinNs B.ns k ws = B.ns++[(k,ws)]:=if_neg h1
   have e2 : joinAt B.P B.ns ws = B.P + B.ns.length:=if_neg h1
   show Q _ H'
   rw [← e2]
   exact kq _ [wl] H' (by rw [e1]; exact R') (Grow.one hn) (fun x hx=>by simpa using hx) (by simp) k'
end
end Pg
end
section
set_option linter.all false
set_option maxRecDepth 100000
set_option maxHeartbeats 4000000
namespace Pg
open PySem L2 Xc Sp
theorem BookAt.isLst {cs : Cs} {H : Hp} {b : Addr} {A : BkA} {p : Nat} {B : Bk} (R : BookAt cs H b A p B) {x : Addr} (h : x ∈ A.lists) : ∃ xs,H x = some (.lst xs):=by
 unfold BkA.lists at h
 rcases List.mem_cons.mp h with rfl | h
 ·exact ⟨_,R.people⟩
 rcases List.mem_cons.mp h with rfl | h
 ·exact ⟨_,R.nodes⟩
 rcases List.mem_cons.mp h with rfl | h
 ·exact ⟨_,R.lets⟩
 obtain ⟨y,hy,rfl⟩:=List.mem_map.mp h
 obtain ⟨j,hj⟩:=List.getElem?_of_mem hy
 have hl : j < B.ns.length:=by rw [← R.len]; exact (List.getElem?_eq_some_iff.mp hj).1
 exact ⟨_,(R.at_ j y B.ns[j] hj (List.getElem?_eq_getElem hl)).2⟩
theorem BookAt.keep {cs : Cs} {H H' : Hp} {b : Addr} {A : BkA} {p : Nat} {B : Bk} (R : BookAt cs H b A p B) {F : List Addr} (k : Kp F H H')
  (hF : ∀ x ∈ F,(∃ xs,H x = some (.lst xs)∧x ∉ A.lists)∨∃ C dx fs,H x = some (.ins C dx fs)∧C ≠ cs.boo∧C ≠ cs.nod) : BookAt cs H' b A p B:=by
 refine R.keepL k (fun x hx=>?_) (fun x hx kvs e=>?_)
 ·rcases hF x hx with ⟨xs,e,n⟩ | ⟨C,dx,fs,e,n1,n2⟩
  ·exact ⟨n,fun C dx fs z=>by rw [e] at z; cases z⟩
  ·refine ⟨fun z=>?_,fun C' dx' fs' z=>?_⟩
   ·obtain ⟨xs,q⟩:=R.isLst z
    rw [e] at q; cases q
   ·rw [e] at z
    cases z
    exact ⟨n1,n2⟩
 ·rcases hF x hx with ⟨xs,q,n⟩ | ⟨C,dx,fs,q,n1,n2⟩ <;> (rw [q] at e; cases e)
structure Pair (cs : Cs) (H : Hp) (a : BrA) (F : FraN) (b : Addr) (A : BkA) (p : Nat) (B : Bk) : Prop where
 br : BrkAt cs H a F
 bk : BookAt cs H b A p B
 nd : a.lists.Nodup
 ap : ∀ x ∈ a.lists,x ∉ A.lists
 few : F.all.length < 50000
 fewN : B.ns.length < 50000
def spEndBoth (cs : Cs) : Sp:=fun vs H Q _=>∃ (a : BrA) (F : FraN) (b : Addr) (A : BkA) (p : Nat) (B : Bk),vs = [.ref a.ob,.ref b]∧Pair cs H a F b A p B ∧
 ∀ (A' : BkA) (vs' : List Addr) (pl' : Addr) (H' : Hp),BrkAt cs H' { a with pl:=pl' } (ebFra B.P B.ns F)→BookAt cs H' b A' p { B with ns:=ebNs B.ns F }→Grow H A A' vs'→(∀ x ∈ vs',x = a.pl)→vs'.length≤1→H pl' = none→Kp [A.na,a.bl,a.ob] H H'→Q .non H'
section
variable {P : Program} {w : World} {K : PySem.W.Frag} {mg : Str→Option Value} {base : Heap} {cs : Cs}
theorem sc_end_both : FnScope ["self","book"] ["self","book"] (defScope st_Bracket_end_both):=⟨rfl,rfl,rfl,by decide +kernel,rfl,by decide +kernel,by decide +kernel⟩
theorem ok_end_both (co : CsOk cs) (T : MetT K cs.bra "end_both" "Bracket.end_both" st_Bracket_end_both) (cl : Cls K cs.bra) (na : NoAt K cs.bra ["asked","formulas","boths","parts"]) (hlen : mg "len" = none)
  (J : DefOk P w K mg base 4 "joined" ["book","asked","within"] (spJoined cs)) : MetOk P w K mg base 5 cs.bra "end_both" ["self","book"] (spEndBoth cs):=by
 obtain ⟨f,fd,F,M⟩:=T.ex
 refine ⟨f,fd,M,F.binds (fun _ _ _ _ _ _ us hl=>match us,hl with | [_,_],_=>rfl),okN F sc_end_both (fun vs H Q E h=>?_) (fun cdv A outer s H vs Q E hr h=>?_)⟩
 ·obtain ⟨a,F,b,A,p,B,rfl,_⟩:=h
  rfl
 ·obtain ⟨a,Fr,b,Ad,p,B,rfl,R,kq⟩:=h
  obtain ⟨dx,ob⟩:=R.br.ob
  have nbl : a.bl ∉ Ad.lists:=R.ap _ (by simp [BrA.lists])
  have npl : a.pl ∉ Ad.lists:=R.ap _ (by simp [BrA.lists])
  have nfl : a.fl ∉ Ad.lists:=R.ap _ (by simp [BrA.lists])
  have nblna : a.bl ≠ Ad.na:=fun z=>nbl (by rw [z]; simp [BkA.lists])
  have hnd:=R.nd
  unfold BrA.lists at hnd
  simp only [List.nodup_cons,List.mem_cons,List.mem_singleton,List.not_mem_nil,not_or] at hnd
  obtain ⟨⟨nfb,nfp,_⟩,⟨nbp,_⟩,_⟩:=hnd
  refine ⟨_,pss_cons (ps_expr (pe_bm PySem.F.plainAttrs_list PySem.F.slot_list_append PySem.F.type_list_append mt_append (pe_fld (pv 0) rfl)
    (pa_cons (pe_def J hr rfl pass_no (pa_cons (pv 1) (pa_cons (pe_callB call_len_seq (by rfl) hlen PySem.boot_len (pa_cons (pe_fld (pv 0) rfl) pa_nil)) (pa_cons (pe_fld (pv 0) rfl) pa_nil)))) pa_nil)))
   (pss_one (ps_fld (pv 0) (pe_lst pa_nil) rfl)),?_⟩
  refine ⟨_,rfl,a.ob,cs.bra,dx,_,_,rfl,ob,cl,na _ (by simp),brF_boths _ _ _ _,.inl ⟨rfl,_,SqL.of R.br.bs⟩,_,rfl,?_⟩
  refine ⟨_,rfl,a.ob,cs.bra,dx,_,_,rfl,ob,cl,na _ (by simp),brF_parts _ _ _ _,_,_,rfl,.inl (SqL.of R.br.ps),?_⟩
  refine ⟨_,rfl,a.ob,cs.bra,dx,_,_,rfl,ob,cl,na _ (by simp),brF_parts _ _ _ _,b,a.pl,(nV Fr.ps).length,Ad,p,B,Fr.ps,rfl,R.bk,R.br.ps,npl,Nat.lt_trans R.fewN (by decide),fun A' vs' H1 R1 g hv hv1 k1=>?_⟩
  have bl1 : H1 a.bl = some (.lst (nV Fr.bs)):=k1 _ _ R.br.bs (by simpa using nblna)
  have fl1 : H1 a.fl = some (.lst (nV Fr.fs)):=k1 _ _ R.br.fs (by simpa using fun z : a.fl = Ad.na=>nfl (by rw [z]; simp [BkA.lists]))
  have ob1 : H1 a.ob = some (.ins cs.bra dx (brF (Fr.asked : Int) a.fl a.bl a.pl)):=k1 _ _ ob (by simpa using insNe ob R.bk.nodes)
  refine ⟨a.bl,_,_,rfl,rfl,bl1,?_,?_⟩
  ·rw [nV_length]
   have:=R.few
   unfold FraN.all at this
   rw [List.length_append,List.length_append] at this
   exact Nat.lt_trans (by omega) line100000
  refine ⟨Nat.zero_le _,fun pl' hpl'=>?_⟩
  have o1 : a.ob ≠ a.bl:=insNe ob1 bl1
  have o2 : a.ob ≠ pl':=fun z=>by rw [← z,upd_ne o1,ob1] at hpl'; cases hpl'
  have b2 : pl' ≠ a.bl:=fun z=>by rw [z,upd_same] at hpl'; cases hpl'
  have pn1 : H1 pl' = none:=by rw [upd_ne b2] at hpl'; exact hpl'
  have f2 : a.fl ≠ pl':=ne_of_none fl1 pn1
  refine ⟨_,rfl,a.ob,cs.bra,dx,_,rfl,by rw [upd_ne o2,upd_ne o1]; exact ob1,cl,na _ (by simp),(by show 4 < 1000; decide),?_⟩
  have kk : Kp [a.bl,a.ob] H1 (upd (upd (upd H1 a.bl (.lst (nV Fr.bs++[V.int ((joinAt B.P B.ns Fr.ps : Nat) : Int)]))) pl' (.lst [])) a.ob (.ins cs.bra dx (putF "parts" (.ref pl') (brF (Fr.asked : Int) a.fl a.bl a.pl)))) :=
   ((Kp.refl.upd (.inl (by simp))).upd (.inr pn1)).upd (.inl (by simp))
  have en : joinNs B.ns (nV Fr.ps).length Fr.ps = ebNs B.ns Fr:=by rw [nV_length]; rfl
  rw [en] at R1
  refine kq A' vs' pl' _ ⟨⟨dx,Eq.trans upd_same (congrArg (fun q=>some (HO.ins cs.bra dx q)) (brF_putParts _ _ _ _ _))⟩,?_,?_,?_⟩ (R1.keep kk fun x hx=>?_) g hv hv1 ?_ ?_
  ·show upd _ _ _ a.fl = _
   rw [upd_ne (insNe ob1 fl1).symm,upd_ne f2,upd_ne nfb]; exact fl1
  ·show upd _ _ _ a.bl = _
   rw [upd_ne o1.symm,upd_ne b2.symm,upd_same]
   show some (HO.lst (nV Fr.bs++[_])) = some (HO.lst (nV (Fr.bs++[joinAt B.P B.ns Fr.ps])))
   rw [nV_snoc]
  ·show upd _ _ _ pl' = _
   rw [upd_ne o2.symm,upd_same]
   rfl
  ·rcases List.mem_cons.mp hx with rfl | hx
   ·refine .inl ⟨_,bl1,fun z=>?_⟩
    rw [g.lists] at z
    rcases List.mem_append.mp z with z | z
    ·exact nbl z
    ·exact nbp (hv _ z)
   ·rcases List.mem_singleton.mp hx with rfl
    exact .inr ⟨_,_,_,ob1,co.bb,co.bn⟩
  ·exact k1.free (fun x hx=>by
    rcases List.mem_singleton.mp hx with rfl
    rw [show H1 Ad.na = some _ from by have:=R1.nodes; rw [g.na.1] at this; exact this]
    simp) pn1
  ·exact (k1.mono fun x hx=>by simp at hx; simp [hx]).trans (kk.mono fun x hx=>by simp at hx; rcases hx with rfl | rfl <;> simp)
end
end Pg
end
section
set_option linter.all false
set_option maxRecDepth 100000
set_option maxHeartbeats 4000000
namespace Pg
open PySem L2 Xc Sp
theorem nd_two {x y : Addr} (hxy : x ≠ y) : ∀ {vs ws : List Addr},(∀ a ∈ vs,a = x)→vs.length≤1→(∀ a ∈ ws,a = y)→ws.length≤1→(vs++ws).Nodup
 | [],[],_,_,_,_=>by simp
 | [],[b],_,_,_,_=>by simp
 | [a],[],_,_,_,_=>by simp
 | [a],[b],h1,_,h2,_=>by
  have e1:=h1 a (by simp)
  have e2:=h2 b (by simp)
  subst e1 e2
  simp [hxy]
 | _::_::_,_,_,h,_,_=>by simp at h
 | [],_::_::_,_,_,_,h=>by simp at h
 | [_],_::_::_,_,_,_,h=>by simp at h
theorem ebNs_len (ns : List NodeM) (F : FraN) : (ebNs ns F).length≤ns.length + 1:=by
 unfold ebNs joinNs
 split
 ·omega
 ·simp
theorem efNs_len (P : Nat) (ns : List NodeM) (F : FraN) : (efNs P ns F).length≤ns.length + 2:=by
 have:=ebNs_len ns F
 unfold efNs joinNs
 split
 ·omega
 ·simp; omega
def spEndFormula (cs : Cs) : Sp:=fun vs H Q _=>∃ (a : BrA) (F : FraN) (b : Addr) (A : BkA) (p : Nat) (B : Bk),vs = [.ref a.ob,.ref b]∧Pair cs H a F b A p B ∧
 ∀ (A' : BkA) (vs' : List Addr) (bl' pl' : Addr) (H' : Hp),BrkAt cs H' { a with bl:=bl',pl:=pl' } (efFra B.P B.ns F)→BookAt cs H' b A' p { B with ns:=efNs B.P B.ns F }→Grow H A A' vs'→(∀ x ∈ vs',x = a.pl∨x = a.bl)→vs'.Nodup →
  H bl' = none→H pl' = none→bl' ≠ pl'→Kp [A.na,a.bl,a.fl,a.ob] H H'→Q .non H'
section
variable {P : Program} {w : World} {K : PySem.W.Frag} {mg : Str→Option Value} {base : Heap} {cs : Cs}
theorem sc_end_formula : FnScope ["self","book"] ["self","book"] (defScope st_Bracket_end_formula):=⟨rfl,rfl,rfl,by decide +kernel,rfl,by decide +kernel,by decide +kernel⟩
theorem ok_end_formula (co : CsOk cs) (T : MetT K cs.bra "end_formula" "Bracket.end_formula" st_Bracket_end_formula) (cl : Cls K cs.bra) (na : NoAt K cs.bra ["asked","formulas","boths","parts"])
  (J : DefOk P w K mg base 4 "joined" ["book","asked","within"] (spJoined cs)) (EB : MetOk P w K mg base 5 cs.bra "end_both" ["self","book"] (spEndBoth cs)) : MetOk P w K mg base 6 cs.bra "end_formula" ["self","book"] (spEndFormula cs):=by
 obtain ⟨f,fd,F,M⟩:=T.ex
 refine ⟨f,fd,M,F.binds (fun _ _ _ _ _ _ us hl=>match us,hl with | [_,_],_=>rfl),okN F sc_end_formula (fun vs H Q E h=>?_) (fun cdv A outer s H vs Q E hr h=>?_)⟩
 ·obtain ⟨a,F,b,A,p,B,rfl,_⟩:=h
  rfl
 ·obtain ⟨a,Fr,b,Ad,p,B,rfl,R,kq⟩:=h
  obtain ⟨dx,ob⟩:=R.br.ob
  have nfl : a.fl ∉ Ad.lists:=R.ap _ (by simp [BrA.lists])
  have nbl : a.bl ∉ Ad.lists:=R.ap _ (by simp [BrA.lists])
  have npl : a.pl ∉ Ad.lists:=R.ap _ (by simp [BrA.lists])
  have naIn : Ad.na ∈ Ad.lists:=by simp [BkA.lists]
  have hnd:=R.nd
  unfold BrA.lists at hnd
  simp only [List.nodup_cons,List.mem_cons,List.mem_singleton,List.not_mem_nil,not_or] at hnd
  obtain ⟨⟨nfb,nfp,_⟩,⟨nbp,_⟩,_⟩:=hnd
  refine ⟨_,pss_cons (ps_expr (pe_met (pv 0) cl EB hr pass_no (pa_cons (pv 1) pa_nil)))
   (pss_cons (ps_expr (pe_bm PySem.F.plainAttrs_list PySem.F.slot_list_append PySem.F.type_list_append mt_append (pe_fld (pv 0) rfl)
    (pa_cons (pe_def (J.mono (by decide : 4≤5)) hr rfl pass_no (pa_cons (pv 1) (pa_cons pe_int (pa_cons (pe_fld (pv 0) rfl) pa_nil)))) pa_nil)))
   (pss_one (ps_fld (pv 0) (pe_lst pa_nil) rfl))),?_⟩
  refine ⟨_,rfl,a.ob,dx,_,rfl,ob,brF_no _ _ _ _ (by decide +kernel) (by decide +kernel) (by decide +kernel) (by decide +kernel),_,rfl,a,Fr,b,Ad,p,B,rfl,R,fun A1 v1 pl1 H1 br1 R1 g1 hv1 hl1 hp1 k1=>?_⟩
  obtain ⟨dx1,ob1⟩:=br1.ob
  have ob1' : H1 a.ob = some (.ins cs.bra dx1 (brF (Fr.asked : Int) a.fl a.bl pl1)):=ob1
  have fl1 : H1 a.fl = some (.lst (nV Fr.fs)):=br1.fs
  have bl1 : H1 a.bl = some (.lst (nV (ebFra B.P B.ns Fr).bs)):=br1.bs
  have pl1' : H1 pl1 = some (.lst []):=br1.ps
  have nbl1 : a.bl ∉ A1.lists:=fun z=>by
   rw [g1.lists] at z
   rcases List.mem_append.mp z with z | z
   ·exact nbl z
   ·exact nbp (hv1 _ z)
  have nfl1 : a.fl ∉ A1.lists:=fun z=>by
   rw [g1.lists] at z
   rcases List.mem_append.mp z with z | z
   ·exact nfl z
   ·exact nfp (hv1 _ z)
  have fr1 : ∀ x,H1 x = none→H x = none:=fun x hx=>k1.free (fun y hy=>by
   simp only [List.mem_cons,List.mem_singleton,List.not_mem_nil,or_false] at hy
   rcases hy with rfl | rfl | rfl
   ·rw [← g1.na.1,R1.nodes]; simp
   ·rw [bl1]; simp
   ·rw [ob1']; simp) hx
  refine ⟨_,rfl,a.ob,cs.bra,dx1,_,_,rfl,ob1',cl,na _ (by simp),brF_formulas _ _ _ _,.inl ⟨rfl,_,SqL.of fl1⟩,_,rfl,?_⟩
  refine ⟨_,rfl,a.ob,cs.bra,dx1,_,_,rfl,ob1',cl,na _ (by simp),brF_boths _ _ _ _,b,a.bl,1,A1,p,_,_,rfl,R1,bl1,nbl1,?_,fun A2 v2 H2 R2 g2 hv2 hl2 k2=>?_⟩
  ·show (ebNs B.ns Fr).length < 100000
   have h1:=ebNs_len B.ns Fr
   have h2:=R.fewN
   omega
  have na1 : A1.na = Ad.na:=g1.na.1
  have fl2 : H2 a.fl = some (.lst (nV Fr.fs)):=k2 _ _ fl1 (by simpa using fun z : a.fl = A1.na=>nfl1 (by rw [z]; simp [BkA.lists]))
  have bl2 : H2 a.bl = some (.lst (nV (ebFra B.P B.ns Fr).bs)):=k2 _ _ bl1 (by simpa using fun z : a.bl = A1.na=>nbl1 (by rw [z]; simp [BkA.lists]))
  have ob2 : H2 a.ob = some (.ins cs.bra dx1 (brF (Fr.asked : Int) a.fl a.bl pl1)):=k2 _ _ ob1' (by simpa using insNe ob1' R1.nodes)
  have nlA : pl1 ≠ Ad.na:=fun z=>by rw [z,R.bk.nodes] at hp1; cases hp1
  have pl2 : H2 pl1 = some (.lst []):=k2 _ _ pl1' (by rw [na1]; simpa using nlA)
  have npf : pl1 ≠ a.fl:=fun z=>by rw [z,R.br.fs] at hp1; cases hp1
  refine ⟨a.fl,_,_,rfl,rfl,fl2,?_,?_⟩
  ·rw [nV_length]
   have:=R.few
   unfold FraN.all at this
   rw [List.length_append,List.length_append] at this
   exact Nat.lt_trans (by omega) line100000
  refine ⟨Nat.zero_le _,fun bl' hbl'=>?_⟩
  have o1 : a.ob ≠ a.fl:=insNe ob2 fl2
  have o2 : a.ob ≠ bl':=fun z=>by rw [← z,upd_ne o1,ob2] at hbl'; cases hbl'
  have b2 : bl' ≠ a.fl:=fun z=>by rw [z,upd_same] at hbl'; cases hbl'
  have bn2 : H2 bl' = none:=by rw [upd_ne b2] at hbl'; exact hbl'
  have pb : pl1 ≠ bl':=ne_of_none pl2 bn2
  refine ⟨_,rfl,a.ob,cs.bra,dx1,_,rfl,by rw [upd_ne o2,upd_ne o1]; exact ob2,cl,na _ (by simp),(by show 4 < 1000; decide),?_⟩
  have kk : Kp [a.fl,a.ob] H2 (upd (upd (upd H2 a.fl (.lst (nV Fr.fs++[V.int ((joinAt B.P (ebNs B.ns Fr) (ebFra B.P B.ns Fr).bs : Nat) : Int)]))) bl' (.lst [])) a.ob (.ins cs.bra dx1 (putF "boths" (.ref bl') (brF (Fr.asked : Int) a.fl a.bl pl1)))) :=
   ((Kp.refl.upd (.inl (by simp))).upd (.inr bn2)).upd (.inl (by simp))
  have fr2 : ∀ x,H2 x = none→H1 x = none:=fun x hx=>k2.free (fun y hy=>by
   simp only [List.mem_cons,List.mem_singleton,List.not_mem_nil,or_false] at hy
   subst hy
   rw [← g2.na.1,R2.nodes]; simp) hx
  have gg:=g1.trans g2 fr1
  have nflA2 : a.fl ∉ A2.lists:=fun z=>by
   rw [g2.lists] at z
   rcases List.mem_append.mp z with z | z
   ·exact nfl1 z
   ·exact nfb (hv2 _ z)
  refine kq A2 (v1++v2) bl' pl1 _ ⟨⟨dx1,Eq.trans upd_same (congrArg (fun q=>some (HO.ins cs.bra dx1 q)) (brF_putBoths _ _ _ _ _))⟩,?_,?_,?_⟩ (R2.keep kk fun x hx=>?_) gg (fun x hx=>?_) (nd_two (fun z=>nbp z.symm) hv1 hl1 hv2 hl2) (fr1 _ (fr2 _ bn2)) hp1 pb.symm ?_
  ·show upd _ _ _ a.fl = _
   rw [upd_ne o1.symm,upd_ne b2.symm,upd_same]
   show some (HO.lst (nV Fr.fs++[_])) = some (HO.lst (nV (Fr.fs++[efAt B.P B.ns Fr])))
   rw [nV_snoc]
   rfl
  ·show upd _ _ _ bl' = _
   rw [upd_ne o2.symm,upd_same]
   rfl
  ·show upd _ _ _ pl1 = _
   rw [upd_ne (insNe ob2 pl2).symm,upd_ne pb,upd_ne npf,pl2]
   rfl
  ·simp only [List.mem_cons,List.mem_singleton,List.not_mem_nil,or_false] at hx
   rcases hx with rfl | rfl
   ·exact .inl ⟨_,fl2,nflA2⟩
   ·exact .inr ⟨_,_,_,ob2,co.bb,co.bn⟩
  ·rcases List.mem_append.mp hx with z | z
   ·exact .inl (hv1 _ z)
   ·exact .inr (hv2 _ z)
  ·refine (k1.mono fun x hx=>?_).trans ((k2.mono fun x hx=>?_).trans (kk.mono fun x hx=>?_))
   ·simp at hx ⊢; rcases hx with rfl | rfl | rfl <;> simp
   ·simp at hx; rw [hx,na1]; simp
   ·simp at hx; rcases hx with rfl | rfl <;> simp
end
end Pg
end
section
set_option linter.all false
set_option maxRecDepth 100000
set_option maxHeartbeats 4000000
namespace Pg
open PySem L2 Xc Sp
def clNs (ns : List NodeM) (F : FraN) : List NodeM:=if F.asked = 0 then ns else ns++[(F.asked,F.fs)]
def clAt (P : Nat) (ns : List NodeM) (F : FraN) : Nat:=if F.asked = 0 then F.fs.headD 0 else P + ns.length
def spClosed (cs : Cs) : Sp:=fun vs H Q _=>∃ (a : BrA) (F : FraN) (b : Addr) (A : BkA) (p : Nat) (B : Bk),vs = [.ref a.ob,.ref b]∧BrkAt cs H a F∧BookAt cs H b A p B∧a.fl ∉ A.lists∧F.fs ≠ []∧B.ns.length < 100000 ∧
 ∀ (A' : BkA) (vs' : List Addr) (H' : Hp),BookAt cs H' b A' p { B with ns:=clNs B.ns F }→Grow H A A' vs'→(∀ x ∈ vs',x = a.fl)→vs'.length≤1→Kp [A.na] H H'→Q (.int ((clAt B.P B.ns F : Nat) : Int)) H'
section
variable {P : Program} {w : World} {K : PySem.W.Frag} {mg : Str→Option Value} {base : Heap} {cs : Cs}
theorem sc_closed : FnScope ["bracket","book"] ["bracket","book"] (defScope st_closed):=⟨rfl,rfl,rfl,by decide +kernel,rfl,by decide +kernel,by decide +kernel⟩
theorem ok_closed (T : FunT K mg "closed" st_closed) (cl : Cls K cs.bra) (na : NoAt K cs.bra ["asked","formulas","boths","parts"]) (clB : Cls K cs.boo)
  (AN : MetOk P w K mg base 3 cs.boo "add_node" ["self","asked","within"] (spAddNode cs)) : DefOk P w K mg base 4 "closed" ["bracket","book"] (spClosed cs):=by
 obtain ⟨f,fd,F,hm⟩:=T.ex
 refine ⟨f,fd,hm,F.kp,F.binds (fun _ _ _ _ _ _ us hl=>match us,hl with | [_,_],_=>rfl),okN F sc_closed (fun vs H Q E h=>?_) (fun cdv A outer s H vs Q E hr h=>?_)⟩
 ·obtain ⟨a,F,b,A,p,B,rfl,_⟩:=h
  rfl
 ·obtain ⟨a,Fr,b,Ad,p,B,rfl,br,R,nfl,hne,hsm,kq⟩:=h
  obtain ⟨dx,ob⟩:=br.ob
  obtain ⟨dxB,obB⟩:=R.ob
  refine ⟨_,pss_cons (ps_if (pt_cmpR op_eq (pe_fld (pv 0) rfl) pe_int (nomark _)) (pss_one (ps_ret (pe_ix ix_list (pe_fld (pv 0) rfl) pe_int (fun _ _=>rfl)))) pss_nil)
   (pss_one (ps_ret (pe_met (pv 1) clB AN hr pass_no (pa_cons (pe_fld (pv 0) rfl) (pa_cons (pe_fld (pv 0) rfl) pa_nil))))),?_⟩
  refine ⟨_,rfl,a.ob,cs.bra,dx,_,_,rfl,ob,cl,na _ (by simp),brF_asked _ _ _ _,rfl,_,rfl,ite2 (fun hc=>?_) fun hc=>?_⟩
  ·have h0 : Fr.asked = 0:=by
    have:=of_decide_eq_true hc
    injection this with this
    omega
   have e1 : clNs B.ns Fr = B.ns:=if_pos h0
   have e2 : clAt B.P B.ns Fr = Fr.fs.headD 0:=if_pos h0
   obtain ⟨i,r,hi⟩ : ∃ i r,Fr.fs = i::r:=by
    cases q : Fr.fs with
    | nil=>exact absurd q hne
    | cons i r=>exact ⟨i,r,rfl⟩
   refine ⟨_,rfl,a.ob,cs.bra,dx,_,_,rfl,ob,cl,na _ (by simp),brF_formulas _ _ _ _,a.fl,_,_,V.int (i : Int),rfl,rfl,SqL.of br.fs,at_of (j:=0) rfl (by rw [hi]; rfl),?_⟩
   show Q (V.int (i : Int)) H
   have e3 : (i : Int) = ((clAt B.P B.ns Fr : Nat) : Int):=by rw [e2,hi]; rfl
   rw [e3]
   exact kq Ad [] H (by rw [e1]; exact R) (Grow.none H Ad) (fun x hx=>by simp at hx) (by simp) Kp.refl
  ·have h0 : ¬ Fr.asked = 0:=fun z=>hc (decide_eq_true (by rw [z]; rfl))
   have e1 : clNs B.ns Fr = B.ns++[(Fr.asked,Fr.fs)]:=if_neg h0
   have e2 : clAt B.P B.ns Fr = B.P + B.ns.length:=if_neg h0
   refine ⟨_,rfl,b,dxB,_,rfl,obB,bkF_no _ _ _ _ _ (by decide +kernel) (by decide +kernel) (by decide +kernel) (by decide +kernel) (by decide +kernel),_,rfl,a.ob,cs.bra,dx,_,_,rfl,ob,cl,na _ (by simp),brF_asked _ _ _ _,
    _,rfl,a.ob,cs.bra,dx,_,_,rfl,ob,cl,na _ (by simp),brF_formulas _ _ _ _,b,a.fl,Fr.asked,Ad,p,B,Fr.fs,rfl,R,br.fs,nfl,hsm,fun nx H' R' k' hn=>?_⟩
   rw [← e2]
   exact kq _ [a.fl] H' (by rw [e1]; exact R') (Grow.one hn) (fun x hx=>by simpa using hx) (by simp) k'
end
end Pg
end
section
set_option linter.all false
set_option maxRecDepth 100000
set_option maxHeartbeats 4000000
namespace Pg
open PySem PySem.Spec PyProof.Rows L2 Xc Sp
structure CMeth (K : PySem.W.Frag) (C : Addr) (m : Str) (f : Addr) : Prop where
 rd : PySem.W.readsIn K C (.type "type") = true
 fc : PySem.W.findCls K (.ref C) (.type "type") m = some (.val (.ref f))
 ga : PySem.W.specialIn K (.ref C) "__getattribute__" = some (some (.builtin "type.__getattribute__"))
 kp : PySem.W.keepIn K (.ref f) = true
theorem pe_clsCall {X : Cx} {k : Nat} {C f : Addr} {fd : FuncData} {ps : List Str} {sp : Sp} {E : XK} {x m : Str} {p pos apos : Pos} {e : Expr} {es : List Expr} {t : TA} {pl : Sem Bool} (hg : Gl X x) (hm : X.mg x = some (.ref C)) (c : CMeth X.K C m f)
  (F : FnOk X.prog X.w X.K X.mg X.base (CXX X.prog X.w) k f fd ps sp) (hr : Room k X.A) (hb : Binds X.K fd ps []) (hx : Passes (CXX X.prog X.w) X E) (ha : PA X (e::es) t) (hdb : (x == ("__debug__" : Str)) = false:=by decide)
  (hst : starEach (e::es) X.env = (false,eval e X.env)::starEach es X.env:=by rfl) (hpl : (backTo pos (starEach es X.env)).any (·.1) = false:=by rfl)
  (ht : eval (.Call (.Attribute (.Name x p) m apos) (e::es) [] pos) X.env = (do
   let ov ← eval (.Name x p) X.env
   standAt apos.atName
   let (f,first) ← holding [ov] (getMethod ov m pl)
   callWith pos f first (backTo pos (starEach (e::es) X.env)) (backToKw pos (keywordEach [] X.env))):=by rfl) :
  PE X (.Call (.Attribute (.Name x p) m apos) (e::es) [] pos) (tCall sp [] E t):=by
 intro pins s σ H Q I h
 refine PySem.W.methodCall_KW (pl:=pl) (ld_glob I hg hm ?_ hdb) ht
 refine PySem.W.method_cls I.kIn c.ga (PySem.W.cls_value I.kIn c.rd c.fc rfl ?_)
 have I1:=I.tok (s.toks + 1)
 refine PySem.W.callWith_K (first:=[]) (h₀:=X.base) I.ok.mod.kin c.kp (thn (ha pos pins _ σ H _ I1 h) fun us s2 ⟨vs,H2,I2,r,q2⟩=>⟨I2.kIn,?_⟩) hst hpl
 exact run_fn (us:=us) (vs:=vs) F hr hb .nil hx I2 r q2
def numF (n : Int) : List (Str × V):=[("number",.int n)]
def spRefusal (K : PySem.W.Frag) : Sp:=fun vs H Q _=>∃ (x C : Addr) (n : Int),vs = [.ref x,.int n]∧H x = some (.ext (bareX C x))∧ClsX K C∧PySem.W.findIn K (.ref C) "number" = some none ∧
 ∀ (dx : Addr) (H' : Hp),H' x = some (.ext (fullX C dx x))→H' dx = some (.xd (numF n))→H dx = none→Kp [x] H H'→Q .non H'
def spOwn0 (K : PySem.W.Frag) (C : Addr) (n : Int) : Sp:=fun vs H Q _=>∃ (x : Addr),vs = [.ref x]∧H x = some (.ext (bareX C x)) ∧
 ∀ (dx : Addr) (H' : Hp),H' x = some (.ext (fullX C dx x))→H' dx = some (.xd (numF n))→H dx = none→Kp [x] H H'→Q .non H'
def spOwn1 (K : PySem.W.Frag) (C : Addr) : Sp:=fun vs H Q _=>∃ (x : Addr) (i : Int),vs = [.ref x,.int i]∧H x = some (.ext (bareX C x)) ∧
 ∀ (dx : Addr) (H' : Hp),H' x = some (.ext (fullX C dx x))→H' dx = some (.xd (numF (-100 - i)))→H dx = none→Kp [x] H H'→Q .non H'
section
variable {P : Program} {w : World} {K : PySem.W.Frag} {mg : Str→Option Value} {base : Heap} {cs : Cs}
theorem sc_Refusal : FnScope ["self","number"] ["self","number"] (defScope st_Refusal_init):=⟨rfl,rfl,rfl,by decide +kernel,rfl,by decide +kernel,by decide +kernel⟩
theorem ok_Refusal {f : Addr} {fd : FuncData} (F : Fun K "__init__" "Refusal.__init__" st_Refusal_init f fd) : FnOk P w K mg base (CXX P w) 1 f fd ["self","number"] (spRefusal K):=by
 refine okN F sc_Refusal (fun vs H Q E h=>?_) (fun cdv A outer s H vs Q E hr h=>?_)
 ·obtain ⟨x,C,n,rfl,_⟩:=h
  rfl
 ·obtain ⟨x,C,n,rfl,hx,c,nn,kq⟩:=h
  refine ⟨_,pss_one (ps_fldX (pv 0) (pv 1) rfl),?_⟩
  refine ⟨_,rfl,_,rfl,x,C,rfl,hx,c,nn,fun dx hd=>?_⟩
  have hdx : dx ≠ x:=fun z=>by rw [z,hx] at hd; cases hd
  exact kq dx _ upd_same (by rw [upd_ne hdx,upd_same]; rfl) hd ((Kp.refl.upd (.inr hd)).upd (.inl (by simp)))
theorem binds_Refusal {f : Addr} {fd : FuncData} (F : Fun K "__init__" "Refusal.__init__" st_Refusal_init f fd) : Binds K fd ["self","number"] []:=F.binds (fun _ _ _ _ _ _ us hl=>match us,hl with | [_,_],_=>rfl)
structure ExcsT (K : PySem.W.Frag) (mg : Str→Option Value) (cs : Cs) : Prop where
 ref : ∃ f fd,Fun K "__init__" "Refusal.__init__" st_Refusal_init f fd∧CMeth K cs.ref "__init__" f
 mref : mg "Refusal" = some (.ref cs.ref)
 oor : ExcT K mg "OutOfRange" cs.oor "OutOfRange.__init__" st_OutOfRange_init
 ovl : ExcT K mg "OverLimit" cs.ovl "OverLimit.__init__" st_OverLimit_init
 cst : ExcT K mg "CannotStand" cs.cst "CannotStand.__init__" st_CannotStand_init
 noor : PySem.W.findIn K (.ref cs.oor) "number" = some none
 novl : PySem.W.findIn K (.ref cs.ovl) "number" = some none
 ncst : PySem.W.findIn K (.ref cs.cst) "number" = some none
structure ExcOk (P : Program) (w : World) (K : PySem.W.Frag) (mg : Str→Option Value) (base : Heap) (k : Nat) (x : Str) (C : Addr) (ps : List Str) (sp : Sp) : Prop where
 ex : ∃ f fd,mg x = some (.ref C)∧ExcC K C f∧Binds K fd ps []∧FnOk P w K mg base (CXX P w) k f fd ps sp
theorem sc_OutOfRange : FnScope ["self"] ["self"] (defScope st_OutOfRange_init):=⟨rfl,rfl,rfl,by decide +kernel,rfl,by decide +kernel,by decide +kernel⟩
theorem sc_OverLimit : FnScope ["self"] ["self"] (defScope st_OverLimit_init):=⟨rfl,rfl,rfl,by decide +kernel,rfl,by decide +kernel,by decide +kernel⟩
theorem sc_CannotStand : FnScope ["self","place"] ["self","place"] (defScope st_CannotStand_init):=⟨rfl,rfl,rfl,by decide +kernel,rfl,by decide +kernel,by decide +kernel⟩
theorem ok_OutOfRange (T : ExcsT K mg cs) : ExcOk P w K mg base 2 "OutOfRange" cs.oor ["self"] (spOwn0 K cs.oor (-2)):=by
 obtain ⟨fR,fdR,FR,cm⟩:=T.ref
 obtain ⟨f,fd,F,M,hm⟩:=T.oor.ex
 refine ⟨f,fd,hm,M,F.binds (fun _ _ _ _ _ _ us hl=>match us,hl with | [_],_=>rfl),okN F sc_OutOfRange (fun vs H Q E h=>?_) (fun cdv A outer s H vs Q E hr h=>?_)⟩
 ·obtain ⟨x,rfl,_⟩:=h
  rfl
 ·obtain ⟨x,rfl,hx,kq⟩:=h
  refine ⟨_,pss_one (ps_expr (pe_clsCall rfl T.mref cm (ok_Refusal FR) hr (binds_Refusal FR) pass_no (pa_cons (pv 0) (pa_cons (pe_un un_neg pe_int) pa_nil)))),?_⟩
  refine ⟨_,rfl,_,rfl,x,cs.oor,-2,rfl,hx,T.oor.cls,T.noor,fun dx H' h1 h2 h3 h4=>kq dx H' h1 h2 h3 h4⟩
theorem ok_OverLimit (T : ExcsT K mg cs) : ExcOk P w K mg base 2 "OverLimit" cs.ovl ["self"] (spOwn0 K cs.ovl (-5)):=by
 obtain ⟨fR,fdR,FR,cm⟩:=T.ref
 obtain ⟨f,fd,F,M,hm⟩:=T.ovl.ex
 refine ⟨f,fd,hm,M,F.binds (fun _ _ _ _ _ _ us hl=>match us,hl with | [_],_=>rfl),okN F sc_OverLimit (fun vs H Q E h=>?_) (fun cdv A outer s H vs Q E hr h=>?_)⟩
 ·obtain ⟨x,rfl,_⟩:=h
  rfl
 ·obtain ⟨x,rfl,hx,kq⟩:=h
  refine ⟨_,pss_one (ps_expr (pe_clsCall rfl T.mref cm (ok_Refusal FR) hr (binds_Refusal FR) pass_no (pa_cons (pv 0) (pa_cons (pe_un un_neg pe_int) pa_nil)))),?_⟩
  refine ⟨_,rfl,_,rfl,x,cs.ovl,-5,rfl,hx,T.ovl.cls,T.novl,fun dx H' h1 h2 h3 h4=>kq dx H' h1 h2 h3 h4⟩
theorem ok_CannotStand (T : ExcsT K mg cs) : ExcOk P w K mg base 2 "CannotStand" cs.cst ["self","place"] (spOwn1 K cs.cst):=by
 obtain ⟨fR,fdR,FR,cm⟩:=T.ref
 obtain ⟨f,fd,F,M,hm⟩:=T.cst.ex
 refine ⟨f,fd,hm,M,F.binds (fun _ _ _ _ _ _ us hl=>match us,hl with | [_,_],_=>rfl),okN F sc_CannotStand (fun vs H Q E h=>?_) (fun cdv A outer s H vs Q E hr h=>?_)⟩
 ·obtain ⟨x,i,rfl,_⟩:=h
  rfl
 ·obtain ⟨x,i,rfl,hx,kq⟩:=h
  refine ⟨_,pss_one (ps_expr (pe_clsCall rfl T.mref cm (ok_Refusal FR) hr (binds_Refusal FR) pass_no (pa_cons (pv 0) (pa_cons (pe_op op_sub (pe_un un_neg pe_int) (pv 1)) pa_nil)))),?_⟩
  refine ⟨_,rfl,_,rfl,_,rfl,_,_,rfl,rfl,x,cs.cst,-100 - i,rfl,hx,T.cst.cls,T.ncst,fun dx H' h1 h2 h3 h4=>kq dx H' h1 h2 h3 h4⟩
end
end Pg
end
section
set_option linter.all false
set_option maxRecDepth 100000
set_option maxHeartbeats 4000000
namespace Pg
open PySem L2 Xc Sp
def TokAt (cs : Cs) (H : Hp) (a : Addr) (t : PT) : Prop:=∃ dx,H a = some (.ins cs.tok dx (tokG (kindS t.1) (mkS t.1) (t.2 : Int)))
structure ToksAt (cs : Cs) (H : Hp) (lt : Addr) (as : List Addr) (T : List PT) : Prop where
 lst : H lt = some (.lst (as.map V.ref))
 len : as.length = T.length
 at_ : ∀ (j : Nat) (a : Addr) (t : PT),as[j]? = some a→T[j]? = some t→TokAt cs H a t
structure ReadAt (cs : Cs) (H : Hp) (r lt : Addr) (as : List Addr) (T : List PT) (i : Nat) : Prop where
 ob : ∃ dx,H r = some (.ins cs.rea dx (rdF lt (i : Int)))
 tk : ToksAt cs H lt as T
def Thr (E : XK) (C : Addr) (n : Int) : Prop:=∀ dx H',H' dx = some (.xd (numF n))→E (.ref C) (some dx) H'
def spNow (cs : Cs) : Sp:=fun vs H Q _=>∃ (r lt : Addr) (as : List Addr) (T : List PT) (i : Nat) (t : PT),vs = [.ref r]∧ReadAt cs H r lt as T i∧T[i]? = some t∧∀ a,TokAt cs H a t→Q (.ref a) H
def spTake (cs : Cs) : Sp:=fun vs H Q E=>∃ (r lt : Addr) (as : List Addr) (T : List PT) (i : Nat) (t : PT) (c : Bool),vs = [.ref r,.bl c]∧ReadAt cs H r lt as T i∧T[i]? = some t ∧
 (c = true→∀ H',ReadAt cs H' r lt as T (i + 1)→Kp [r] H H'→Q (.str (mkS t.1)) H')∧(c = false→Thr E cs.cst (-100 - (t.2 : Int)))
def spWritten (cs : Cs) : Sp:=fun vs H Q E=>∃ (r lt : Addr) (as : List Addr) (T : List PT) (i : Nat) (t : PT) (wd : Str),vs = [.ref r,.str wd]∧ReadAt cs H r lt as T i∧T[i]? = some t ∧
 (mkS t.1 = wd→∀ H',ReadAt cs H' r lt as T (i + 1)→Kp [r] H H'→Q (.str (mkS t.1)) H')∧(¬ mkS t.1 = wd→Thr E cs.cst (-100 - (t.2 : Int)))
def spName (cs : Cs) (known : Bool) : Sp:=fun vs H Q E=>∃ (r lt : Addr) (as : List Addr) (T : List PT) (i : Nat) (t : PT) (ma : Addr) (kvs : List (Key × V)),vs = [.ref r,.ref ma]∧ReadAt cs H r lt as T i∧T[i]? = some t∧H ma = some (.dK kvs) ∧
 (kindS t.1 = "name"∧(valV kvs (Sum.inr (mkS t.1))).isSome = known→∀ H',ReadAt cs H' r lt as T (i + 1)→Kp [r] H H'→Q (.str (mkS t.1)) H') ∧
 (¬ (kindS t.1 = "name"∧(valV kvs (Sum.inr (mkS t.1))).isSome = known)→Thr E cs.cst (-100 - (t.2 : Int)))
section
variable {P : Program} {w : World} {K : PySem.W.Frag} {mg : Str→Option Value} {base : Heap} {cs : Cs}
theorem sc_now : FnScope ["self"] ["self"] (defScope st_Reader_now):=⟨rfl,rfl,rfl,by decide +kernel,rfl,by decide +kernel,by decide +kernel⟩
theorem ok_now (T : MetT K cs.rea "now" "Reader.now" st_Reader_now) (cl : Cls K cs.rea) (na : NoAt K cs.rea ["tokens","at"]) : MetOk P w K mg base 1 cs.rea "now" ["self"] (spNow cs):=by
 obtain ⟨f,fd,F,M⟩:=T.ex
 refine ⟨f,fd,M,F.binds (fun _ _ _ _ _ _ us hl=>match us,hl with | [_],_=>rfl),okN F sc_now (fun vs H Q E h=>?_) (fun cdv A outer s H vs Q E hr h=>?_)⟩
 ·obtain ⟨r,lt,as,T,i,t,rfl,_⟩:=h
  rfl
 ·obtain ⟨r,lt,as,T,i,t,rfl,R,ht,kq⟩:=h
  obtain ⟨dx,ob⟩:=R.ob
  have hi : i < as.length:=by rw [R.tk.len]; exact (List.getElem?_eq_some_iff.mp ht).1
  refine ⟨_,pss_one (ps_ret (pe_ix ix_list (pe_fld (pv 0) rfl) (pe_fld (pv 0) rfl) (fun _ _=>rfl))),?_⟩
  refine ⟨_,rfl,r,cs.rea,dx,_,_,rfl,ob,cl,na _ (by simp),rdF_tokens _ _,_,rfl,r,cs.rea,dx,_,_,rfl,ob,cl,na _ (by simp),rdF_at _ _,lt,_,_,V.ref as[i],rfl,rfl,SqL.of R.tk.lst,at_of (j:=i) rfl (by rw [List.getElem?_map,List.getElem?_eq_getElem hi]; rfl),?_⟩
  exact kq as[i] (R.tk.at_ i _ t (List.getElem?_eq_getElem hi) ht)
theorem sc_take : FnScope ["self","stands","token"] ["self","stands"] (defScope st_Reader_take):=⟨rfl,rfl,rfl,by decide +kernel,rfl,by decide +kernel,by decide +kernel⟩
theorem ok_take (T : MetT K cs.rea "take" "Reader.take" st_Reader_take) (cl : Cls K cs.rea) (na : NoAt K cs.rea ["tokens","at"]) (clT : Cls K cs.tok) (naT : NoAt K cs.tok ["kind","word","place"])
  (NW : MetOk P w K mg base 1 cs.rea "now" ["self"] (spNow cs)) (CS : ExcOk P w K mg base 2 "CannotStand" cs.cst ["self","place"] (spOwn1 K cs.cst)) : MetOk P w K mg base 4 cs.rea "take" ["self","stands"] (spTake cs):=by
 obtain ⟨f,fd,F,M⟩:=T.ex
 obtain ⟨fC,fdC,hmC,MC,bC,GC⟩:=CS.ex
 refine ⟨f,fd,M,F.binds (fun _ _ _ _ _ _ us hl=>match us,hl with | [_,_],_=>rfl),okX F sc_take (fun vs H Q E h=>?_) (fun cdv A outer s H vs Q E hr h=>?_)⟩
 ·obtain ⟨r,lt,as,T,i,t,c,rfl,_⟩:=h
  rfl
 ·obtain ⟨r,lt,as,T,i,t,c,rfl,R,ht,kq,kx⟩:=h
  obtain ⟨dx,ob⟩:=R.ob
  refine ⟨_,pss_cons (ps_set (i:=2) sc_take.nd rfl (Or.inl rfl) (pe_met0 (pv 0) cl (NW.mono (by decide : 1≤3)) hr pass_no))
   (pss_cons (ps_if (pt_not (pt_val (pv 1))) (pss_one (ps_raise MC GC hr bC rfl hmC (pa_cons (pe_fld (pv 2) rfl) pa_nil))) pss_nil)
   (pss_cons (ps_fldaug (pv 0) pe_int in_add) (pss_one (ps_ret (pe_fld (pv 2) rfl))))),?_⟩
  refine ⟨_,rfl,r,dx,_,rfl,ob,rdF_no _ _ (by decide +kernel) (by decide +kernel),r,lt,as,T,i,t,rfl,R,ht,fun a ta=>?_⟩
  obtain ⟨dt,hta⟩:=id ta
  refine ⟨_,rfl,c,rfl,?_⟩
  cases c with
  | false =>
   refine iteT ?_
   refine ⟨_,rfl,a,cs.tok,dt,_,_,rfl,hta,clT,naT _ (by simp),tokG_place _ _ _,(by show 1≤sizeLine; decide),fun x hx=>?_⟩
   refine ⟨x,_,rfl,upd_same,fun dy H' h1 h2 h3 h4=>⟨rfl,x,dy,rfl,h1,?_⟩⟩
   have hdx : dy ≠ x:=fun z=>by rw [z,upd_same] at h3; cases h3
   exact kx rfl dy _ (by rw [del_ne hdx]; exact h2)
  | true =>
   refine iteF ?_
   refine ⟨_,rfl,r,cs.rea,dx,_,_,rfl,ob,cl,na _ (by simp),rdF_at _ _,_,_,rfl,rfl,dx,_,ob,(by show 2 < 1000; decide),?_⟩
   have na' : a ≠ r:=ne_of hta ob (by
    intro z
    injection z with _ _ z
    exact absurd (congrArg List.length z) (by show ¬ 3 = 2; decide))
   refine ⟨_,rfl,a,cs.tok,dt,_,_,rfl,by rw [upd_ne na']; exact hta,clT,naT _ (by simp),tokG_word _ _ _,?_⟩
   have kp : Kp [r] H (upd H r (.ins cs.rea dx (putF "at" (.int ((i : Int) + 1)) (rdF lt (i : Int))))):=Kp.refl.upd (.inl (by simp))
   refine kq rfl _ ⟨⟨dx,?_⟩,⟨kp _ _ R.tk.lst (by simpa using (insNe ob R.tk.lst).symm),R.tk.len,fun j b u e1 e2=>?_⟩⟩ kp
   ·rw [upd_same,rdF_put]
    rfl
   ·obtain ⟨dy,hb⟩:=R.tk.at_ j b u e1 e2
    exact ⟨dy,kp _ _ hb (by
     have : b ≠ r:=ne_of hb ob (by
      intro z
      injection z with _ _ z
      exact absurd (congrArg List.length z) (by show ¬ 3 = 2; decide))
     simpa using this)⟩
theorem sc_written : FnScope ["self","word"] ["self","word"] (defScope st_Reader_take_written):=⟨rfl,rfl,rfl,by decide +kernel,rfl,by decide +kernel,by decide +kernel⟩
theorem ok_written (T : MetT K cs.rea "take_written" "Reader.take_written" st_Reader_take_written) (cl : Cls K cs.rea) (clT : Cls K cs.tok) (naT : NoAt K cs.tok ["kind","word","place"])
  (NW : MetOk P w K mg base 1 cs.rea "now" ["self"] (spNow cs)) (TK : MetOk P w K mg base 4 cs.rea "take" ["self","stands"] (spTake cs)) : MetOk P w K mg base 5 cs.rea "take_written" ["self","word"] (spWritten cs):=by
 obtain ⟨f,fd,F,M⟩:=T.ex
 refine ⟨f,fd,M,F.binds (fun _ _ _ _ _ _ us hl=>match us,hl with | [_,_],_=>rfl),okX F sc_written (fun vs H Q E h=>?_) (fun cdv A outer s H vs Q E hr h=>?_)⟩
 ·obtain ⟨r,lt,as,T,i,t,wd,rfl,_⟩:=h
  rfl
 ·obtain ⟨r,lt,as,T,i,t,wd,rfl,R,ht,kq,kx⟩:=h
  obtain ⟨dx,ob⟩:=R.ob
  refine ⟨_,pss_one (ps_ret (pe_met (pv 0) cl TK hr pass_on (pa_cons (pe_cmpR op_eq (pe_fld (pe_met0 (pv 0) cl (NW.mono (by decide : 1≤4)) hr pass_no) rfl) (pv 1) (nomark _)) pa_nil))),?_⟩
  refine ⟨_,rfl,r,dx,_,rfl,ob,rdF_no _ _ (by decide +kernel) (by decide +kernel),?_⟩
  refine ⟨_,rfl,r,dx,_,rfl,ob,rdF_no _ _ (by decide +kernel) (by decide +kernel),r,lt,as,T,i,t,rfl,R,ht,fun a ta=>?_⟩
  obtain ⟨dt,hta⟩:=id ta
  refine ⟨a,cs.tok,dt,_,_,rfl,hta,clT,naT _ (by simp),tokG_word _ _ _,_,rfl,rfl,?_⟩
  refine ⟨r,lt,as,T,i,t,_,rfl,R,ht,fun hc=>kq ?_,fun hc=>kx fun z=>?_⟩
  ·have:=of_decide_eq_true hc
   injection this
  ·rw [z] at hc
   simp at hc
theorem sc_new : FnScope ["self","names","token"] ["self","names"] (defScope st_Reader_take_new_name):=⟨rfl,rfl,rfl,by decide +kernel,rfl,by decide +kernel,by decide +kernel⟩
theorem ok_new (T : MetT K cs.rea "take_new_name" "Reader.take_new_name" st_Reader_take_new_name) (cl : Cls K cs.rea) (clT : Cls K cs.tok) (naT : NoAt K cs.tok ["kind","word","place"]) (hN : ∃ t,mg "NAME" = some (.str "name" t))
  (NW : MetOk P w K mg base 1 cs.rea "now" ["self"] (spNow cs)) (TK : MetOk P w K mg base 4 cs.rea "take" ["self","stands"] (spTake cs)) : MetOk P w K mg base 5 cs.rea "take_new_name" ["self","names"] (spName cs false):=by
 obtain ⟨f,fd,F,M⟩:=T.ex
 obtain ⟨tn,hN⟩:=hN
 refine ⟨f,fd,M,F.binds (fun _ _ _ _ _ _ us hl=>match us,hl with | [_,_],_=>rfl),okX F sc_new (fun vs H Q E h=>?_) (fun cdv A outer s H vs Q E hr h=>?_)⟩
 ·obtain ⟨r,lt,as,T,i,t,ma,kvs,rfl,_⟩:=h
  rfl
 ·obtain ⟨r,lt,as,T,i,t,ma,kvs,rfl,R,ht,hma,kq,kx⟩:=h
  obtain ⟨dx,ob⟩:=R.ob
  refine ⟨_,pss_cons (ps_set (i:=2) sc_new.nd rfl (Or.inl rfl) (pe_met0 (pv 0) cl (NW.mono (by decide : 1≤4)) hr pass_no))
   (pss_one (ps_ret (pe_met (pv 0) cl TK hr pass_on (pa_cons (pe_and (pe_cmpR op_eq (pe_fld (pv 2) rfl) (pe_glob (v:=.str "name") rfl hN ⟨tn,rfl⟩) (nomark _)) (pe_one (pe_cmp (pc_dnotin (hu_of hr) (pe_fld (pv 2) rfl) (pv 1))))) pa_nil)))),?_⟩
  refine ⟨_,rfl,r,dx,_,rfl,ob,rdF_no _ _ (by decide +kernel) (by decide +kernel),r,lt,as,T,i,t,rfl,R,ht,fun a ta=>?_⟩
  obtain ⟨dt,hta⟩:=id ta
  refine ⟨_,rfl,r,dx,_,rfl,ob,rdF_no _ _ (by decide +kernel) (by decide +kernel),?_⟩
  refine ⟨_,rfl,a,cs.tok,dt,_,_,rfl,hta,clT,naT _ (by simp),tokG_kind _ _ _,rfl,_,rfl,ite2 (fun hc=>?_) fun hc=>?_⟩
  ·have hk : kindS t.1 = "name":=by
    have:=of_decide_eq_true hc
    injection this
   refine ⟨_,rfl,a,cs.tok,dt,_,_,rfl,hta,clT,naT _ (by simp),tokG_word _ _ _,_,rfl,ma,_,rfl,DGet.k (k:=Sum.inr (mkS t.1)) hma,?_⟩
   refine ⟨r,lt,as,T,i,t,_,rfl,R,ht,fun h2=>kq ⟨hk,by simpa using h2⟩,fun h2=>kx fun z=>?_⟩
   rw [z.2] at h2
   simp at h2
  ·refine ⟨r,lt,as,T,i,t,_,rfl,R,ht,fun h2=>absurd h2 Bool.false_ne_true,fun h2=>kx fun z=>hc (decide_eq_true (by rw [z.1]))⟩
theorem sc_known : FnScope ["self","names","token"] ["self","names"] (defScope st_Reader_take_known_name):=⟨rfl,rfl,rfl,by decide +kernel,rfl,by decide +kernel,by decide +kernel⟩
theorem ok_known (T : MetT K cs.rea "take_known_name" "Reader.take_known_name" st_Reader_take_known_name) (cl : Cls K cs.rea) (clT : Cls K cs.tok) (naT : NoAt K cs.tok ["kind","word","place"]) (hN : ∃ t,mg "NAME" = some (.str "name" t))
  (NW : MetOk P w K mg base 1 cs.rea "now" ["self"] (spNow cs)) (TK : MetOk P w K mg base 4 cs.rea "take" ["self","stands"] (spTake cs)) : MetOk P w K mg base 5 cs.rea "take_known_name" ["self","names"] (spName cs true):=by
 obtain ⟨f,fd,F,M⟩:=T.ex
 obtain ⟨tn,hN⟩:=hN
 refine ⟨f,fd,M,F.binds (fun _ _ _ _ _ _ us hl=>match us,hl with | [_,_],_=>rfl),okX F sc_known (fun vs H Q E h=>?_) (fun cdv A outer s H vs Q E hr h=>?_)⟩
 ·obtain ⟨r,lt,as,T,i,t,ma,kvs,rfl,_⟩:=h
  rfl
 ·obtain ⟨r,lt,as,T,i,t,ma,kvs,rfl,R,ht,hma,kq,kx⟩:=h
  obtain ⟨dx,ob⟩:=R.ob
  refine ⟨_,pss_cons (ps_set (i:=2) sc_known.nd rfl (Or.inl rfl) (pe_met0 (pv 0) cl (NW.mono (by decide : 1≤4)) hr pass_no))
   (pss_one (ps_ret (pe_met (pv 0) cl TK hr pass_on (pa_cons (pe_and (pe_cmpR op_eq (pe_fld (pv 2) rfl) (pe_glob (v:=.str "name") rfl hN ⟨tn,rfl⟩) (nomark _)) (pe_one (pe_cmp (pc_din (hu_of hr) (pe_fld (pv 2) rfl) (pv 1))))) pa_nil)))),?_⟩
  refine ⟨_,rfl,r,dx,_,rfl,ob,rdF_no _ _ (by decide +kernel) (by decide +kernel),r,lt,as,T,i,t,rfl,R,ht,fun a ta=>?_⟩
  obtain ⟨dt,hta⟩:=id ta
  refine ⟨_,rfl,r,dx,_,rfl,ob,rdF_no _ _ (by decide +kernel) (by decide +kernel),?_⟩
  refine ⟨_,rfl,a,cs.tok,dt,_,_,rfl,hta,clT,naT _ (by simp),tokG_kind _ _ _,rfl,_,rfl,ite2 (fun hc=>?_) fun hc=>?_⟩
  ·have hk : kindS t.1 = "name":=by
    have:=of_decide_eq_true hc
    injection this
   refine ⟨_,rfl,a,cs.tok,dt,_,_,rfl,hta,clT,naT _ (by simp),tokG_word _ _ _,_,rfl,ma,_,rfl,DGet.k (k:=Sum.inr (mkS t.1)) hma,?_⟩
   refine ⟨r,lt,as,T,i,t,_,rfl,R,ht,fun h2=>kq ⟨hk,h2⟩,fun h2=>kx fun z=>?_⟩
   rw [z.2] at h2
   cases h2
  ·refine ⟨r,lt,as,T,i,t,_,rfl,R,ht,fun h2=>absurd h2 Bool.false_ne_true,fun h2=>kx fun z=>hc (decide_eq_true (by rw [z.1]))⟩
end
end Pg
end
section
set_option linter.all false
set_option maxRecDepth 100000
set_option maxHeartbeats 4000000
namespace Pg
open PySem L2 Xc Sp Rb35
def tk (T : List PT) (i : Nat) : Toks:=absT (T.drop i)
structure TOk (T : List PT) : Prop where
 next : ∀ i t,T[i]? = some t→t.1 ≠ []→∃ u,T[i + 1]? = some u
 dig : ∀ t ∈ T,kindS t.1 = "number"→∀ c ∈ t.1,isDigit c = true
 few : T.length≤10000
section
variable {T : List PT} {i : Nat} {t : PT}
theorem drop_at (h : T[i]? = some t) : T.drop i = t::T.drop (i + 1):=by
 obtain ⟨hi,e⟩:=List.getElem?_eq_some_iff.mp h
 rw [List.drop_eq_getElem_cons hi,e]
theorem tk_at (h : T[i]? = some t) : tk T i = match absTok t.1 with
  | .bad=>[(.bad,t.2)]
  | .ended=>[(.ended,t.2)]
  | x=>(x,t.2)::tk T (i + 1):=by
 unfold tk
 rw [drop_at h]
 rfl
theorem tk_place (h : T[i]? = some t) : placeOf (tk T i) = t.2:=by
 rw [tk_at h]
 cases absTok t.1 <;> rfl
def sgn : List Nat:=[40,41,44,59,61,38,124]
theorem abs_sign {c : Nat} (h : c ∈ sgn) : absTok [c] = .sign c:=by
 simp only [sgn,List.mem_cons,List.not_mem_nil,or_false] at h
 rcases h with rfl | rfl | rfl | rfl | rfl | rfl | rfl <;> rfl
theorem abs_sign_inv {w : List Nat} {c : Nat} (h : absTok w = .sign c) : w = [c]:=by
 cases w with
 | nil=>cases h
 | cons a r =>
  unfold absTok at h
  dsimp only at h
  split at h
  ·split at h <;> cases h
  ·split at h
   ·split at h <;> cases h
   ·split at h
    ·rename_i q
     cases h
     rw [q.1]
    ·cases h
theorem abs_name_inv {w b : List Nat} (h : absTok w = .name b) : w = b:=by
 cases w with
 | nil=>cases h
 | cons a r =>
  unfold absTok at h
  dsimp only at h
  split at h
  ·split at h
   ·cases h
   ·cases h; rfl
  ·split at h
   ·split at h <;> cases h
   ·split at h <;> cases h
theorem abs_end_inv {w : List Nat} (h : absTok w = .ended) : w = []:=by
 cases w with
 | nil=>rfl
 | cons a r =>
  unfold absTok at h
  dsimp only at h
  split at h
  ·split at h <;> cases h
  ·split at h
   ·split at h <;> cases h
   ·split at h <;> cases h
theorem tk_sign {c : Nat} (hc : c ∈ sgn) (h : T[i]? = some t) (e : t.1 = [c]) : tk T i = (.sign c,t.2)::tk T (i + 1):=by
 rw [tk_at h,e,abs_sign hc]
theorem tk_is {c : Nat} (hc : c ∈ sgn) (h : T[i]? = some t) : is_ c (tk T i) = decide (t.1 = [c]):=by
 by_cases e : t.1 = [c]
 ·rw [tk_sign hc h e,decide_eq_true e]
  simp [is_]
 ·rw [decide_eq_false e,tk_at h]
  cases q : absTok t.1 with
  | sign d =>
   show (c == d) = false
   have:=abs_sign_inv q
   simpa using fun z : c = d=>e (by rw [this,z])
  | name b=>rfl
  | num b=>rfl
  | bad=>rfl
  | ended=>rfl
theorem tk_key {s : String} (hs : absTok (ascii s) = .name (ascii s)) (h : T[i]? = some t) : isKey s (tk T i) = decide (t.1 = ascii s):=by
 by_cases e : t.1 = ascii s
 ·rw [decide_eq_true e,tk_at h,e,hs]
  simp [isKey]
 ·rw [decide_eq_false e,tk_at h]
  cases q : absTok t.1 with
  | name b =>
   show decide (b = ascii s) = false
   rw [← abs_name_inv q]
   exact decide_eq_false e
  | sign b=>rfl
  | num b=>rfl
  | bad=>rfl
  | ended=>rfl
theorem tk_keyT {s : String} (hs : absTok (ascii s) = .name (ascii s)) (h : T[i]? = some t) (e : t.1 = ascii s) : tk T i = (.name (ascii s),t.2)::tk T (i + 1):=by
 rw [tk_at h,e,hs]
theorem kind_name {w : List Nat} (h : kindS w = "name") : absTok w = .name w∧keys.contains w = false:=by
 cases w with
 | nil=>exact absurd h (by decide +kernel)
 | cons c r =>
  unfold kindS at h
  dsimp only at h
  by_cases q : isSmall c = true∧(c::r).length≤15∧¬ keys.contains (c::r) = true
  ·refine ⟨?_,by simpa using q.2.2⟩
   unfold absTok
   dsimp only
   rw [if_pos q.1,if_neg (by omega)]
  ·rw [if_neg q] at h
   split at h <;> exact absurd h (by decide +kernel)
theorem kind_not_name {w b : List Nat} (h : ¬ kindS w = "name") (a : absTok w = .name b) : keys.contains b = true:=by
 have e:=abs_name_inv a
 subst e
 cases w with
 | nil=>cases a
 | cons c r =>
  unfold absTok at a
  dsimp only at a
  by_cases hs : isSmall c = true
  ·rw [if_pos hs] at a
   by_cases hl : 15 < (c::r).length
   ·rw [if_pos hl] at a; cases a
   ·cases k : keys.contains (c::r) with
    | true=>rfl
    | false =>
     refine absurd ?_ h
     unfold kindS
     dsimp only
     rw [if_pos ⟨hs,by omega,by rw [k]; decide⟩]
  ·rw [if_neg hs] at a
   split at a
   ·split at a <;> cases a
   ·split at a <;> cases a
theorem small_digit {c : Nat} (h : isDigit c = true) : isSmall c = false:=by
 cases q : isSmall c with
 | false=>rfl
 | true=>simp [isSmall,isDigit] at h q; omega
theorem kind_num {w : List Nat} (h : kindS w = "number") : absTok w = .num (valueOf w)∧w.length≤5:=by
 cases w with
 | nil=>exact absurd h (by decide +kernel)
 | cons c r =>
  unfold kindS at h
  dsimp only at h
  by_cases q : isSmall c = true∧(c::r).length≤15∧¬ keys.contains (c::r) = true
  ·rw [if_pos q] at h
   exact absurd h (by decide +kernel)
  ·rw [if_neg q] at h
   by_cases d : isDigit c = true∧(c::r).length≤5
   ·refine ⟨?_,d.2⟩
    unfold absTok
    dsimp only
    rw [if_neg (by rw [small_digit d.1]; decide),if_pos d.1,if_neg (by omega)]
   ·rw [if_neg d] at h
    exact absurd h (by decide +kernel)
theorem kind_not_num {w : List Nat} {n : Nat} (h : ¬ kindS w = "number") : absTok w ≠ .num n:=fun a=>by
 cases w with
 | nil=>cases a
 | cons c r =>
  unfold absTok at a
  dsimp only at a
  by_cases hs : isSmall c = true
  ·rw [if_pos hs] at a
   split at a <;> cases a
  ·rw [if_neg hs] at a
   by_cases hd : isDigit c = true
   ·rw [if_pos hd] at a
    by_cases hl : 5 < (c::r).length
    ·rw [if_pos hl] at a; cases a
    ·refine h ?_
     unfold kindS
     dsimp only
     rw [if_neg fun z=>hs z.1,if_pos ⟨hd,by omega⟩]
   ·rw [if_neg hd] at a
    split at a <;> cases a
theorem kind_end {w : List Nat} : kindS w = "end"↔w = []:=by
 constructor
 ·intro h
  cases w with
  | nil=>rfl
  | cons c r =>
   unfold kindS at h
   dsimp only at h
   split at h
   ·exact absurd h (by decide +kernel)
   ·split at h <;> exact absurd h (by decide +kernel)
 ·rintro rfl; rfl
theorem tk_atEnd (h : T[i]? = some t) : atEnd (tk T i) = decide (t.1 = []):=by
 by_cases e : t.1 = []
 ·rw [decide_eq_true e,tk_at h,e]
  rfl
 ·rw [decide_eq_false e,tk_at h]
  cases q : absTok t.1 with
  | ended=>exact absurd (abs_end_inv q) e
  | name b=>rfl
  | sign b=>rfl
  | num b=>rfl
  | bad=>rfl
theorem take_yes {c : Nat} (hc : c ∈ sgn) (h : T[i]? = some t) (e : t.1 = [c]) : take_ c (tk T i) = .ok (tk T (i + 1)):=by
 unfold take_
 rw [tk_is hc h,decide_eq_true e,if_pos rfl,tk_sign hc h e]
 rfl
theorem take_no {c : Nat} (hc : c ∈ sgn) (h : T[i]? = some t) (e : ¬ t.1 = [c]) : take_ c (tk T i) = .error t.2:=by
 unfold take_
 rw [tk_is hc h,decide_eq_false e,if_neg (by decide),tk_place h]
theorem new_yes {e : Known} (h : T[i]? = some t) (h1 : kindS t.1 = "name") (h2 : knows e t.1 = false) : newName e (tk T i) = .ok (t.1,tk T (i + 1)):=by
 obtain ⟨a,b⟩:=kind_name h1
 rw [tk_at h,a]
 show (if keys.contains t.1 = true∨knows e t.1 = true then _ else _) = _
 rw [if_neg (by rw [b,h2]; decide)]
theorem new_no {e : Known} (h : T[i]? = some t) (h1 : ¬ (kindS t.1 = "name"∧knows e t.1 = false)) : newName e (tk T i) = .error t.2:=by
 rw [tk_at h]
 cases q : absTok t.1 with
 | name b =>
  show (if keys.contains b = true∨knows e b = true then _ else _) = _
  rw [if_pos]
  by_cases hk : kindS t.1 = "name"
  ·right
   rw [← abs_name_inv q]
   cases z : knows e t.1 with
   | true=>rfl
   | false=>exact absurd ⟨hk,z⟩ h1
  ·exact .inl (kind_not_name hk q)
 | sign b=>rfl
 | num b=>rfl
 | bad=>rfl
 | ended=>rfl
variable {e : Known} {F : Fra} {r : List Fra}
theorem bt_open (h : T[i]? = some t) (h1 : t.1 = [40]) : bAll e F r (tk T i) = bAll e (Fra.empty 0) (F::r) (tk T (i + 1)):=by
 rw [tk_sign (by decide) h h1,b_open]
theorem abs_of : absTok (ascii "of") = .name (ascii "of"):=rfl
theorem bt_openK {u v : PT} (h : T[i]? = some t) (hu : T[i + 1]? = some u) (hv : T[i + 2]? = some v) (h1 : kindS t.1 = "number") (h2 : valueOf t.1 ≠ 0) (h3 : u.1 = ascii "of") (h4 : v.1 = [40]) :
  bAll e F r (tk T i) = bAll e (Fra.empty (valueOf t.1)) (F::r) (tk T (i + 3)):=by
 have e1 : tk T i = (.num (valueOf t.1),t.2)::tk T (i + 1):=by rw [tk_at h,(kind_num h1).1]
 rw [e1,tk_keyT abs_of hu h3,tk_sign (by decide) hv h4,b_openK _ _ _ _ h2 rfl]
theorem bt_zero (h : T[i]? = some t) (h1 : kindS t.1 = "number") (h2 : valueOf t.1 = 0) : bAll e F r (tk T i) = .error t.2:=by
 have e1 : tk T i = (.num (valueOf t.1),t.2)::tk T (i + 1):=by rw [tk_at h,(kind_num h1).1]
 unfold bAll
 rw [e1,RL_num,if_pos h2]
 rfl
theorem bt_noOf {u : PT} (h : T[i]? = some t) (hu : T[i + 1]? = some u) (h1 : kindS t.1 = "number") (h2 : valueOf t.1 ≠ 0) (h3 : ¬ u.1 = ascii "of") : bAll e F r (tk T i) = .error u.2:=by
 have e1 : tk T i = (.num (valueOf t.1),t.2)::tk T (i + 1):=by rw [tk_at h,(kind_num h1).1]
 unfold bAll
 rw [e1,RL_num,if_neg h2,if_pos (by rw [tk_key abs_of hu]; exact decide_eq_false h3),tk_place hu]
 rfl
theorem bt_noPar {u v : PT} (h : T[i]? = some t) (hu : T[i + 1]? = some u) (hv : T[i + 2]? = some v) (h1 : kindS t.1 = "number") (h2 : valueOf t.1 ≠ 0) (h3 : u.1 = ascii "of") (h4 : ¬ v.1 = [40]) : bAll e F r (tk T i) = .error v.2:=by
 have e1 : tk T i = (.num (valueOf t.1),t.2)::tk T (i + 1):=by rw [tk_at h,(kind_num h1).1]
 unfold bAll
 rw [e1,RL_num,if_neg h2,if_neg (by rw [tk_key abs_of hu,decide_eq_true h3]; decide),tk_keyT abs_of hu h3]
 show ((take_ 40 (tk T (i + 1 + 1))).bind _).bind _ = _
 rw [take_no (by decide) hv h4]
 rfl
theorem bt_name {x : Form} (h : T[i]? = some t) (h1 : kindS t.1 = "name") (h2 : meaning e t.1 = some x) : bAll e F r (tk T i) = cAll e { F with ps:=F.ps++[x] } r (tk T (i + 1)):=by
 obtain ⟨a,b⟩:=kind_name h1
 rw [tk_at h,a]
 exact b_name _ b h2
theorem bt_bad (h : T[i]? = some t) (h1 : ¬ t.1 = [40]) (h2 : ¬ kindS t.1 = "number") (h3 : ¬ (kindS t.1 = "name"∧(meaning e t.1).isSome = true)) : bAll e F r (tk T i) = .error t.2:=by
 have key : RL e 0 (tk T i) = .error (placeOf (tk T i)):=by
  have els : plainTok (tk T i) = true→RL e 0 (tk T i) = .error (placeOf (tk T i)):=fun hp=>by
   rw [RL_else e _ hp]
   unfold parenL
   rw [take_no (by decide) h h1,tk_place h]
   rfl
  cases q : absTok t.1 with
  | name b =>
   have hb:=abs_name_inv q
   have e1 : tk T i = (.name b,t.2)::tk T (i + 1):=by rw [tk_at h,q]
   rw [e1,RL_name]
   have z : (if keys.contains b = true then none else meaning e b) = none:=by
    by_cases hk : kindS t.1 = "name"
    ·cases m : meaning e b with
     | none=>simp
     | some y=>exact absurd ⟨hk,by rw [hb,m]; rfl⟩ h3
    ·rw [if_pos (kind_not_name hk q)]
   rw [z]
   rfl
  | num n=>exact absurd q (kind_not_num h2)
  | sign c=>exact els (by rw [tk_at h,q]; rfl)
  | bad=>exact els (by rw [tk_at h,q]; rfl)
  | ended=>exact els (by rw [tk_at h,q]; rfl)
 rw [b_bad key,tk_place h]
end
end Pg
end
section
set_option linter.all false
set_option maxRecDepth 100000
set_option maxHeartbeats 4000000
namespace Pg
open PySem L2 Xc Sp Rb35
def nmK (l : List (Bytes × Nat)) : List (Key × V):=l.map fun x=>(Sum.inr (mkS x.1),V.int (x.2 : Int))
theorem nmK_val (l : List (Bytes × Nat)) (b : Bytes) : valV (nmK l) (Sum.inr (mkS b)) = (look l b).map fun (i : Nat)=>V.int (i : Int):=by
 induction l with
 | nil=>rfl
 | cons a r ih =>
  unfold valV look nmK at ih ⊢
  rw [List.map_cons,List.find?_cons,List.find?_cons]
  by_cases h : a.1 = b
  ·rw [decide_eq_true (by show (Sum.inr (mkS a.1) : Key) = Sum.inr (mkS b); rw [h])]
   simp [h]
  ·rw [decide_eq_false (by intro z; exact h (mkS_inj (Sum.inr.inj z)))]
   have : (a.1 == b) = false:=by simpa using h
   rw [this]
   exact ih
theorem nmK_put {l : List (Bytes × Nat)} {b : Bytes} (h : look l b = none) (i : Nat) : putK (nmK l) (Sum.inr (mkS b)) (V.int (i : Int)) = nmK (l++[(b,i)]):=by
 have hv : valV (nmK l) (Sum.inr (mkS b)) = none:=by rw [nmK_val,h]; rfl
 rw [putK_new _ hv]
 unfold nmK
 rw [List.map_append]
 rfl
def spAddPerson (cs : Cs) : Sp:=fun vs H Q _=>∃ (b : Addr) (x : Bytes) (A : BkA) (p : Nat) (B : Bk),vs = [.ref b,.str (mkS x)]∧BookAt cs H b A p B∧look B.names x = none∧B.ls = []∧B.people.length < 50000 ∧
 ∀ H',BookAt cs H' b A p { B with people:=B.people++[x] }→Kp [A.pa,A.ma] H H'→Q .non H'
def spAddLet (cs : Cs) : Sp:=fun vs H Q _=>∃ (b : Addr) (x : Bytes) (i : Nat) (A : BkA) (p : Nat) (B : Bk),vs = [.ref b,.str (mkS x),.int i]∧BookAt cs H b A p B∧look B.names x = none∧B.names.length < 50000 ∧
 ∀ H',BookAt cs H' b A p { B with ls:=B.ls++[(x,i)] }→Kp [A.la,A.ma] H H'→Q .non H'
section
variable {P : Program} {w : World} {K : PySem.W.Frag} {mg : Str→Option Value} {base : Heap} {cs : Cs}
theorem sc_add_person : FnScope ["self","name"] ["self","name"] (defScope st_Book_add_person):=⟨rfl,rfl,rfl,by decide +kernel,rfl,by decide +kernel,by decide +kernel⟩
theorem ok_add_person (T : MetT K cs.boo "add_person" "Book.add_person" st_Book_add_person) (clB : Cls K cs.boo) (naB : NoAt K cs.boo ["prime","people","nodes","lets","names"]) (hlen : mg "len" = none) :
  MetOk P w K mg base 1 cs.boo "add_person" ["self","name"] (spAddPerson cs):=by
 obtain ⟨f,fd,F,M⟩:=T.ex
 refine ⟨f,fd,M,F.binds (fun _ _ _ _ _ _ us hl=>match us,hl with | [_,_],_=>rfl),okN F sc_add_person (fun vs H Q E h=>?_) (fun cdv A outer s H vs Q E hr h=>?_)⟩
 ·obtain ⟨b,x,A,p,B,rfl,_⟩:=h
  rfl
 ·obtain ⟨b,x,Ad,p,B,rfl,R,hx,hls,hsm,kq⟩:=h
  obtain ⟨dx,ob⟩:=R.ob
  refine ⟨_,pss_cons (ps_dput (hu_of hr) (pe_fld (pv 0) rfl) (pv 1) (pe_callB call_len_seq (by rfl) hlen PySem.boot_len (pa_cons (pe_fld (pv 0) rfl) pa_nil)) rfl)
   (pss_one (ps_expr (pe_bm PySem.F.plainAttrs_list PySem.F.slot_list_append PySem.F.type_list_append mt_append (pe_fld (pv 0) rfl) (pa_cons (pv 1) pa_nil)))),?_⟩
  have hlen' : (nmK B.names).length < sizeLine:=by
   show (List.map _ _).length < _
   rw [List.length_map]
   unfold Bk.names
   rw [hls,List.append_nil,List.length_zipIdx]
   exact Nat.lt_trans (by omega) line100000
  refine ⟨_,rfl,b,cs.boo,dx,_,_,rfl,ob,clB,naB _ (by simp),bkF_people _ _ _ _ _,_,_,rfl,.inl (SqL.of R.people),?_⟩
  refine ⟨_,rfl,b,cs.boo,dx,_,_,rfl,ob,clB,naB _ (by simp),bkF_names _ _ _ _ _,_,rfl,Ad.ma,_,rfl,DPut.k (k:=Sum.inr (mkS x)) R.names hlen',?_⟩
  have obm : b ≠ Ad.ma:=ne_of ob R.names (by intro z; cases z)
  have pam : Ad.pa ≠ Ad.ma:=fun z=>dicNe R.names R.people z.symm
  refine ⟨_,rfl,b,cs.boo,dx,_,_,rfl,by rw [upd_ne obm]; exact ob,clB,naB _ (by simp),bkF_people _ _ _ _ _,.inl ⟨rfl,_,SqL.of (by rw [upd_ne pam]; exact R.people)⟩,_,rfl,Ad.pa,_,_,rfl,rfl,by rw [upd_ne pam]; exact R.people,?_,?_⟩
  ·rw [List.length_map]
   exact Nat.lt_trans (by omega) line100000
  have kk : Kp [Ad.pa,Ad.ma] H (upd (upd H Ad.ma (.dK (putK (nmK B.names) (Sum.inr (mkS x)) (V.int ((B.people.map fun x=>V.str (mkS x)).length : Int))))) Ad.pa (.lst ((B.people.map fun x=>V.str (mkS x))++[V.str (mkS x)]))) :=
   (Kp.refl.upd (.inl (by simp))).upd (.inl (by simp))
  have nd:=R.nd
  have nin : ∀ y ∈ Ad.na::Ad.la::Ad.nds.map (·.2),y ∉ [Ad.pa,Ad.ma]:=fun y hy z=>by
   simp only [List.mem_cons,List.not_mem_nil,or_false] at z
   rcases z with rfl | rfl
   ·unfold BkA.lists at nd
    exact (List.nodup_cons.mp nd).1 hy
   ·obtain ⟨xs,e⟩:=R.isLst (x:=Ad.ma) (by unfold BkA.lists; exact List.mem_cons_of_mem _ hy)
    rw [R.names] at e; cases e
  refine kq _ ⟨⟨dx,kk _ _ ob ?_⟩,?_,kk _ _ R.nodes (nin _ (by simp)),kk _ _ R.lets (nin _ (by simp)),?_,R.len,fun j y n e1 e2=>?_,R.nd⟩ kk
  ·simp only [List.mem_cons,List.not_mem_nil,or_false,not_or]
   exact ⟨insNe ob R.people,obm⟩
  ·show upd _ _ _ Ad.pa = _
   rw [upd_same,List.map_append]
   rfl
  ·show upd _ _ _ Ad.ma = _
   rw [upd_ne pam.symm,upd_same,List.length_map]
   show some (HO.dK (putK (nmK B.names) (Sum.inr (mkS x)) (V.int (B.people.length : Int)))) = some (HO.dK (nmK (Bk.names _)))
   rw [nmK_put hx]
   show some (HO.dK (nmK (B.people.zipIdx++B.ls++[(x,B.people.length)]))) = some (HO.dK (nmK ((B.people++[x]).zipIdx++B.ls)))
   rw [hls,List.zipIdx_append,List.append_nil,List.append_nil]
   simp
  ·obtain ⟨⟨dy,n1⟩,n2⟩:=R.at_ j y n e1 e2
   refine ⟨⟨dy,kk _ _ n1 ?_⟩,kk _ _ n2 (nin _ ?_)⟩
   ·simp only [List.mem_cons,List.not_mem_nil,or_false,not_or]
    exact ⟨insNe n1 R.people,ne_of n1 R.names (by intro z; cases z)⟩
   ·have : y.2 ∈ Ad.nds.map (·.2):=List.mem_map.mpr ⟨y,List.mem_of_getElem? e1,rfl⟩
    simp [this]
theorem sc_add_let : FnScope ["self","name","formula"] ["self","name","formula"] (defScope st_Book_add_let):=⟨rfl,rfl,rfl,by decide +kernel,rfl,by decide +kernel,by decide +kernel⟩
theorem ok_add_let (T : MetT K cs.boo "add_let" "Book.add_let" st_Book_add_let) (clB : Cls K cs.boo) (naB : NoAt K cs.boo ["prime","people","nodes","lets","names"]) :
  MetOk P w K mg base 1 cs.boo "add_let" ["self","name","formula"] (spAddLet cs):=by
 obtain ⟨f,fd,F,M⟩:=T.ex
 refine ⟨f,fd,M,F.binds (fun _ _ _ _ _ _ us hl=>match us,hl with | [_,_,_],_=>rfl),okN F sc_add_let (fun vs H Q E h=>?_) (fun cdv A outer s H vs Q E hr h=>?_)⟩
 ·obtain ⟨b,x,i,A,p,B,rfl,_⟩:=h
  rfl
 ·obtain ⟨b,x,i,Ad,p,B,rfl,R,hx,hsm,kq⟩:=h
  obtain ⟨dx,ob⟩:=R.ob
  refine ⟨_,pss_cons (ps_dput (hu_of hr) (pe_fld (pv 0) rfl) (pv 1) (pv 2) rfl)
   (pss_one (ps_expr (pe_bm PySem.F.plainAttrs_list PySem.F.slot_list_append PySem.F.type_list_append mt_append (pe_fld (pv 0) rfl) (pa_cons (pv 2) pa_nil)))),?_⟩
  have hll : B.ls.length≤B.names.length:=by unfold Bk.names; rw [List.length_append]; omega
  have hlen' : (nmK B.names).length < sizeLine:=by
   show (List.map _ _).length < _
   rw [List.length_map]
   exact Nat.lt_trans (by omega) line100000
  refine ⟨_,rfl,_,rfl,b,cs.boo,dx,_,_,rfl,ob,clB,naB _ (by simp),bkF_names _ _ _ _ _,_,rfl,Ad.ma,_,rfl,DPut.k (k:=Sum.inr (mkS x)) R.names hlen',?_⟩
  have obm : b ≠ Ad.ma:=ne_of ob R.names (by intro z; cases z)
  have lam : Ad.la ≠ Ad.ma:=fun z=>dicNe R.names R.lets z.symm
  refine ⟨_,rfl,b,cs.boo,dx,_,_,rfl,by rw [upd_ne obm]; exact ob,clB,naB _ (by simp),bkF_lets _ _ _ _ _,.inl ⟨rfl,_,SqL.of (by rw [upd_ne lam]; exact R.lets)⟩,_,rfl,Ad.la,_,_,rfl,rfl,by rw [upd_ne lam]; exact R.lets,?_,?_⟩
  ·rw [nV_length,List.length_map]
   exact Nat.lt_trans (by omega) line100000
  have kk : Kp [Ad.la,Ad.ma] H (upd (upd H Ad.ma (.dK (putK (nmK B.names) (Sum.inr (mkS x)) (V.int (i : Int))))) Ad.la (.lst (nV (B.ls.map (·.2))++[V.int (i : Int)]))) :=
   (Kp.refl.upd (.inl (by simp))).upd (.inl (by simp))
  have nd:=R.nd
  have nin : ∀ y ∈ Ad.pa::Ad.na::Ad.nds.map (·.2),y ∉ [Ad.la,Ad.ma]:=fun y hy z=>by
   simp only [List.mem_cons,List.not_mem_nil,or_false] at z
   rcases z with rfl | rfl
   ·unfold BkA.lists at nd
    simp only [List.nodup_cons,List.mem_cons,not_or] at nd hy
    rcases hy with e | e | e
    ·exact nd.1.2.1 e.symm
    ·exact nd.2.1.1 e.symm
    ·exact nd.2.2.1 e
   ·obtain ⟨xs,e⟩:=R.isLst (x:=Ad.ma) (by
     unfold BkA.lists
     simp only [List.mem_cons] at hy ⊢
     rcases hy with e | e | e
     ·exact .inl e
     ·exact .inr (.inl e)
     ·exact .inr (.inr (.inr e)))
    rw [R.names] at e; cases e
  refine kq _ ⟨⟨dx,kk _ _ ob ?_⟩,kk _ _ R.people (nin _ (by simp)),kk _ _ R.nodes (nin _ (by simp)),?_,?_,R.len,fun j y n e1 e2=>?_,R.nd⟩ kk
  ·simp only [List.mem_cons,List.not_mem_nil,or_false,not_or]
   exact ⟨insNe ob R.lets,obm⟩
  ·show upd _ _ _ Ad.la = _
   rw [upd_same,List.map_append]
   show some (HO.lst (nV (B.ls.map (·.2))++[V.int (i : Int)])) = some (HO.lst (nV (B.ls.map (·.2)++[i])))
   rw [nV_snoc]
  ·show upd _ _ _ Ad.ma = _
   rw [upd_ne lam.symm,upd_same]
   show some (HO.dK (putK (nmK B.names) (Sum.inr (mkS x)) (V.int (i : Int)))) = some (HO.dK (nmK (B.people.zipIdx++(B.ls++[(x,i)]))))
   rw [nmK_put hx]
   unfold Bk.names
   rw [List.append_assoc]
  ·obtain ⟨⟨dy,n1⟩,n2⟩:=R.at_ j y n e1 e2
   refine ⟨⟨dy,kk _ _ n1 ?_⟩,kk _ _ n2 (nin _ ?_)⟩
   ·simp only [List.mem_cons,List.not_mem_nil,or_false,not_or]
    exact ⟨insNe n1 R.lets,ne_of n1 R.names (by intro z; cases z)⟩
   ·have : y.2 ∈ Ad.nds.map (·.2):=List.mem_map.mpr ⟨y,List.mem_of_getElem? e1,rfl⟩
    simp [this]
end
end Pg
end
section
set_option linter.all false
set_option maxRecDepth 100000
set_option maxHeartbeats 4000000
namespace Pg
open PySem L2 Xc Sp Rb35
theorem Kp.into {G F : List Addr} {H0 H H' : Hp} (k0 : Kp G H0 H) (k : Kp F H H') (h : ∀ x ∈ F,x ∈ G∨H0 x = none) : Kp G H0 H':=fun c o q n =>
 k c o (k0 c o q n) fun z=>(h c z).elim n fun e=>by rw [q] at e; cases e
theorem BrkAt.keep {cs : Cs} {H H' : Hp} {a : BrA} {F : FraN} {Fs : List Addr} (R : BrkAt cs H a F) (k : Kp Fs H H') (h1 : a.ob ∉ Fs) (h2 : ∀ x ∈ a.lists,x ∉ Fs) : BrkAt cs H' a F:=by
 obtain ⟨dx,ob⟩:=R.ob
 exact ⟨⟨dx,k _ _ ob h1⟩,k _ _ R.fs (h2 _ (by simp [BrA.lists])),k _ _ R.bs (h2 _ (by simp [BrA.lists])),k _ _ R.ps (h2 _ (by simp [BrA.lists]))⟩
def obs (bas : List BrA) : List Addr:=bas.map BrA.ob
def lsts (bas : List BrA) : List Addr:=bas.flatMap BrA.lists
theorem lsts_cons (a : BrA) (r : List BrA) : lsts (a::r) = a.lists++lsts r:=List.flatMap_cons
theorem brk_keep {cs : Cs} {H H' : Hp} {Fs : List Addr} (k : Kp Fs H H') : ∀ {bas : List BrA} {st : List FraN},Paired (BrkAt cs H) bas st→(∀ x ∈ Fs,x ∉ obs bas∧x ∉ lsts bas)→Paired (BrkAt cs H') bas st
 | _,_,.nil,_=>.nil
 | a::bas,F::st,.cons r t,h=>.cons (r.keep k (fun z=>(h _ z).1 (by simp [obs])) fun x hx z=>(h _ z).2 (by rw [lsts_cons]; exact List.mem_append_left _ hx))
   (brk_keep k t fun x hx=>⟨fun z=>(h x hx).1 (by simp only [obs,List.map_cons,List.mem_cons]; exact .inr z),fun z=>(h x hx).2 (by rw [lsts_cons]; exact List.mem_append_right _ z)⟩)
theorem brk_ob {cs : Cs} {H : Hp} : ∀ {bas : List BrA} {st : List FraN},Paired (BrkAt cs H) bas st→∀ x ∈ obs bas,∃ dx fs,H x = some (.ins cs.bra dx fs)
 | _,_,.nil,x,hx=>by simp [obs] at hx
 | a::bas,F::st,.cons r t,x,hx=>by
  simp only [obs,List.map_cons,List.mem_cons] at hx
  rcases hx with rfl | hx
  ·obtain ⟨dx,ob⟩:=r.ob
   exact ⟨dx,_,ob⟩
  ·exact brk_ob t x hx
theorem brk_lst {cs : Cs} {H : Hp} : ∀ {bas : List BrA} {st : List FraN},Paired (BrkAt cs H) bas st→∀ x ∈ lsts bas,∃ xs,H x = some (.lst xs)
 | _,_,.nil,x,hx=>by simp [lsts] at hx
 | a::bas,F::st,.cons r t,x,hx=>by
  rw [lsts_cons] at hx
  rcases List.mem_append.mp hx with hx | hx
  ·simp only [BrA.lists,List.mem_cons,List.not_mem_nil,or_false] at hx
   rcases hx with rfl | rfl | rfl
   ·exact ⟨_,r.fs⟩
   ·exact ⟨_,r.bs⟩
   ·exact ⟨_,r.ps⟩
  ·exact brk_lst t x hx
structure Brs (cs : Cs) (H : Hp) (bl : Addr) (lo : List Addr) (bas : List BrA) (st : List FraN) (A : BkA) : Prop where
 lst : H bl = some (.lst (lo.map V.ref))
 at_ : Paired (BrkAt cs H) bas st
 nd : (bl::lsts bas).Nodup
 ap : ∀ x ∈ bl::lsts bas,x ∉ A.lists
 ob : (obs bas).Nodup
structure FSt (cs : Cs) (H0 H : Hp) (r lt : Addr) (as : List Addr) (T : List PT) (i : Nat) (b : Addr) (A : BkA) (p : Nat) (B : Bk) (ns : List NodeM) (bl : Addr) (lo : List Addr) (bas : List BrA) (st : List FraN) : Prop where
 tk0 : ToksAt cs H0 lt as T
 r0 : ∃ dx j,H0 r = some (.ins cs.rea dx (rdF lt j))
 na0 : ∃ xs,H0 A.na = some (.lst xs)
 ltna : lt ≠ A.na
 ob : ∃ dx,H r = some (.ins cs.rea dx (rdF lt (i : Int)))
 bk : BookAt cs H b A p { B with ns:=ns }
 br : Brs cs H bl lo bas st A
 kp : Kp [r,A.na] H0 H
 fr : ∀ x,x = bl∨x ∈ obs bas∨x ∈ lsts bas→H0 x = none
section
variable {cs : Cs} {H0 H H' H1 : Hp} {r lt b bl x : Addr} {as lo lo' : List Addr} {T : List PT} {i : Nat} {A A' : BkA} {p : Nat} {B : Bk} {ns ns' : List NodeM} {bas : List BrA} {st : List FraN} {a a' : BrA} {F F' : FraN}
theorem FSt.rd (S : FSt cs H0 H r lt as T i b A p B ns bl lo bas st) : ReadAt cs H r lt as T i:=by
 obtain ⟨dx,j,hr⟩:=S.r0
 obtain ⟨xs,hn⟩:=S.na0
 refine ⟨S.ob,S.kp _ _ S.tk0.lst ?_,S.tk0.len,fun k c t h1 h2=>?_⟩
 ·simp only [List.mem_cons,List.not_mem_nil,or_false,not_or]
  exact ⟨(insNe hr S.tk0.lst).symm,S.ltna⟩
 ·obtain ⟨dy,hc⟩:=S.tk0.at_ k c t h1 h2
  refine ⟨dy,S.kp _ _ hc ?_⟩
  simp only [List.mem_cons,List.not_mem_nil,or_false,not_or]
  refine ⟨ne_of hc hr ?_,insNe hc hn⟩
  intro z
  injection z with _ _ z
  exact absurd (congrArg List.length z) (by show ¬ 3 = 2; decide)
theorem FSt.free0 (S : FSt cs H0 H r lt as T i b A p B ns bl lo bas st) (h : H x = none) : H0 x = none:=by
 obtain ⟨dx,ob⟩:=S.ob
 refine S.kp.free (fun y hy=>?_) h
 simp only [List.mem_cons,List.not_mem_nil,or_false] at hy
 rcases hy with rfl | rfl
 ·rw [ob]; simp
 ·rw [S.bk.nodes]; simp
theorem FSt.rne (S : FSt cs H0 H r lt as T i b A p B ns bl lo bas st) (h : H0 x = none) : x ≠ r:=fun z=>by
 obtain ⟨dx,j,hr⟩:=S.r0
 rw [z,hr] at h; cases h
theorem FSt.moved (co : CsOk cs) (S : FSt cs H0 H r lt as T i b A p B ns bl lo bas st) (R : ReadAt cs H' r lt as T (i + 1)) (k : Kp [r] H H') : FSt cs H0 H' r lt as T (i + 1) b A p B ns bl lo bas st:=by
 obtain ⟨dx,ob⟩:=S.ob
 have nr : ∀ x,x = bl∨x ∈ obs bas∨x ∈ lsts bas→x ≠ r:=fun x hx=>S.rne (S.fr x hx)
 refine ⟨S.tk0,S.r0,S.na0,S.ltna,R.ob,S.bk.keep k fun x hx=>?_,⟨k _ _ S.br.lst (by simpa using nr bl (.inl rfl)),brk_keep k S.br.at_ fun x hx=>?_,S.br.nd,S.br.ap,S.br.ob⟩,S.kp.into k fun x hx=>?_,S.fr⟩
 ·simp only [List.mem_cons,List.not_mem_nil,or_false] at hx
  subst hx
  exact .inr ⟨_,_,_,ob,co.rb,co.rn⟩
 ·simp only [List.mem_cons,List.not_mem_nil,or_false] at hx
  subst hx
  exact ⟨fun z=>nr _ (.inr (.inl z)) rfl,fun z=>nr _ (.inr (.inr z)) rfl⟩
 ·simp only [List.mem_cons,List.not_mem_nil,or_false] at hx
  exact .inl (by simp [hx])
theorem FSt.relist (S : FSt cs H0 H r lt as T i b A p B ns bl lo bas st) (lo' : List Addr) : FSt cs H0 (upd H bl (.lst (lo'.map V.ref))) r lt as T i b A p B ns bl lo' bas st:=by
 obtain ⟨dx,ob⟩:=S.ob
 have k : Kp [bl] H (upd H bl (.lst (lo'.map V.ref))):=Kp.refl.upd (.inl (by simp))
 have nd:=S.br.nd
 refine ⟨S.tk0,S.r0,S.na0,S.ltna,⟨dx,k _ _ ob (by simpa using insNe ob S.br.lst)⟩,S.bk.keep k fun x hx=>?_,⟨upd_same,brk_keep k S.br.at_ fun x hx=>?_,S.br.nd,S.br.ap,S.br.ob⟩,S.kp.into k fun x hx=>?_,S.fr⟩
 ·simp only [List.mem_cons,List.not_mem_nil,or_false] at hx
  subst hx
  exact .inl ⟨_,S.br.lst,S.br.ap _ (by simp)⟩
 ·simp only [List.mem_cons,List.not_mem_nil,or_false] at hx
  subst hx
  refine ⟨fun z=>?_,(List.nodup_cons.mp nd).1⟩
  obtain ⟨dy,fs,e⟩:=brk_ob S.br.at_ _ z
  rw [S.br.lst] at e; cases e
 ·simp only [List.mem_cons,List.not_mem_nil,or_false] at hx
  subst hx
  exact .inr (S.fr _ (.inl rfl))
theorem FSt.same (S : FSt cs H0 H r lt as T i b A p B ns bl lo bas st) (s : Same H H1) : FSt cs H0 H1 r lt as T i b A p B ns bl lo bas st:=by
 obtain ⟨dx,ob⟩:=S.ob
 exact ⟨S.tk0,S.r0,S.na0,S.ltna,⟨dx,s _ _ ob⟩,S.bk.keep (Kp.same s []) (fun x hx=>by simp at hx),⟨s _ _ S.br.lst,brk_keep (Kp.same s []) S.br.at_ (fun x hx=>by simp at hx),S.br.nd,S.br.ap,S.br.ob⟩,
  S.kp.trans (Kp.same s _),S.fr⟩
theorem FSt.add (S : FSt cs H0 H r lt as T i b A p B ns bl lo bas st) (s : Same H H1) (br : BrkAt cs H1 a F) (h1 : H a.ob = none) (h2 : ∀ x ∈ a.lists,H x = none) (nd : a.lists.Nodup) : FSt cs H0 H1 r lt as T i b A p B ns bl lo (a::bas) (F::st):=by
 have S1:=S.same s
 have out : ∀ x ∈ a.lists,x ∉ bl::lsts bas:=fun x hx z=>by
  rcases List.mem_cons.mp z with rfl | z
  ·have:=h2 _ hx
   rw [S.br.lst] at this; cases this
  ·obtain ⟨xs,e⟩:=brk_lst S.br.at_ _ z
   have:=h2 _ hx
   rw [e] at this; cases this
 refine ⟨S1.tk0,S1.r0,S1.na0,S1.ltna,S1.ob,S1.bk,⟨S1.br.lst,.cons br S1.br.at_,?_,fun x hx=>?_,?_⟩,S1.kp,fun x hx=>?_⟩
 ·rw [lsts_cons]
  have h:=S.br.nd
  rw [List.nodup_cons] at h ⊢
  refine ⟨fun z=>?_,?_⟩
  ·rcases List.mem_append.mp z with z | z
   ·exact out _ z List.mem_cons_self
   ·exact h.1 z
  ·rw [List.nodup_append]
   exact ⟨nd,h.2,fun x hx y hy e=>out x hx (by rw [e]; exact List.mem_cons_of_mem _ hy)⟩
 ·rw [lsts_cons] at hx
  rcases List.mem_cons.mp hx with rfl | hx
  ·exact S.br.ap _ List.mem_cons_self
  ·rcases List.mem_append.mp hx with hx | hx
   ·intro z
    obtain ⟨xs,e⟩:=S.bk.isLst z
    rw [h2 _ hx] at e; cases e
   ·exact S.br.ap _ (List.mem_cons_of_mem _ hx)
 ·show (a.ob::obs bas).Nodup
  rw [List.nodup_cons]
  refine ⟨fun z=>?_,S.br.ob⟩
  obtain ⟨dy,fs,e⟩:=brk_ob S.br.at_ _ z
  rw [h1] at e; cases e
 ·rcases hx with rfl | hx | hx
  ·exact S.fr _ (.inl rfl)
  ·simp only [obs,List.map_cons,List.mem_cons] at hx
   rcases hx with rfl | hx
   ·exact S.free0 h1
   ·exact S.fr _ (.inr (.inl hx))
  ·rw [lsts_cons] at hx
   rcases List.mem_append.mp hx with hx | hx
   ·exact S.free0 (h2 _ hx)
   ·exact S.fr _ (.inr (.inr hx))
theorem FSt.head (S : FSt cs H0 H r lt as T i b A p B ns bl lo (a::bas) (F::st)) : BrkAt cs H a F∧Paired (BrkAt cs H) bas st:=by
 cases S.br.at_ with
 | cons x y=>exact ⟨x,y⟩
theorem FSt.facts (S : FSt cs H0 H r lt as T i b A p B ns bl lo (a::bas) (F::st)) : a.lists.Nodup∧(∀ x ∈ a.lists,x ∉ A.lists∧x ≠ bl∧x ∉ lsts bas∧x ∉ obs bas∧x ≠ a.ob)∧bl ∉ lsts bas∧a.ob ∉ obs bas∧a.ob ∉ lsts bas∧a.ob ≠ bl:=by
 have nd:=S.br.nd
 rw [lsts_cons,List.nodup_cons,List.nodup_append] at nd
 obtain ⟨n1,n2,n3,n4⟩:=nd
 have nob:=S.br.ob
 rw [show obs (a::bas) = a.ob::obs bas from rfl,List.nodup_cons] at nob
 obtain ⟨hd,tl⟩:=S.head
 obtain ⟨dx,ob⟩:=hd.ob
 have lsx : ∀ x ∈ a.lists,∃ xs,H x = some (.lst xs):=fun x hx=>brk_lst S.br.at_ x (by rw [lsts_cons]; exact List.mem_append_left _ hx)
 refine ⟨n2,fun x hx=>⟨S.br.ap x (List.mem_cons_of_mem _ (by rw [lsts_cons]; exact List.mem_append_left _ hx)),fun z=>n1 (by rw [← z]; exact List.mem_append_left _ hx),fun z=>n4 x hx x z rfl,fun z=>?_,fun z=>?_⟩,fun z=>n1 (List.mem_append_right _ z),nob.1,fun z=>?_,insNe ob S.br.lst⟩
 ·obtain ⟨xs,e⟩:=lsx x hx
  obtain ⟨dy,fs,e2⟩:=brk_ob tl _ z
  rw [e] at e2; cases e2
 ·obtain ⟨xs,e⟩:=lsx x hx
  rw [z,ob] at e; cases e
 ·obtain ⟨xs,e⟩:=brk_lst tl _ z
  rw [ob] at e; cases e
theorem FSt.naOut (S : FSt cs H0 H r lt as T i b A p B ns bl lo bas st) : A.na ≠ bl∧A.na ∉ obs bas∧A.na ∉ lsts bas:=by
 have hin : A.na ∈ A.lists:=by simp [BkA.lists]
 refine ⟨fun z=>S.br.ap bl List.mem_cons_self (by rw [← z]; exact hin),fun z=>?_,fun z=>S.br.ap _ (List.mem_cons_of_mem _ z) hin⟩
 obtain ⟨dy,fs,e⟩:=brk_ob S.br.at_ _ z
 rw [S.bk.nodes] at e; cases e
theorem FSt.swap {ws : List Addr} (S : FSt cs H0 H r lt as T i b A p B ns bl lo (a::bas) (F::st)) (ha : a'.ob = a.ob) (k : Kp [A.na,a.bl,a.fl,a.ob] H H') (br : BrkAt cs H' a' F') (bk : BookAt cs H' b A' p { B with ns:=ns' }) (g : Grow H A A' ws)
  (hw : ∀ x ∈ ws,x ∈ a.lists) (hl : ∀ x ∈ a'.lists,(x ∈ a.lists∧x ∉ ws)∨H x = none) (nd : a'.lists.Nodup) : FSt cs H0 H' r lt as T i b A' p B ns' bl lo (a'::bas) (F'::st):=by
 obtain ⟨dx,ob⟩:=S.ob
 obtain ⟨hd,tl⟩:=S.head
 obtain ⟨f1,f2,f3,f4,f5,f6⟩:=S.facts
 obtain ⟨m1,m2,m3⟩:=S.naOut
 have na':=g.na.1
 have mfl : a.fl ∈ a.lists:=by simp [BrA.lists]
 have mbl : a.bl ∈ a.lists:=by simp [BrA.lists]
 have frz : ∀ x ∈ [A.na,a.bl,a.fl,a.ob],x ∈ [r,A.na]∨H0 x = none:=fun x hx=>by
  simp only [List.mem_cons,List.not_mem_nil,or_false] at hx
  rcases hx with rfl | rfl | rfl | rfl
  ·exact .inl (by simp)
  ·exact .inr (S.fr _ (.inr (.inr (by rw [lsts_cons]; exact List.mem_append_left _ mbl))))
  ·exact .inr (S.fr _ (.inr (.inr (by rw [lsts_cons]; exact List.mem_append_left _ mfl))))
  ·exact .inr (S.fr _ (.inr (.inl (by simp [obs]))))
 have rout : r ∉ [A.na,a.bl,a.fl,a.ob]:=fun hx=>by
  have h:=frz r hx
  obtain ⟨dz,j,hr⟩:=S.r0
  simp only [List.mem_cons,List.not_mem_nil,or_false] at hx
  rcases hx with e | e | e | e
  ·exact insNe ob S.bk.nodes e
  ·exact insNe ob hd.bs e
  ·exact insNe ob hd.fs e
  ·exact S.rne (S.fr a.ob (.inr (.inl (by simp [obs])))) e.symm
 have blout : bl ∉ [A.na,a.bl,a.fl,a.ob]:=by
  simp only [List.mem_cons,List.not_mem_nil,or_false,not_or]
  exact ⟨m1.symm,(f2 _ mbl).2.1.symm,(f2 _ mfl).2.1.symm,f6.symm⟩
 have xsome : ∀ x,x ∈ bl::lsts (a::bas)→H x ≠ none:=fun x hx=>by
  rcases List.mem_cons.mp hx with rfl | hx
  ·rw [S.br.lst]; simp
  ·obtain ⟨xs,e⟩:=brk_lst S.br.at_ _ hx
   rw [e]; simp
 have tlk : Paired (BrkAt cs H') bas st:=brk_keep k tl fun x hx=>by
  simp only [List.mem_cons,List.not_mem_nil,or_false] at hx
  rcases hx with rfl | rfl | rfl | rfl
  ·exact ⟨fun z=>m2 (by simp only [obs,List.map_cons,List.mem_cons]; exact .inr z),fun z=>m3 (by rw [lsts_cons]; exact List.mem_append_right _ z)⟩
  ·exact ⟨(f2 _ mbl).2.2.2.1,(f2 _ mbl).2.2.1⟩
  ·exact ⟨(f2 _ mfl).2.2.2.1,(f2 _ mfl).2.2.1⟩
  ·exact ⟨f4,f5⟩
 have oldLst : ∀ x ∈ A.lists,H x ≠ none:=fun x hx=>by obtain ⟨xs,e⟩:=S.bk.isLst hx; rw [e]; simp
 refine ⟨S.tk0,S.r0,by rw [na']; exact S.na0,by rw [na']; exact S.ltna,⟨dx,k _ _ ob rout⟩,bk,⟨k _ _ S.br.lst blout,.cons br tlk,?_,fun x hx=>?_,?_⟩,by rw [na']; exact S.kp.into k frz,fun x hx=>?_⟩
 ·rw [lsts_cons,List.nodup_cons,List.nodup_append]
  have nd0:=S.br.nd
  rw [lsts_cons,List.nodup_cons,List.nodup_append] at nd0
  refine ⟨fun z=>?_,nd,nd0.2.2.1,fun x hx y hy e=>?_⟩
  ·rcases List.mem_append.mp z with z | z
   ·rcases hl _ z with ⟨q,_⟩ | q
    ·exact nd0.1 (List.mem_append_left _ q)
    ·exact xsome bl List.mem_cons_self q
   ·exact nd0.1 (List.mem_append_right _ z)
  ·subst e
   rcases hl _ hx with ⟨q,_⟩ | q
   ·exact nd0.2.2.2 x q x hy rfl
   ·exact xsome x (by rw [lsts_cons]; exact List.mem_cons_of_mem _ (List.mem_append_right _ hy)) q
 ·rw [g.lists]
  intro z
  rw [lsts_cons] at hx
  have cases3 : x = bl∨x ∈ a'.lists∨x ∈ lsts bas:=by
   rcases List.mem_cons.mp hx with e | hx
   ·exact .inl e
   ·rcases List.mem_append.mp hx with q | q
    ·exact .inr (.inl q)
    ·exact .inr (.inr q)
  rcases List.mem_append.mp z with z | z
  ·rcases cases3 with rfl | q | q
   ·exact S.br.ap _ List.mem_cons_self z
   ·rcases hl _ q with ⟨q,_⟩ | q
    ·exact (f2 _ q).1 z
    ·exact oldLst _ z q
   ·exact S.br.ap _ (by rw [lsts_cons]; exact List.mem_cons_of_mem _ (List.mem_append_right _ q)) z
  ·have za:=hw _ z
   rcases cases3 with rfl | q | q
   ·exact (f2 _ za).2.1 rfl
   ·rcases hl _ q with ⟨_,q⟩ | q
    ·exact q z
    ·exact xsome _ (by rw [lsts_cons]; exact List.mem_cons_of_mem _ (List.mem_append_left _ za)) q
   ·exact (f2 _ za).2.2.1 q
 ·show (a'.ob::obs bas).Nodup
  rw [ha]
  exact S.br.ob
 ·rcases hx with rfl | hx | hx
  ·exact S.fr _ (.inl rfl)
  ·have : obs (a'::bas) = obs (a::bas):=by simp only [obs,List.map_cons,ha]
   rw [this] at hx
   exact S.fr _ (.inr (.inl hx))
  ·rw [lsts_cons] at hx
   rcases List.mem_append.mp hx with hx | hx
   ·rcases hl _ hx with ⟨q,_⟩ | q
    ·exact S.fr _ (.inr (.inr (by rw [lsts_cons]; exact List.mem_append_left _ q)))
    ·exact S.free0 q
   ·exact S.fr _ (.inr (.inr (by rw [lsts_cons]; exact List.mem_append_right _ hx)))
theorem FSt.gone {ws : List Addr} (S : FSt cs H0 H r lt as T i b A p B ns bl lo (a::bas) (F::st)) (k : Kp [A.na] H H') (bk : BookAt cs H' b A' p { B with ns:=ns' }) (g : Grow H A A' ws) (hw : ∀ x ∈ ws,x = a.fl) : FSt cs H0 H' r lt as T i b A' p B ns' bl lo bas st:=by
 obtain ⟨dx,ob⟩:=S.ob
 obtain ⟨hd,tl⟩:=S.head
 obtain ⟨f1,f2,f3,f4,f5,f6⟩:=S.facts
 obtain ⟨m1,m2,m3⟩:=S.naOut
 have na':=g.na.1
 have mfl : a.fl ∈ a.lists:=by simp [BrA.lists]
 have nd0:=S.br.nd
 rw [lsts_cons,List.nodup_cons,List.nodup_append] at nd0
 refine ⟨S.tk0,S.r0,by rw [na']; exact S.na0,by rw [na']; exact S.ltna,⟨dx,k _ _ ob (by simpa using insNe ob S.bk.nodes)⟩,bk,⟨k _ _ S.br.lst (by simpa using m1.symm),brk_keep k tl fun x hx=>?_,?_,fun x hx=>?_,?_⟩,by rw [na']; exact S.kp.into k fun x hx=>.inl (by simp at hx; simp [hx]),fun x hx=>S.fr x ?_⟩
 ·simp only [List.mem_cons,List.not_mem_nil,or_false] at hx
  subst hx
  exact ⟨fun z=>m2 (by simp only [obs,List.map_cons,List.mem_cons]; exact .inr z),fun z=>m3 (by rw [lsts_cons]; exact List.mem_append_right _ z)⟩
 ·exact List.nodup_cons.mpr ⟨fun z=>nd0.1 (List.mem_append_right _ z),nd0.2.2.1⟩
 ·rw [g.lists]
  intro z
  have hx' : x ∈ bl::lsts (a::bas):=by
   rw [lsts_cons]
   rcases List.mem_cons.mp hx with rfl | hx
   ·exact List.mem_cons_self
   ·exact List.mem_cons_of_mem _ (List.mem_append_right _ hx)
  rcases List.mem_append.mp z with z | z
  ·exact S.br.ap _ hx' z
  ·have e:=hw _ z
   subst e
   rcases List.mem_cons.mp hx with e | hx
   ·exact (f2 _ mfl).2.1 e
   ·exact (f2 _ mfl).2.2.1 hx
 ·have:=S.br.ob
  rw [show obs (a::bas) = a.ob::obs bas from rfl] at this
  exact (List.nodup_cons.mp this).2
 ·rcases hx with hx | hx | hx
  ·exact .inl hx
  ·exact .inr (.inl (by simp only [obs,List.map_cons,List.mem_cons]; exact .inr hx))
  ·exact .inr (.inr (by rw [lsts_cons]; exact List.mem_append_right _ hx))
theorem FSt.part (S : FSt cs H0 H r lt as T i b A p B ns bl lo (a::bas) (F::st)) (x : Nat) : FSt cs H0 (upd H a.pl (.lst (nV F.ps++[V.int (x : Int)]))) r lt as T i b A p B ns bl lo (a::bas) ({ F with ps:=F.ps++[x] }::st):=by
 obtain ⟨dx,ob⟩:=S.ob
 obtain ⟨hd,tl⟩:=S.head
 obtain ⟨f1,f2,f3,f4,f5,f6⟩:=S.facts
 obtain ⟨dh,hob⟩:=hd.ob
 have mpl : a.pl ∈ a.lists:=by simp [BrA.lists]
 have k : Kp [a.pl] H (upd H a.pl (.lst (nV F.ps++[V.int (x : Int)]))):=Kp.refl.upd (.inl (by simp))
 unfold BrA.lists at f1
 simp only [List.nodup_cons,List.mem_cons,List.not_mem_nil,or_false,not_or] at f1
 refine ⟨S.tk0,S.r0,S.na0,S.ltna,⟨dx,k _ _ ob (by simpa using insNe ob hd.ps)⟩,S.bk.keep k fun y hy=>?_,⟨k _ _ S.br.lst (by simpa using (f2 _ mpl).2.1.symm),.cons ⟨⟨dh,k _ _ hob (by simpa using insNe hob hd.ps)⟩,k _ _ hd.fs (by simpa using f1.1.2),k _ _ hd.bs (by simpa using f1.2.1),?_⟩ (brk_keep k tl fun y hy=>?_),S.br.nd,S.br.ap,S.br.ob⟩,S.kp.into k fun y hy=>?_,S.fr⟩
 ·simp only [List.mem_cons,List.not_mem_nil,or_false] at hy
  subst hy
  exact .inl ⟨_,hd.ps,(f2 _ mpl).1⟩
 ·rw [upd_same,nV_snoc]
 ·simp only [List.mem_cons,List.not_mem_nil,or_false] at hy
  subst hy
  exact ⟨(f2 _ mpl).2.2.2.1,(f2 _ mpl).2.2.1⟩
 ·simp only [List.mem_cons,List.not_mem_nil,or_false] at hy
  subst hy
  exact .inr (S.fr _ (.inr (.inr (by rw [lsts_cons]; exact List.mem_append_left _ mpl))))
structure Fw (ns : List NodeM) (st : List FraN) (n : Nat) : Prop where
 le : ns.length + (st.flatMap FraN.all).length≤n
 wi : ∀ x ∈ ns,x.2.length≤50000
 dp : st.length≤n + 1
theorem Fw.mono {n m : Nat} (f : Fw ns st n) (h : n≤m) : Fw ns st m:=⟨Nat.le_trans f.le h,f.wi,Nat.le_trans f.dp (Nat.add_le_add_right h 1)⟩
theorem FSt.pair {n : Nat} (S : FSt cs H0 H r lt as T i b A p B ns bl lo (a::bas) (F::st)) (f : Fw ns (F::st) n) (hn : n < 50000) : Pair cs H a F b A p { B with ns:=ns }:=by
 have h:=f.le
 rw [List.flatMap_cons,List.length_append] at h
 exact ⟨S.head.1,S.bk,S.facts.1,fun x hx=>(S.facts.2.1 x hx).1,by omega,by show ns.length < 50000; omega⟩
theorem all_len (F : FraN) : F.all.length = F.fs.length + (F.bs.length + F.ps.length):=by unfold FraN.all; rw [List.length_append,List.length_append]
theorem joinNs_wi {k : Nat} {w : List Nat} (h : ∀ x ∈ ns,x.2.length≤50000) (hw : w.length≤50000) : ∀ x ∈ joinNs ns k w,x.2.length≤50000:=by
 unfold joinNs
 split
 ·exact h
 ·intro x hx
  rcases List.mem_append.mp hx with q | q
  ·exact h x q
  ·simp at q; subst q; exact hw
theorem Fw.part {n : Nat} (f : Fw ns (F::st) n) (x : Nat) : Fw ns ({ F with ps:=F.ps++[x] }::st) (n + 1):=by
 refine ⟨?_,f.wi,Nat.le_succ_of_le f.dp⟩
 have h:=f.le
 rw [List.flatMap_cons,List.length_append,all_len] at h ⊢
 show ns.length + (F.fs.length + (F.bs.length + (F.ps++[x]).length) + _)≤_
 rw [List.length_append,List.length_singleton]
 omega
theorem Fw.eb {n P : Nat} (f : Fw ns (F::st) n) (hp : F.ps ≠ []) (hn : n < 50000) : Fw (ebNs ns F) (ebFra P ns F::st) (n + 1):=by
 have h:=f.le
 have hl:=ebNs_len ns F
 have hps : 1≤F.ps.length:=by cases q : F.ps with
  | nil=>exact absurd q hp
  | cons a r=>simp
 rw [List.flatMap_cons,List.length_append,all_len] at h
 refine ⟨?_,joinNs_wi f.wi (by omega),Nat.le_succ_of_le f.dp⟩
 rw [List.flatMap_cons,List.length_append,all_len]
 show (ebNs ns F).length + (F.fs.length + ((F.bs++[joinAt P ns F.ps]).length + 0) + _)≤_
 rw [List.length_append,List.length_singleton]
 omega
theorem Fw.ef {n P : Nat} (f : Fw ns (F::st) n) (hp : F.ps ≠ []) (hn : n < 49999) : Fw (efNs P ns F) (efFra P ns F::st) (n + 2):=by
 have f1:=f.eb (P:=P) hp (by omega)
 have h:=f.le
 have hl:=efNs_len P ns F
 have hps : 1≤F.ps.length:=by cases q : F.ps with
  | nil=>exact absurd q hp
  | cons a r=>simp
 rw [List.flatMap_cons,List.length_append,all_len] at h
 refine ⟨?_,joinNs_wi f1.wi ?_,Nat.le_trans f.dp (by omega)⟩
 ·rw [List.flatMap_cons,List.length_append,all_len]
  show (efNs P ns F).length + ((F.fs++[efAt P ns F]).length + (0 + 0) + _)≤_
  rw [List.length_append,List.length_singleton]
  omega
 ·show (F.bs++[joinAt P ns F.ps]).length≤_
  rw [List.length_append,List.length_singleton]
  omega
theorem Fw.cl {n P : Nat} {G : FraN} (f : Fw ns (F::G::st) n) (h1 : 1≤F.fs.length) (hn : n < 50000) : Fw (clNs ns F) ({ G with ps:=G.ps++[x] }::st) (n + 1):=by
 have h:=f.le
 rw [List.flatMap_cons,List.flatMap_cons,List.length_append,List.length_append,all_len,all_len] at h
 have hc : (clNs ns F).length≤ns.length + 1:=by
  unfold clNs
  split
  ·omega
  ·simp
 have hdp : (G::st).length + 1≤n + 1:=f.dp
 refine ⟨?_,?_,by show (G::st).length≤_; omega⟩
 ·rw [List.flatMap_cons,List.length_append,all_len]
  show (clNs ns F).length + (G.fs.length + (G.bs.length + (G.ps++[x]).length) + _)≤_
  rw [List.length_append,List.length_singleton]
  omega
 ·unfold clNs
  split
  ·exact f.wi
  ·intro y hy
   rcases List.mem_append.mp hy with q | q
   ·exact f.wi y q
   ·simp at q; subst q; show F.fs.length≤50000; omega
end
end Pg
end
section
set_option linter.all false
set_option maxRecDepth 100000
set_option maxHeartbeats 4000000
namespace Pg
open PySem L2 Xc Sp
def spField : Sp:=fun vs H Q _=>∃ n : Nat,vs = [.int n]∧n≤99999∧∀ H',Same H H'→Q (.bl (decide (n≤251) && Rb35.prime n)) H'
def divs (n i : Nat) : List Bool:=(List.range i).map fun (d : Nat)=>!decide (V.int ((n : Int) % (2 + (d : Int))) = V.int 0)
theorem divs_succ (n i : Nat) : divs n (i + 1) = divs n i++[!decide (V.int ((n : Int) % (2 + (i : Int))) = V.int 0)]:=by
 unfold divs
 rw [List.range_succ,List.map_append]
 rfl
theorem vint_eq (a b : Int) : decide (V.int a = V.int b) = decide (a = b):=by
 by_cases h : a = b
 ·subst h; simp
 ·rw [decide_eq_false h,decide_eq_false fun z=>h (by injection z)]
theorem divs_prime (n : Nat) (h : 2≤n) : (divs n (n - 2)).all id = Rb35.prime n:=by
 unfold divs Rb35.prime
 rw [decide_eq_true h,Bool.true_and,Bool.eq_iff_iff,List.all_eq_true,List.all_eq_true]
 constructor
 ·intro hh d hd
  rw [List.mem_range] at hd
  by_cases h2 : d < 2
  ·simp [h2]
  ·have:=hh _ (List.mem_map.mpr ⟨d - 2,List.mem_range.mpr (by omega),rfl⟩)
   rw [vint_eq] at this
   have e : (2 + ((d - 2 : Nat) : Int)) = (d : Int):=by omega
   rw [e] at this
   simp only [id,Bool.not_eq_true',decide_eq_false_iff_not] at this
   have h3 : ¬ n % d = 0:=fun z=>this (by omega)
   simp [h3]
 ·intro hh x hx
  obtain ⟨d,hd,rfl⟩:=List.mem_map.mp hx
  rw [List.mem_range] at hd
  have:=hh (d + 2) (List.mem_range.mpr (by omega))
  rw [vint_eq]
  have h2 : ¬ d + 2 < 2:=by omega
  simp only [h2,decide_false,Bool.false_or,bne_iff_ne,ne_eq] at this
  have e : (2 + (d : Int)) = ((d + 2 : Nat) : Int):=by omega
  rw [e]
  simp only [id,Bool.not_eq_true',decide_eq_false_iff_not]
  exact fun z=>this (by omega)
section
variable {P : Program} {w : World} {K : PySem.W.Frag} {mg : Str→Option Value} {base : Heap} {cs : Cs}
theorem sc_field : FnScope ["number","factor"] ["number"] (defScope st_is_field):=⟨rfl,rfl,rfl,by decide +kernel,rfl,by decide +kernel,by decide +kernel⟩
theorem ok_field (T : FunT K mg "is_field" st_is_field) (hG : ∃ t,mg "GREATEST_PRIME" = some (.int 251 t)) (hall : mg "all" = none) (hrange : mg "range" = none) : DefOk P w K mg base 2 "is_field" ["number"] spField:=by
 obtain ⟨f,fd,F,hm⟩:=T.ex
 obtain ⟨tg,hG⟩:=hG
 refine ⟨f,fd,hm,F.kp,F.binds (fun _ _ _ _ _ _ us hl=>match us,hl with | [_],_=>rfl),okN (k:=1) F sc_field (fun vs H Q E h=>?_) (fun cdv A outer s H vs Q E hr h=>?_)⟩
 ·obtain ⟨n,rfl,_⟩:=h
  rfl
 ·obtain ⟨n,rfl,hn,kq⟩:=h
  refine ⟨_,pss_cons (ps_if (pw_or (pt_cmpR op_lt (pv 0) pe_int (nomark _)) (pw_or1 (pt_cmpR op_gt (pv 0) (pe_glob (v:=.int 251) (by rfl) hG ⟨tg,rfl⟩) (nomark _)))).pt (pss_one (ps_ret pe_bl)) pss_nil)
   (pss_one (ps_ret (pe_callB (cr_all rfl) (by rfl) hall PyProof.Rows.boot_all (pa_cons (pe_lc rfl sc_field.nd (pi_range2 rfl hrange (pa_cons pe_int (pa_cons (pv 0) pa_nil))) (blkOk_by (own:=[("factor",1)]) (by show blkC ["number","factor"] (defScope st_is_field) _ [("factor",1)] = true; decide +kernel))
    (fun _ _ _ _ _=>pg_name (i:=1) sc_field.nd rfl (Or.inl rfl)) (fun _ _ _ _ _=>pts_nil) (fun _ _ _ _ _=>pe_cmpR op_ne (pe_op op_mod (pv 0) (pv 1)) pe_int (nomark _))) pa_nil)))),?_⟩
  have rest : 2≤n→n≤251→∀ (D : Addr),H D = none→Q (.bl ((divs n (n - 2)).all id)) (upd H D (.lst ((divs n (n - 2)).map V.bl))):=fun h1 h2 D hD=>by
   rw [divs_prime n h1]
   have:=kq (upd H D (.lst ((divs n (n - 2)).map V.bl))) fun c o q=>by rw [upd_ne (ne_of_none q hD)]; exact q
   rwa [decide_eq_true h2,Bool.true_and] at this
  have no : ¬ (2≤n∧n≤251)→Q (.bl false) H:=fun hh=>by
   have:=kq H (Same.refl H)
   have e : (decide (n≤251) && Rb35.prime n) = false:=by
    by_cases h1 : n≤251
    ·have h2 : ¬ 2≤n:=fun z=>hh ⟨z,h1⟩
     unfold Rb35.prime
     rw [decide_eq_false h2]
     simp
    ·rw [decide_eq_false h1]; rfl
   rwa [e] at this
  refine ⟨_,rfl,_,_,rfl,rfl,_,rfl,ite2 (fun hc=>?_) fun hc=>?_⟩
  ·refine iteT ?_
   have h1:=of_decide_eq_true hc
   exact no fun z=>by omega
  ·have h1 : ¬ (n : Int) < 2:=fun z=>hc (decide_eq_true z)
   refine ⟨_,rfl,_,_,rfl,rfl,_,rfl,ite2 (fun hc2=>?_) fun hc2=>?_⟩
   ·have h2:=of_decide_eq_true hc2
    exact no fun z=>by omega
   ·have h2 : ¬ (251 : Int) < (n : Int):=fun z=>hc2 (decide_eq_true z)
    refine ⟨_,rfl,2,(n : Int),rfl,⟨by decide,by decide,by omega,by omega⟩,fun D hD=>?_⟩
    have en : ((n : Int) - 2).toNat = n - 2:=by omega
    refine lc_range (fun i H'=>H' = upd H D (.lst ((divs n i).map V.bl))) rfl ?_ ?_
    ·rintro i H' hi rfl
     refine ⟨rfl,?_⟩
     refine ⟨_,rfl,_,rfl,_,_,rfl,rfl,(by show (0 : Int) < 2 + (i : Int); omega),rfl,?_⟩
     refine ⟨_,upd_same,?_,?_⟩
     ·rw [List.length_map]
      unfold divs
      rw [List.length_map,List.length_range]
      exact Nat.lt_trans (show i < 100000 by omega) line100000
     ·rw [upd_upd,divs_succ,List.map_append]
      rfl
    ·rintro H' rfl
     rw [en]
     exact ⟨D,_,rfl,SqL.of upd_same,rest (by omega) (by omega) D hD⟩
end
end Pg
end
section
set_option linter.all false
set_option maxRecDepth 100000
set_option maxHeartbeats 4000000
namespace Pg
open PySem L2 Xc Sp Rb35
theorem val_eq : ∀ (l : List Nat) (a : Nat),l.foldl (fun acc c=>acc * 10 + (c - 48)) a = l.foldl (fun (n c : Nat)=>10 * n + (c - 48)) a
 | [],_=>rfl
 | c::r,a=>by
  rw [List.foldl_cons,List.foldl_cons,val_eq r,Nat.mul_comm]
theorem val_lt : ∀ (l : List Nat) (a : Nat),(∀ c ∈ l,isDigit c = true)→l.foldl (fun (n c : Nat)=>10 * n + (c - 48)) a < (a + 1) * 10 ^ l.length
 | [],a,_=>by simp
 | c::r,a,h=>by
  rw [List.foldl_cons]
  have h1:=val_lt r (10 * a + (c - 48)) fun x hx=>h x (List.mem_cons_of_mem _ hx)
  have h2:=h c List.mem_cons_self
  simp [isDigit] at h2
  refine Nat.lt_of_lt_of_le h1 ?_
  rw [List.length_cons,Nat.pow_succ,Nat.mul_comm (10 ^ r.length) 10,← Nat.mul_assoc]
  exact Nat.mul_le_mul_right _ (by omega)
theorem value_lt {l : List Nat} (h : ∀ c ∈ l,isDigit c = true) (hl : l.length≤5) : valueOf l≤99999:=by
 have:=val_lt l 0 h
 have h2 : 10 ^ l.length≤10 ^ 5:=Nat.pow_le_pow_right (by decide) hl
 unfold valueOf
 omega
theorem int_word {l : List Nat} (h : ∀ c ∈ l,isDigit c = true) (hl : l.length≤5) (hn : l ≠ []) : intText? (mkS l) = some ((valueOf l : Nat) : Int):=by
 have e:=PySem.intText_digits (x:=mkS l) (fun c hc=>by
  have:=h c hc
  simp [isDigit] at this
  exact this) hn (by show l.toArray.size≤4300; rw [List.size_toArray]; omega)
 rw [e]
 show some (((l.foldl (fun acc c=>acc * 10 + (c - 48)) 0 : Nat)) : Int) = _
 rw [val_eq]
 rfl
theorem ReadAt.same {cs : Cs} {H H' : Hp} {r lt : Addr} {as : List Addr} {T : List PT} {i : Nat} (R : ReadAt cs H r lt as T i) (s : Same H H') : ReadAt cs H' r lt as T i:=by
 obtain ⟨dx,ob⟩:=R.ob
 refine ⟨⟨dx,s _ _ ob⟩,s _ _ R.tk.lst,R.tk.len,fun j a t h1 h2=>?_⟩
 obtain ⟨dy,h⟩:=R.tk.at_ j a t h1 h2
 exact ⟨dy,s _ _ h⟩
theorem Kp.ofSame {F : List Addr} {H H1 H2 : Hp} (s : Same H H1) (k : Kp F H1 H2) : Kp F H H2:=fun b o h n=>k b o (s b o h) n
def spPrime (cs : Cs) : Sp:=fun vs H Q E=>∃ (r lt : Addr) (as : List Addr) (T : List PT) (i : Nat) (t : PT),vs = [.ref r]∧ReadAt cs H r lt as T i∧TOk T∧T[i]? = some t ∧
 (kindS t.1 = "number"∧(decide (valueOf t.1≤251) && prime (valueOf t.1)) = true→∀ H',ReadAt cs H' r lt as T (i + 1)→Kp [r] H H'→Q (.int ((valueOf t.1 : Nat) : Int)) H') ∧
 (¬ (kindS t.1 = "number"∧(decide (valueOf t.1≤251) && prime (valueOf t.1)) = true)→Thr E cs.cst (-100 - (t.2 : Int)))
def spAsked (cs : Cs) : Sp:=fun vs H Q E=>∃ (r lt : Addr) (as : List Addr) (T : List PT) (i : Nat) (t : PT),vs = [.ref r]∧ReadAt cs H r lt as T i∧TOk T∧T[i]? = some t ∧
 (kindS t.1 = "number"∧valueOf t.1 ≠ 0→∀ H',ReadAt cs H' r lt as T (i + 1)→Kp [r] H H'→Q (.int ((valueOf t.1 : Nat) : Int)) H') ∧
 (¬ (kindS t.1 = "number"∧valueOf t.1 ≠ 0)→Thr E cs.cst (-100 - (t.2 : Int)))
section
variable {P : Program} {w : World} {K : PySem.W.Frag} {mg : Str→Option Value} {base : Heap} {cs : Cs}
theorem sc_prime : FnScope ["self","token"] ["self"] (defScope st_Reader_take_prime):=⟨rfl,rfl,rfl,by decide +kernel,rfl,by decide +kernel,by decide +kernel⟩
theorem ok_prime (T : MetT K cs.rea "take_prime" "Reader.take_prime" st_Reader_take_prime) (cl : Cls K cs.rea) (clT : Cls K cs.tok) (naT : NoAt K cs.tok ["kind","word","place"]) (hN : ∃ t,mg "NUMBER" = some (.str "number" t)) (hint : mg "int" = none)
  (NW : MetOk P w K mg base 1 cs.rea "now" ["self"] (spNow cs)) (TK : MetOk P w K mg base 4 cs.rea "take" ["self","stands"] (spTake cs)) (FI : DefOk P w K mg base 2 "is_field" ["number"] spField) : MetOk P w K mg base 5 cs.rea "take_prime" ["self"] (spPrime cs):=by
 obtain ⟨f,fd,F,M⟩:=T.ex
 obtain ⟨tn,hN⟩:=hN
 refine ⟨f,fd,M,F.binds (fun _ _ _ _ _ _ us hl=>match us,hl with | [_],_=>rfl),okX F sc_prime (fun vs H Q E h=>?_) (fun cdv A outer s H vs Q E hr h=>?_)⟩
 ·obtain ⟨r,lt,as,T,i,t,rfl,_⟩:=h
  rfl
 ·obtain ⟨r,lt,as,T,i,t,rfl,R,ok,ht,kq,kx⟩:=h
  obtain ⟨dx,ob⟩:=R.ob
  refine ⟨_,pss_cons (ps_set (i:=1) sc_prime.nd rfl (Or.inl rfl) (pe_met0 (pv 0) cl (NW.mono (by decide : 1≤4)) hr pass_no))
   (pss_one (ps_ret (pe_callTy call_int_str (by rfl) hint PyProof.Rows.boot_int (pa_cons (pe_met (pv 0) cl TK hr pass_on (pa_cons (pe_and (pe_cmpR op_eq (pe_fld (pv 1) rfl) (pe_glob (v:=.str "number") rfl hN ⟨tn,rfl⟩) (nomark _))
    (pe_one (pe_def (FI.mono (by decide : 2≤4)) hr rfl pass_no (pa_cons (pe_callTy call_int_str (by rfl) hint PyProof.Rows.boot_int (pa_cons (pe_fld (pv 1) rfl) pa_nil)) pa_nil)))) pa_nil)) pa_nil)))),?_⟩
  refine ⟨_,rfl,r,dx,_,rfl,ob,rdF_no _ _ (by decide +kernel) (by decide +kernel),r,lt,as,T,i,t,rfl,R,ht,fun a ta=>?_⟩
  obtain ⟨dt,hta⟩:=id ta
  refine ⟨_,rfl,r,dx,_,rfl,ob,rdF_no _ _ (by decide +kernel) (by decide +kernel),?_⟩
  refine ⟨_,rfl,a,cs.tok,dt,_,_,rfl,hta,clT,naT _ (by simp),tokG_kind _ _ _,rfl,_,rfl,ite2 (fun hc=>?_) fun hc=>?_⟩
  ·have hk : kindS t.1 = "number":=by
    have:=of_decide_eq_true hc
    injection this
   have hd:=ok.dig t (List.mem_of_getElem? ht) hk
   have hl:=(kind_num hk).2
   have hne : t.1 ≠ []:=fun z=>by rw [z] at hk; exact absurd hk (by decide +kernel)
   have hiw:=int_word hd hl hne
   have hsz : (mkS t.1).length≤640:=by show t.1.toArray.size≤640; rw [List.size_toArray]; omega
   refine ⟨_,rfl,a,cs.tok,dt,_,_,rfl,hta,clT,naT _ (by simp),tokG_word _ _ _,_,_,rfl,hiw,hsz,?_⟩
   refine ⟨valueOf t.1,rfl,value_lt hd hl,fun H1 s1=>?_⟩
   refine ⟨r,lt,as,T,i,t,_,rfl,R.same s1,ht,fun h2 H2 R2 k2=>?_,fun h2=>kx fun z=>?_⟩
   ·exact ⟨_,_,rfl,hiw,hsz,kq ⟨hk,h2⟩ H2 R2 (Kp.ofSame s1 k2)⟩
   ·rw [z.2] at h2
    cases h2
  ·refine ⟨r,lt,as,T,i,t,_,rfl,R,ht,fun h2=>absurd h2 Bool.false_ne_true,fun h2=>kx fun z=>hc (decide_eq_true (by rw [z.1]))⟩
theorem sc_asked : FnScope ["self","token"] ["self"] (defScope st_Reader_take_asked):=⟨rfl,rfl,rfl,by decide +kernel,rfl,by decide +kernel,by decide +kernel⟩
theorem ok_asked (T : MetT K cs.rea "take_asked" "Reader.take_asked" st_Reader_take_asked) (cl : Cls K cs.rea) (clT : Cls K cs.tok) (naT : NoAt K cs.tok ["kind","word","place"]) (hN : ∃ t,mg "NUMBER" = some (.str "number" t)) (hint : mg "int" = none)
  (NW : MetOk P w K mg base 1 cs.rea "now" ["self"] (spNow cs)) (TK : MetOk P w K mg base 4 cs.rea "take" ["self","stands"] (spTake cs)) : MetOk P w K mg base 5 cs.rea "take_asked" ["self"] (spAsked cs):=by
 obtain ⟨f,fd,F,M⟩:=T.ex
 obtain ⟨tn,hN⟩:=hN
 refine ⟨f,fd,M,F.binds (fun _ _ _ _ _ _ us hl=>match us,hl with | [_],_=>rfl),okX F sc_asked (fun vs H Q E h=>?_) (fun cdv A outer s H vs Q E hr h=>?_)⟩
 ·obtain ⟨r,lt,as,T,i,t,rfl,_⟩:=h
  rfl
 ·obtain ⟨r,lt,as,T,i,t,rfl,R,ok,ht,kq,kx⟩:=h
  obtain ⟨dx,ob⟩:=R.ob
  refine ⟨_,pss_cons (ps_set (i:=1) sc_asked.nd rfl (Or.inl rfl) (pe_met0 (pv 0) cl (NW.mono (by decide : 1≤4)) hr pass_no))
   (pss_one (ps_ret (pe_callTy call_int_str (by rfl) hint PyProof.Rows.boot_int (pa_cons (pe_met (pv 0) cl TK hr pass_on (pa_cons (pe_and (pe_cmpR op_eq (pe_fld (pv 1) rfl) (pe_glob (v:=.str "number") rfl hN ⟨tn,rfl⟩) (nomark _))
    (pe_one (pe_cmpR op_ge (pe_callTy call_int_str (by rfl) hint PyProof.Rows.boot_int (pa_cons (pe_fld (pv 1) rfl) pa_nil)) pe_int (nomark _)))) pa_nil)) pa_nil)))),?_⟩
  refine ⟨_,rfl,r,dx,_,rfl,ob,rdF_no _ _ (by decide +kernel) (by decide +kernel),r,lt,as,T,i,t,rfl,R,ht,fun a ta=>?_⟩
  obtain ⟨dt,hta⟩:=id ta
  refine ⟨_,rfl,r,dx,_,rfl,ob,rdF_no _ _ (by decide +kernel) (by decide +kernel),?_⟩
  refine ⟨_,rfl,a,cs.tok,dt,_,_,rfl,hta,clT,naT _ (by simp),tokG_kind _ _ _,rfl,_,rfl,ite2 (fun hc=>?_) fun hc=>?_⟩
  ·have hk : kindS t.1 = "number":=by
    have:=of_decide_eq_true hc
    injection this
   have hd:=ok.dig t (List.mem_of_getElem? ht) hk
   have hl:=(kind_num hk).2
   have hne : t.1 ≠ []:=fun z=>by rw [z] at hk; exact absurd hk (by decide +kernel)
   have hiw:=int_word hd hl hne
   have hsz : (mkS t.1).length≤640:=by show t.1.toArray.size≤640; rw [List.size_toArray]; omega
   refine ⟨_,rfl,a,cs.tok,dt,_,_,rfl,hta,clT,naT _ (by simp),tokG_word _ _ _,_,_,rfl,hiw,hsz,_,_,rfl,rfl,?_⟩
   refine ⟨r,lt,as,T,i,t,_,rfl,R,ht,fun h2 H2 R2 k2=>?_,fun h2=>kx fun z=>?_⟩
   ·have h3 : (1 : Int)≤((valueOf t.1 : Nat) : Int):=of_decide_eq_true h2
    exact ⟨_,_,rfl,hiw,hsz,kq ⟨hk,by omega⟩ H2 R2 k2⟩
   ·have h3 : ¬ (1 : Int)≤((valueOf t.1 : Nat) : Int):=of_decide_eq_false h2
    omega
  ·refine ⟨r,lt,as,T,i,t,_,rfl,R,ht,fun h2=>absurd h2 Bool.false_ne_true,fun h2=>kx fun z=>hc (decide_eq_true (by rw [z.1]))⟩
end
end Pg
end
section
set_option linter.all false
set_option maxRecDepth 100000
set_option maxHeartbeats 4000000
namespace Pg
open PySem L2 Xc Sp Rb35
def GoOn (Pv : L2.St→Hp→Prop) (μ : L2.St→Hp→Nat) (m : Nat) (tb : TS) (D : Ends) (σ : L2.St) (H1 : Hp) : Prop :=
 ∃ N : L2.St→Hp→Prop,(∀ σ' H',N σ' H'→∃ m',m' < m∧m' = μ σ' H'∧Pv σ' H')∧tb { D with nx:=N,ct:=N,bk:=D.nx } σ H1
theorem while_go {c : TT} {tb : TS} {D : Ends} {σ : L2.St} {H : Hp} (Pv : L2.St→Hp→Prop) (μ : L2.St→Hp→Nat) (h0 : Pv σ H)
  (hs : ∀ σ H,Pv σ H→c σ H fun b H1=>if b = true then GoOn Pv μ (μ σ H) tb D σ H1 else D.nx σ H1) : tWhile c tb D σ H:=by
 refine ⟨fun m σ H=>m = μ σ H∧Pv σ H,⟨_,rfl,h0⟩,?_⟩
 rintro m σ H ⟨rfl,p⟩
 exact hs σ H p
theorem wgo {Pv : L2.St→Hp→Prop} {μ : L2.St→Hp→Nat} {m : Nat} {tb : TS} {D : Ends} {σ : L2.St} {H1 : Hp} (h : tb { D with nx:=fun σ' H'=>Pv σ' H'∧μ σ' H' < m,ct:=fun σ' H'=>Pv σ' H'∧μ σ' H' < m,bk:=D.nx } σ H1) : GoOn Pv μ m tb D σ H1 :=
 ⟨_,fun σ' H' q=>⟨_,q.2,rfl,q.1⟩,h⟩
theorem letters_are : ("abcdefghijklmnopqrstuvwxyz" : Str).cps.toList = List.range' 97 26:=by decide +kernel
theorem digits_are : ("0123456789" : Str).cps.toList = List.range' 48 10:=by decide +kernel
theorem wsigns_are : ("abcdefghijklmnopqrstuvwxyz0123456789_" : Str).cps.toList = List.range' 97 26++(List.range' 48 10++[95]):=by decide +kernel
theorem in_letters (c : Nat) : decide (c ∈ ("abcdefghijklmnopqrstuvwxyz" : Str).cps.toList) = isSmall c:=by
 rw [letters_are,Bool.eq_iff_iff,decide_eq_true_iff,List.mem_range'_1]
 simp [isSmall]; omega
theorem in_digits (c : Nat) : decide (c ∈ ("0123456789" : Str).cps.toList) = isDigit c:=by
 rw [digits_are,Bool.eq_iff_iff,decide_eq_true_iff,List.mem_range'_1]
 simp [isDigit]; omega
theorem in_wsigns (c : Nat) : decide (c ∈ ("abcdefghijklmnopqrstuvwxyz0123456789_" : Str).cps.toList) = isWord c:=by
 rw [wsigns_are,Bool.eq_iff_iff,decide_eq_true_iff,List.mem_append,List.mem_append,List.mem_range'_1,List.mem_range'_1]
 simp [isWord,isSmall,isDigit]; omega
theorem len_mkS (l : List Nat) : (mkS l).length = l.length:=by
 show l.toArray.size = _
 rw [List.size_toArray]
def spEndOf : Sp:=fun vs H Q _=>∃ (l : List Nat) (pl : Nat) (z : Str),vs = [.str (mkS l),.int pl,.str z]∧pl≤l.length∧l.length≤10000 ∧
 Q (.int ((pl + ((l.drop pl).takeWhile fun c=>decide (c ∈ z.cps.toList)).length : Nat) : Int)) H
def spRunEnd : Sp:=fun vs H Q _=>∃ (l : List Nat) (pl : Nat),vs = [.str (mkS l),.int pl]∧pl < l.length∧l.length≤10000∧Q (.int ((pl + runLen (l.drop pl) : Nat) : Int)) H
def spKind : Sp:=fun vs H Q _=>∃ (wd : List Nat),vs = [.str (mkS wd)]∧wd ≠ []∧wd.length≤10000∧Q (.str (kindS wd)) H
theorem mt_find3 {X : Cx} : MtR X "str.find" (fun x xs H Q=>∃ a b i,x = .str a∧xs = [.str b,.int i]∧Q (.int (Txt.find3 a b i)) H):=by
 intro pins s σ H x xs v us Q I rx rs h
 obtain ⟨a,b,i,rfl,rfl,h⟩:=h
 obtain ⟨t,rfl⟩:=rx
 cases rs with
 | cons r1 rs =>
  cases rs with
  | cons r2 rs =>
   cases rs
   obtain ⟨u,rfl⟩:=r1
   obtain ⟨u2,rfl⟩:=r2
   exact PySem.SC.find3 ⟨.int (Txt.find3 a b i),H,I.tok _,⟨_,rfl⟩,h⟩
theorem strEq (c d : Nat) : decide (V.str ⟨#[c]⟩ = V.str ⟨#[d]⟩) = decide (c = d):=by
 by_cases h : c = d
 ·subst h; simp
 ·rw [decide_eq_false h,decide_eq_false]
  intro z
  injection z with z
  injection z with z
  exact h (by simpa using z)
theorem find_line (l : List Nat) (pl : Nat) (hp : pl≤l.length) : (if (0 : Int)≤Txt.find3 (mkS l) ⟨#[10]⟩ (pl : Int) then Txt.find3 (mkS l) ⟨#[10]⟩ (pl : Int) else (l.length : Int)) = ((pl + ((l.drop pl).takeWhile fun x=>x != 10).length : Nat) : Int):=by
 have hfi : PySem.fromIndex (mkS l).length (pl : Int) = pl:=by
  unfold PySem.fromIndex
  rw [if_neg (by omega)]
  omega
 have gd : ∀ v,(mkS l).cps.getD v 0 = l.getD v 0:=fun v=>by
  show l.toArray.getD v 0 = _
  simp [List.getD_eq_getElem?_getD]
 have key : ∀ (m : List Nat) (k : Nat),(∀ v,v < k→m.getD v 0 ≠ 10)→k≤m.length→(k = m.length∨m.getD k 0 = 10∧k < m.length)→(m.takeWhile fun x=>x != 10).length = k:=by
  intro m
  induction m with
  | nil=>intro k _ h _; simp at h; simp [h]
  | cons a r ih =>
   intro k h1 h2 h3
   cases k with
   | zero =>
    rcases h3 with h3 | ⟨h3,_⟩
    ·simp at h3
    ·have : a = 10:=by simpa using h3
     subst this
     rw [List.takeWhile_cons]
     simp
   | succ k =>
    have ha : a ≠ 10:=by simpa using h1 0 (by omega)
    have hb : (a != 10) = true:=by simpa using ha
    rw [List.takeWhile_cons,hb]
    simp only [if_true,List.length_cons]
    rw [ih k (fun v hv=>by simpa using h1 (v + 1) (by omega)) (by simpa using h2) (by
     rcases h3 with h3 | ⟨h3,h4⟩
     ·exact .inl (by simpa using h3)
     ·exact .inr ⟨by simpa using h3,by simpa using h4⟩)]
 have dg : ∀ v,(l.drop pl).getD v 0 = l.getD (pl + v) 0:=fun v=>by
  rw [List.getD_eq_getElem?_getD,List.getD_eq_getElem?_getD,List.getElem?_drop]
 rcases PySem.StrLaws.find3_spec (mkS l) 10 (pl : Int) with ⟨h,hn⟩ | ⟨k,h,h1,h2,h3,h4⟩
 ·rw [hfi] at hn
  rw [h,if_neg (by decide)]
  have e:=key (l.drop pl) (l.length - pl) (fun v hv=>by
   rw [dg,← gd]
   exact hn (pl + v) (by omega) (by rw [len_mkS]; omega)) (by rw [List.length_drop]; exact Nat.le_refl _) (.inl (by rw [List.length_drop]))
  rw [e]
  omega
 ·rw [hfi] at h1 h4
  rw [len_mkS] at h2
  rw [h,if_pos (by omega)]
  have e:=key (l.drop pl) (k - pl) (fun v hv=>by
   rw [dg,← gd]
   exact h4 (pl + v) (by omega) (by omega)) (by rw [List.length_drop]; omega) (.inr ⟨by rw [dg,← gd,Nat.add_sub_cancel' h1]; exact h3,by rw [List.length_drop]; omega⟩)
  rw [e]
  omega
section
variable {P : Program} {w : World} {K : PySem.W.Frag} {mg : Str→Option Value} {base : Heap} {cs : Cs}
theorem sc_endof : FnScope ["row","place","signs","end"] ["row","place","signs"] (defScope st_end_of_signs):=⟨rfl,rfl,rfl,by decide +kernel,rfl,by decide +kernel,by decide +kernel⟩
theorem ok_endof (T : FunT K mg "end_of_signs" st_end_of_signs) (hlen : mg "len" = none) : DefOk P w K mg base 1 "end_of_signs" ["row","place","signs"] spEndOf:=by
 obtain ⟨f,fd,F,hm⟩:=T.ex
 refine ⟨f,fd,hm,F.kp,F.binds (fun _ _ _ _ _ _ us hl=>match us,hl with | [_,_,_],_=>rfl),okN F sc_endof (fun vs H Q E h=>?_) (fun cdv A outer s H vs Q E hr h=>?_)⟩
 ·obtain ⟨l,pl,z,rfl,_⟩:=h
  rfl
 ·obtain ⟨l,pl,z,rfl,hp,hl,kq⟩:=h
  refine ⟨_,pss_cons (ps_set (i:=3) sc_endof.nd rfl (Or.inl rfl) (pv 1)) (pss_cons (ps_while PassesOwn.never (pw_and (pt_cmpR op_lt (pv 3) (pe_callB call_len_str (by rfl) hlen PySem.boot_len (pa_cons (pv 0) pa_nil)) (nomark _))
   (pw_and1 (pt_cmpR op_in_sign (pe_ix ix_str (pv 0) (pv 3) (fun _ _=>rfl)) (pv 2) (by rfl)))).pt (pss_one (ps_aug (i:=3) sc_endof.nd rfl (Or.inl rfl) pe_int ip_add))) (pss_one (ps_ret (pv 3)))),?_⟩
  have hsz : (mkS l).length≤sizeLine:=by rw [len_mkS]; exact Nat.le_trans hl (by decide)
  refine ⟨_,rfl,?_⟩
  refine while_go (fun σ H'=>H' = H∧∃ j : Nat,pl + j≤l.length∧σ = [some (.str (mkS l)),some (.int pl),some (.str z),some (.int ((pl + j : Nat) : Int))] ∧
   ((l.drop pl).takeWhile fun c=>decide (c ∈ z.cps.toList)).length = j + ((l.drop (pl + j)).takeWhile fun c=>decide (c ∈ z.cps.toList)).length)
   (fun σ _=>match σ with | [_,_,_,some (.int e)]=>l.length - e.toNat | _=>0) ⟨rfl,0,hp,rfl,by simp⟩ ?_
  rintro σ H' ⟨rfl,j,hj,rfl,e⟩
  have done : ((l.drop (pl + j)).takeWhile fun c=>decide (c ∈ z.cps.toList)).length = 0→tSeq (fun D σ H=>tRet (tVar 3) D σ H) (fun D σ H=>D.nx σ H) { nx:=fun _ H'=>Q .non H',rt:=Q } [some (.str (mkS l)),some (.int pl),some (.str z),some (.int ((pl + j : Nat) : Int))] H':=fun h0=>by
   refine ⟨_,rfl,?_⟩
   rw [h0,Nat.add_zero] at e
   rw [← e]
   exact kq
  refine ⟨_,rfl,_,rfl,_,rfl,hsz,_,_,rfl,rfl,_,rfl,ite2 (fun hc=>?_) fun hc=>?_⟩
  ·have h1 : ((pl + j : Nat) : Int) < ((mkS l).length : Int):=of_decide_eq_true hc
   rw [len_mkS] at h1
   have h2 : pl + j < l.length:=by omega
   have hd : l.drop (pl + j) = l[pl + j]::l.drop (pl + j + 1):=List.drop_eq_getElem_cons h2
   rw [hd,List.takeWhile_cons] at e
   refine ⟨_,rfl,_,rfl,mkS l,_,l[pl + j],rfl,rfl,hsz,atI_nat (List.getElem?_eq_getElem h2),_,rfl,l[pl + j],z,rfl,rfl,_,rfl,ite2 (fun hc2=>?_) fun hc2=>?_⟩
   ·refine wgo ?_
    refine ⟨_,rfl,_,_,rfl,rfl,⟨rfl,j + 1,by omega,rfl,?_⟩,?_⟩
    ·rw [hc2] at e
     simp only [if_true,List.length_cons] at e
     rw [e,Nat.add_assoc]
     omega
    ·show l.length - (((pl + j : Nat) : Int) + 1).toNat < l.length - ((pl + j : Nat) : Int).toNat
     omega
   ·refine done ?_
    rw [hd,List.takeWhile_cons]
    have : decide (l[pl + j] ∈ z.cps.toList) = false:=by simpa using hc2
    rw [this]
    rfl
  ·have h1 : ¬ ((pl + j : Nat) : Int) < ((mkS l).length : Int):=fun q=>hc (decide_eq_true q)
   rw [len_mkS] at h1
   refine iteF (done ?_)
   rw [List.drop_eq_nil_of_le (by omega)]
   rfl
theorem sc_runend : FnScope ["row","place","first","end"] ["row","place"] (defScope st_run_end):=⟨rfl,rfl,rfl,by decide +kernel,rfl,by decide +kernel,by decide +kernel⟩
theorem ok_runend (T : FunT K mg "run_end" st_run_end) (hlen : mg "len" = none) (hL : ∃ t,mg "LETTERS" = some (.str "abcdefghijklmnopqrstuvwxyz" t)) (hD : ∃ t,mg "DIGITS" = some (.str "0123456789" t)) (hW : ∃ t,mg "WORD_SIGNS" = some (.str "abcdefghijklmnopqrstuvwxyz0123456789_" t))
  (EO : DefOk P w K mg base 1 "end_of_signs" ["row","place","signs"] spEndOf) : DefOk P w K mg base 2 "run_end" ["row","place"] spRunEnd:=by
 obtain ⟨f,fd,F,hm⟩:=T.ex
 obtain ⟨t1,hL⟩:=hL
 obtain ⟨t2,hD⟩:=hD
 obtain ⟨t3,hW⟩:=hW
 refine ⟨f,fd,hm,F.kp,F.binds (fun _ _ _ _ _ _ us hl=>match us,hl with | [_,_],_=>rfl),okN F sc_runend (fun vs H Q E h=>?_) (fun cdv A outer s H vs Q E hr h=>?_)⟩
 ·obtain ⟨l,pl,rfl,_⟩:=h
  rfl
 ·obtain ⟨l,pl,rfl,hp,hl,kq⟩:=h
  refine ⟨_,pss_cons (ps_set (i:=2) sc_runend.nd rfl (Or.inl rfl) (pe_ix ix_str (pv 0) (pv 1) (fun _ _=>rfl)))
   (pss_cons (ps_if (pt_cmpR op_eq (pv 2) pe_str (nomark _)) (pss_cons (ps_set (i:=3) sc_runend.nd rfl (Or.inl rfl) (pe_bm PySem.F.plainAttrs_str PySem.F.slot_str_find PySem.F.type_str_find mt_find3 (pv 0) (pa_cons pe_str (pa_cons (pv 1) pa_nil))))
     (pss_one (ps_ret (pe_ifExp (pt_cmpR op_ge (pv 3) pe_int (nomark _)) (pv 3) (pe_callB call_len_str (by rfl) hlen PySem.boot_len (pa_cons (pv 0) pa_nil)))))) pss_nil)
   (pss_cons (ps_if (pt_cmpR op_in_sign (pv 2) (pe_glob (v:=.str "abcdefghijklmnopqrstuvwxyz") (by rfl) hL ⟨t1,rfl⟩) (by rfl)) (pss_one (ps_ret (pe_def EO hr rfl pass_no (pa_cons (pv 0) (pa_cons (pv 1) (pa_cons (pe_glob (v:=.str "abcdefghijklmnopqrstuvwxyz0123456789_") (by rfl) hW ⟨t3,rfl⟩) pa_nil)))))) pss_nil)
   (pss_cons (ps_if (pt_cmpR op_in_sign (pv 2) (pe_glob (v:=.str "0123456789") (by rfl) hD ⟨t2,rfl⟩) (by rfl)) (pss_one (ps_ret (pe_def EO hr rfl pass_no (pa_cons (pv 0) (pa_cons (pv 1) (pa_cons (pe_glob (v:=.str "0123456789") (by rfl) hD ⟨t2,rfl⟩) pa_nil)))))) pss_nil)
   (pss_one (ps_ret (pe_op op_add (pv 1) pe_int)))))),?_⟩
  have hsz : (mkS l).length≤sizeLine:=by rw [len_mkS]; exact Nat.le_trans hl (by decide)
  have hd : l.drop pl = l[pl]::l.drop (pl + 1):=List.drop_eq_getElem_cons hp
  refine ⟨_,rfl,_,rfl,mkS l,_,l[pl],rfl,rfl,hsz,atI_nat (List.getElem?_eq_getElem hp),?_⟩
  refine ⟨_,rfl,rfl,_,rfl,ite2 (fun hc=>?_) fun hc=>?_⟩
  ·have h35 : l[pl] = 35:=by
    have h1 : decide (V.str ⟨#[l[pl]]⟩ = V.str ⟨#[35]⟩) = true:=hc
    rw [strEq] at h1
    exact of_decide_eq_true h1
   have er : runLen (l.drop pl) = ((l.drop pl).takeWhile fun x=>x != 10).length:=by
    rw [hd]
    unfold runLen
    dsimp only
    rw [if_pos h35]
   rw [er] at kq
   have fl:=find_line l pl (Nat.le_of_lt hp)
   refine ⟨_,rfl,rfl,_,rfl,_,_,_,rfl,rfl,?_⟩
   refine ⟨_,rfl,_,_,rfl,rfl,_,rfl,ite2 (fun hc2=>?_) fun hc2=>?_⟩
   ·have h2 : (0 : Int)≤Txt.find3 (mkS l) ⟨#[10]⟩ (pl : Int):=of_decide_eq_true hc2
    rw [if_pos h2] at fl
    refine ⟨_,rfl,?_⟩
    show Q (V.int (Txt.find3 (mkS l) ⟨#[10]⟩ (pl : Int))) H
    rw [fl]
    exact kq
   ·have h2 : ¬ (0 : Int)≤Txt.find3 (mkS l) ⟨#[10]⟩ (pl : Int):=fun z=>hc2 (decide_eq_true z)
    rw [if_neg h2] at fl
    refine ⟨_,rfl,_,rfl,hsz,?_⟩
    show Q (V.int ((mkS l).length : Int)) H
    rw [len_mkS,fl]
    exact kq
  ·have h35 : ¬ l[pl] = 35:=fun z=>hc (by
    show decide (V.str ⟨#[l[pl]]⟩ = V.str ⟨#[35]⟩) = true
    rw [strEq]
    exact decide_eq_true z)
   have sp1 : ∀ (p q : Nat→Bool),(∀ c,p c = q c)→((l.drop pl).takeWhile p).length = ((l.drop pl).takeWhile q).length:=fun p q hpq=>by
    rw [show p = q from funext hpq]
   refine ⟨_,rfl,l[pl],_,rfl,rfl,_,rfl,ite2 (fun hc2=>?_) fun hc2=>?_⟩
   ·rw [in_letters] at hc2
    have er : runLen (l.drop pl) = ((l.drop pl).takeWhile isWord).length:=by
     rw [hd]
     unfold runLen
     dsimp only
     rw [if_neg h35,if_pos hc2]
    rw [er,← sp1 _ _ in_wsigns] at kq
    exact ⟨_,rfl,_,rfl,l,pl,_,rfl,Nat.le_of_lt hp,hl,kq⟩
   ·rw [in_letters] at hc2
    refine ⟨_,rfl,l[pl],_,rfl,rfl,_,rfl,ite2 (fun hc3=>?_) fun hc3=>?_⟩
    ·rw [in_digits] at hc3
     have er : runLen (l.drop pl) = ((l.drop pl).takeWhile isDigit).length:=by
      rw [hd]
      unfold runLen
      dsimp only
      rw [if_neg h35,if_neg hc2,if_pos hc3]
     rw [er,← sp1 _ _ in_digits] at kq
     exact ⟨_,rfl,_,rfl,l,pl,_,rfl,Nat.le_of_lt hp,hl,kq⟩
    ·rw [in_digits] at hc3
     have er : runLen (l.drop pl) = 1:=by
      rw [hd]
      unfold runLen
      dsimp only
      rw [if_neg h35,if_neg hc2,if_neg hc3]
     rw [er] at kq
     exact ⟨_,rfl,_,_,rfl,rfl,kq⟩
theorem sc_kind : FnScope ["word"] ["word"] (defScope st_kind_of):=⟨rfl,rfl,rfl,by decide +kernel,rfl,by decide +kernel,by decide +kernel⟩
theorem keys_are : ∀ wd : List Nat,inV (V.str (mkS wd)) [V.str "field",V.str "who",V.str "let",V.str "of"] = keys.contains wd:=fun wd=>by
 have e : ∀ (s : List Nat),((mkS s == mkS wd) : Bool) = (wd == s):=fun s=>by
  by_cases h : s = wd
  ·subst h; simp
  ·have h1 : (mkS s == mkS wd) = false:=by simpa using fun z : mkS s = mkS wd=>h (mkS_inj z)
   have h2 : (wd == s) = false:=by simpa using fun z : wd = s=>h z.symm
   rw [h1,h2]
 show ((mkS [102,105,101,108,100] == mkS wd) || ((mkS [119,104,111] == mkS wd) || ((mkS [108,101,116] == mkS wd) || ((mkS [111,102] == mkS wd) || false)))) = _
 rw [e,e,e,e]
 have hk : keys = [[102,105,101,108,100],[119,104,111],[108,101,116],[111,102]]:=by decide +kernel
 rw [hk,Bool.eq_iff_iff]
 simp [List.contains_iff_mem]
theorem ok_kind (T : FunT K mg "kind_of" st_kind_of) (hlen : mg "len" = none) (hL : ∃ t,mg "LETTERS" = some (.str "abcdefghijklmnopqrstuvwxyz" t)) (hD : ∃ t,mg "DIGITS" = some (.str "0123456789" t)) (hKW : ∃ a,mg "KEPT_WORDS" = some (.ref a)∧∀ H,SqT K H a [V.str "field",V.str "who",V.str "let",V.str "of"])
  (hLW : ∃ t,mg "LONGEST_WORD" = some (.int 15 t)) (hLN : ∃ t,mg "LONGEST_NUMBER" = some (.int 5 t)) (hN : ∃ t,mg "NAME" = some (.str "name" t)) (hU : ∃ t,mg "NUMBER" = some (.str "number" t)) (hO : ∃ t,mg "OTHER" = some (.str "other" t)) :
  DefOk P w K mg base 1 "kind_of" ["word"] spKind:=by
 obtain ⟨f,fd,F,hm⟩:=T.ex
 obtain ⟨t1,hL⟩:=hL
 obtain ⟨t2,hD⟩:=hD
 obtain ⟨ka,hKW,hsq⟩:=hKW
 obtain ⟨t3,hLW⟩:=hLW
 obtain ⟨t4,hLN⟩:=hLN
 obtain ⟨t5,hN⟩:=hN
 obtain ⟨t6,hU⟩:=hU
 obtain ⟨t7,hO⟩:=hO
 refine ⟨f,fd,hm,F.kp,F.binds (fun _ _ _ _ _ _ us hl=>match us,hl with | [_],_=>rfl),okN (k:=0) F sc_kind (fun vs H Q E h=>?_) (fun cdv A outer s H vs Q E hr h=>?_)⟩
 ·obtain ⟨wd,rfl,_⟩:=h
  rfl
 ·obtain ⟨wd,rfl,hne,hl,kq⟩:=h
  refine ⟨_,pss_cons (ps_if (pw_and (pt_cmpR op_in_sign (pe_ix ix_str (pv 0) pe_int (fun _ _=>rfl)) (pe_glob (v:=.str "abcdefghijklmnopqrstuvwxyz") (by rfl) hL ⟨t1,rfl⟩) (by rfl))
    (pw_and (pt_cmpR op_le (pe_callB call_len_str (by rfl) hlen PySem.boot_len (pa_cons (pv 0) pa_nil)) (pe_glob (v:=.int 15) (by rfl) hLW ⟨t3,rfl⟩) (nomark _))
     (pw_and1 (pt_cmpR op_notIn_seq (pv 0) (pe_glob (v:=.ref ka) (by rfl) hKW rfl) (by rfl))))).pt (pss_one (ps_ret (pe_glob (v:=.str "name") (by rfl) hN ⟨t5,rfl⟩))) pss_nil)
   (pss_cons (ps_if (pw_and (pt_cmpR op_in_sign (pe_ix ix_str (pv 0) pe_int (fun _ _=>rfl)) (pe_glob (v:=.str "0123456789") (by rfl) hD ⟨t2,rfl⟩) (by rfl))
    (pw_and1 (pt_cmpR op_le (pe_callB call_len_str (by rfl) hlen PySem.boot_len (pa_cons (pv 0) pa_nil)) (pe_glob (v:=.int 5) (by rfl) hLN ⟨t4,rfl⟩) (nomark _)))).pt (pss_one (ps_ret (pe_glob (v:=.str "number") (by rfl) hU ⟨t6,rfl⟩))) pss_nil)
   (pss_one (ps_ret (pe_glob (v:=.str "other") (by rfl) hO ⟨t7,rfl⟩)))),?_⟩
  match wd,hne,hl,kq with
  | c::r,_,hl,kq =>
  have hsz : (mkS (c::r)).length≤sizeLine:=by rw [len_mkS]; exact Nat.le_trans hl (by decide)
  unfold kindS at kq
  dsimp only at kq
  refine ⟨_,rfl,mkS (c::r),0,c,rfl,rfl,hsz,atI_nat (j:=0) rfl,c,_,rfl,rfl,_,rfl,ite2 (fun h1=>?_) fun h1=>?_⟩
  ·rw [in_letters] at h1
   refine ⟨_,rfl,_,rfl,hsz,_,_,rfl,rfl,_,rfl,ite2 (fun h2=>?_) fun h2=>?_⟩
   ·have h2' : (c::r).length≤15:=by
     have h3 : ((mkS (c::r)).length : Int)≤15:=of_decide_eq_true h2
     rw [len_mkS] at h3
     omega
    refine ⟨_,rfl,ka,_,rfl,.inr (hsq H),rfl,rfl,_,rfl,ite2 (fun h3=>?_) fun h3=>?_⟩
    ·have h3' : ¬ keys.contains (c::r) = true:=by
      have : (!inV (V.str (mkS (c::r))) [V.str "field",V.str "who",V.str "let",V.str "of"]) = true:=h3
      rw [keys_are] at this
      simpa using this
     rw [if_pos ⟨h1,h2',h3'⟩] at kq
     exact kq
    ·have hn : ¬ (isSmall c = true∧(c::r).length≤15∧¬ keys.contains (c::r) = true):=fun z=>h3 (by
      show (!inV (V.str (mkS (c::r))) [V.str "field",V.str "who",V.str "let",V.str "of"]) = true
      rw [keys_are]
      simpa using z.2.2)
     rw [if_neg hn] at kq
     refine ⟨_,rfl,mkS (c::r),0,c,rfl,rfl,hsz,atI_nat (j:=0) rfl,c,_,rfl,rfl,_,rfl,ite2 (fun g1=>?_) fun g1=>?_⟩
     ·rw [in_digits] at g1
      refine ⟨_,rfl,_,rfl,hsz,_,_,rfl,rfl,_,rfl,ite2 (fun g2=>?_) fun g2=>?_⟩
      ·have g2' : (c::r).length≤5:=by
        have g3 : ((mkS (c::r)).length : Int)≤5:=of_decide_eq_true g2
        rw [len_mkS] at g3
        omega
       rw [if_pos ⟨g1,g2'⟩] at kq
       exact kq
      ·rw [if_neg fun z=>g2 (decide_eq_true (by rw [len_mkS]; have:=z.2; omega))] at kq
       exact kq
     ·rw [in_digits] at g1
      rw [if_neg fun z=>g1 z.1] at kq
      exact kq
   ·have hn : ¬ (isSmall c = true∧(c::r).length≤15∧¬ keys.contains (c::r) = true):=fun z=>h2 (decide_eq_true (by rw [len_mkS]; have:=z.2.1; omega))
    refine iteF ?_
    rw [if_neg hn] at kq
    refine ⟨_,rfl,mkS (c::r),0,c,rfl,rfl,hsz,atI_nat (j:=0) rfl,c,_,rfl,rfl,_,rfl,ite2 (fun g1=>?_) fun g1=>?_⟩
    ·rw [in_digits] at g1
     refine ⟨_,rfl,_,rfl,hsz,_,_,rfl,rfl,_,rfl,ite2 (fun g2=>?_) fun g2=>?_⟩
     ·have g2' : (c::r).length≤5:=by
       have g3 : ((mkS (c::r)).length : Int)≤5:=of_decide_eq_true g2
       rw [len_mkS] at g3
       omega
      rw [if_pos ⟨g1,g2'⟩] at kq
      exact kq
     ·rw [if_neg fun z=>g2 (decide_eq_true (by rw [len_mkS]; have:=z.2; omega))] at kq
      exact kq
    ·rw [in_digits] at g1
     rw [if_neg fun z=>g1 z.1] at kq
     exact kq
  ·rw [in_letters] at h1
   have hn : ¬ (isSmall c = true∧(c::r).length≤15∧¬ keys.contains (c::r) = true):=fun z=>h1 z.1
   refine iteF ?_
   rw [if_neg hn] at kq
   refine ⟨_,rfl,mkS (c::r),0,c,rfl,rfl,hsz,atI_nat (j:=0) rfl,c,_,rfl,rfl,_,rfl,ite2 (fun g1=>?_) fun g1=>?_⟩
   ·rw [in_digits] at g1
    refine ⟨_,rfl,_,rfl,hsz,_,_,rfl,rfl,_,rfl,ite2 (fun g2=>?_) fun g2=>?_⟩
    ·have g2' : (c::r).length≤5:=by
      have g3 : ((mkS (c::r)).length : Int)≤5:=of_decide_eq_true g2
      rw [len_mkS] at g3
      omega
     rw [if_pos ⟨g1,g2'⟩] at kq
     exact kq
    ·rw [if_neg fun z=>g2 (decide_eq_true (by rw [len_mkS]; have:=z.2; omega))] at kq
     exact kq
   ·rw [in_digits] at g1
    rw [if_neg fun z=>g1 z.1] at kq
    exact kq
end
end Pg
end
section
set_option linter.all false
set_option maxRecDepth 100000
set_option maxHeartbeats 4000000
namespace Pg
open PySem L2 Xc Sp Rb35
theorem lit40 : ("(" : Str) = mkS [40]:=by decide +kernel
theorem lit41 : (")" : Str) = mkS [41]:=by decide +kernel
theorem lit44 : ("," : Str) = mkS [44]:=by decide +kernel
theorem lit59 : (";" : Str) = mkS [59]:=by decide +kernel
theorem lit61 : ("=" : Str) = mkS [61]:=by decide +kernel
theorem lit38 : ("&" : Str) = mkS [38]:=by decide +kernel
theorem lit124 : ("|" : Str) = mkS [124]:=by decide +kernel
theorem litOf : ("of" : Str) = mkS (ascii "of"):=by decide +kernel
theorem litLet : ("let" : Str) = mkS (ascii "let"):=by decide +kernel
theorem litWho : ("who" : Str) = mkS (ascii "who"):=by decide +kernel
theorem litField : ("field" : Str) = mkS (ascii "field"):=by decide +kernel
theorem wlit {w v : List Nat} {s : Str} (h : s = mkS v) : mkS w = s↔w = v:=by
 rw [h]
 exact ⟨fun z=>mkS_inj z,fun z=>by rw [z]⟩
theorem vlit {w v : List Nat} {s : Str} (h : s = mkS v) : decide (V.str (mkS w) = V.str s) = decide (w = v):=by
 by_cases q : w = v
 ·rw [decide_eq_true q,decide_eq_true (by rw [h,q])]
 ·rw [decide_eq_false q,decide_eq_false fun z=>q ((wlit h).mp (by injection z))]
theorem kvlit {w : List Nat} {s : Str} : decide (V.str (kindS w) = V.str s) = decide (kindS w = s):=by
 by_cases q : kindS w = s
 ·rw [decide_eq_true q,decide_eq_true (by rw [q])]
 ·rw [decide_eq_false q,decide_eq_false fun z=>q (by injection z)]
section
variable {K : PySem.W.Frag} {cs : Cs} {E : XK} {σ : L2.St} {H : Hp} {Q : VK} {j : Nat} {r lt : Addr} {as : List Addr} {T : List PT} {i : Nat} {t : PT}
theorem now_word (clT : Cls K cs.tok) (naT : NoAt K cs.tok ["kind","word","place"]) (hσ : σ[j]? = some (some (.ref r))) (R : ReadAt cs H r lt as T i) (ht : T[i]? = some t) (k : Q (.str (mkS t.1)) H) :
  tFld K (tMeth cs.rea "now" (spNow cs) [] E (tVar j) tNil) "word" σ H Q:=by
 obtain ⟨dx,ob⟩:=R.ob
 refine ⟨_,hσ,r,dx,_,rfl,ob,rdF_no _ _ (by decide +kernel) (by decide +kernel),r,lt,as,T,i,t,rfl,R,ht,fun a ta=>?_⟩
 obtain ⟨dt,hta⟩:=ta
 exact ⟨a,cs.tok,dt,_,_,rfl,hta,clT,naT _ (by simp),tokG_word _ _ _,k⟩
theorem now_kind (clT : Cls K cs.tok) (naT : NoAt K cs.tok ["kind","word","place"]) (hσ : σ[j]? = some (some (.ref r))) (R : ReadAt cs H r lt as T i) (ht : T[i]? = some t) (k : Q (.str (kindS t.1)) H) :
  tFld K (tMeth cs.rea "now" (spNow cs) [] E (tVar j) tNil) "kind" σ H Q:=by
 obtain ⟨dx,ob⟩:=R.ob
 refine ⟨_,hσ,r,dx,_,rfl,ob,rdF_no _ _ (by decide +kernel) (by decide +kernel),r,lt,as,T,i,t,rfl,R,ht,fun a ta=>?_⟩
 obtain ⟨dt,hta⟩:=ta
 exact ⟨a,cs.tok,dt,_,_,rfl,hta,clT,naT _ (by simp),tokG_kind _ _ _,k⟩
theorem rd_meth {m : Str} {sp : Sp} {tt : TA} (hσ : σ[j]? = some (some (.ref r))) (R : ReadAt cs H r lt as T i) (h1 : ¬ m = "tokens") (h2 : ¬ m = "at") (k : tt σ H fun vs H2=>sp (.ref r::(vs++[])) H2 Q E) : tMeth cs.rea m sp [] E (tVar j) tt σ H Q:=by
 obtain ⟨dx,ob⟩:=R.ob
 exact ⟨_,hσ,r,dx,_,rfl,ob,rdF_no _ _ h1 h2,k⟩
end
def rdm (T : List PT) (r : Addr) (H : Hp) : Nat:=match H r with
 | some (.ins _ _ fs)=>match fs.lookup ("at" : Str) with
  | some (.int j)=>T.length - j.toNat
  | _=>0
 | _=>0
theorem rdm_eq {T : List PT} {r C dx lt : Addr} {H : Hp} {i : Nat} (h : H r = some (.ins C dx (rdF lt (i : Int)))) : rdm T r H = T.length - i:=by
 unfold rdm
 rw [h]
 show (match (rdF lt (i : Int)).lookup ("at" : Str) with | some (.int j)=>T.length - j.toNat | _=>0) = _
 rw [rdF_at]
 rfl
theorem upd2_none {H : Hp} {d x y : Addr} {o u : HO} (h : upd (upd H d o) x u y = none) : H y = none:=by
 by_cases e : y = x
 ·rw [e,upd_same] at h; cases h
 ·rw [upd_ne e] at h
  by_cases e2 : y = d
  ·rw [e2,upd_same] at h; cases h
  ·rw [upd_ne e2] at h; exact h
def Bot : List FraN→Prop
 | []=>False
 | [F]=>F.asked = 0
 | _::G::r=>Bot (G::r)
theorem Bot.head {F F' : FraN} (e : F'.asked = F.asked) : ∀ {r : List FraN},Bot (F::r)→Bot (F'::r)
 | [],h=>e.trans h
 | _::_,h=>h
structure Inn (st : List FraN) : Prop where
 bot : Bot st
 pl : ∀ F ∈ st,F.asked = 0→F.fs = []
theorem Inn.push {F : FraN} {r : List FraN} (h : Inn (F::r)) (k : Nat) : Inn (FraN.empty k::F::r):=⟨h.bot,fun G hG _=>by
 rcases List.mem_cons.mp hG with rfl | hG
 ·rfl
 ·exact h.pl G hG (by assumption)⟩
theorem Inn.head {F F' : FraN} {r : List FraN} (h : Inn (F::r)) (e : F'.asked = F.asked) (e2 : F'.asked = 0→F'.fs = []) : Inn (F'::r):=⟨h.bot.head e,fun G hG z=>by
 rcases List.mem_cons.mp hG with rfl | hG
 ·exact e2 z
 ·exact h.pl G (List.mem_cons_of_mem _ hG) z⟩
theorem Inn.tail {F G : FraN} {r : List FraN} (h : Inn (F::G::r)) : Inn (G::r):=⟨h.bot,fun G hG z=>h.pl G (List.mem_cons_of_mem _ hG) z⟩
def bA (B : Bk) (ns : List NodeM) (st : List FraN) (t : Toks) : Except Nat (Form × Toks):=match st with
 | []=>.error 0
 | F::r=>bAll B.known (F.den B.P ns) (r.map (FraN.den B.P ns)) t
def cA (B : Bk) (ns : List NodeM) (st : List FraN) (t : Toks) : Except Nat (Form × Toks):=match st with
 | []=>.error 0
 | F::r=>cAll B.known (F.den B.P ns) (r.map (FraN.den B.P ns)) t
def spBegin (cs : Cs) : Sp:=fun vs H Q E=>∃ (H0 : Hp) (r lt : Addr) (as : List Addr) (T : List PT) (i : Nat) (b : Addr) (A : BkA) (p : Nat) (B : Bk) (ns : List NodeM) (bl : Addr) (bas : List BrA) (st : List FraN) (t : PT),vs = [.ref r,.ref bl] ∧
 FSt cs H0 H r lt as T i b A p B ns bl (obs bas).reverse bas st∧PSt B ns st∧Inn st∧Fw ns st (4 * i)∧TOk T∧T[i]? = some t ∧
 (∀ (H' : Hp) (i' : Nat) (bas' : List BrA) (st' : List FraN) (t' : PT),FSt cs H0 H' r lt as T i' b A p B ns bl (obs bas').reverse bas' st'→PSt B ns st'→Inn st'→Fw ns st' (4 * i')→i≤i'→T[i']? = some t'→¬ t'.1 = [40]→¬ kindS t'.1 = "number" →
  bA B ns st (tk T i) = bA B ns st' (tk T i')→Q .non H') ∧
 (∀ k,bA B ns st (tk T i) = .error k→Thr E cs.cst (-100 - (k : Int)))
def BgI (cs : Cs) (H0 : Hp) (r lt : Addr) (as : List Addr) (T : List PT) (i : Nat) (b : Addr) (A : BkA) (p : Nat) (B : Bk) (ns : List NodeM) (bl : Addr) (st : List FraN) : L2.St→Hp→Prop:=fun σ H' =>
 ∃ (i' : Nat) (bas' : List BrA) (st' : List FraN) (t' : PT) (x : Option V),σ = [some (.ref r),some (.ref bl),x]∧FSt cs H0 H' r lt as T i' b A p B ns bl (obs bas').reverse bas' st'∧PSt B ns st'∧Inn st'∧Fw ns st' (4 * i')∧i≤i'∧T[i']? = some t' ∧
  bA B ns st (tk T i) = bA B ns st' (tk T i')
section
variable {P : Program} {w : World} {K : PySem.W.Frag} {mg : Str→Option Value} {base : Heap} {cs : Cs}
theorem bg_push {H0 H1 H2 : Hp} {r lt b bl : Addr} {as : List Addr} {T : List PT} {i i1 j k p : Nat} {A : BkA} {B : Bk} {ns : List NodeM} {st : List FraN} {bas1 : List BrA} {F1 : FraN} {r1 : List FraN} {u : PT} {D : Ends} {E' : XK} (ob1 : ∃ dx,H1 r = some (.ins cs.rea dx (rdF lt (i1 : Int))))
  (hD : ∀ σ' H',BgI cs H0 r lt as T i b A p B ns bl st σ' H'∧rdm T r H' < rdm T r H1→D.nx σ' H') (S2 : FSt cs H0 H2 r lt as T j b A p B ns bl (obs bas1).reverse bas1 (F1::r1)) (ps1 : PSt B ns (F1::r1)) (inn1 : Inn (F1::r1)) (fw1 : Fw ns (F1::r1) (4 * i1)) (hi1 : i≤i1) (hl : T.length≤10000)
  (hij : i1 < j) (hu : T[j]? = some u) (e1 : bA B ns st (tk T i) = bA B ns (F1::r1) (tk T i1)) (e2 : bA B ns (F1::r1) (tk T i1) = bA B ns (FraN.empty k::F1::r1) (tk T j)) :
  tDrop (tBM K "list" rAppend (tVar 1) (tCons (tMake cs.bra (spBracket cs) [] E' (tCons (tVar 2) tNil)) tNil)) D [some (.ref r),some (.ref bl),some (.int (k : Int))] H2:=by
 have hjl:=(List.getElem?_eq_some_iff.mp hu).1
 refine ⟨_,rfl,.inl ⟨rfl,_,SqL.of S2.br.lst⟩,_,rfl,fun x dxn nx ndx nex=>?_⟩
 refine ⟨x,dxn,(k : Int),rfl,upd_same,fun fl bl' pl H3 h3 hfl hbl hpl nfl nbl npl nd k3=>⟨rfl,?_⟩⟩
 have s3 : Same H2 H3:=Same.made nx ndx fun c o e hc=>k3 c o e (by simpa using hc)
 have few : ((obs bas1).reverse.map V.ref).length < sizeLine:=by
  have l1:=Paired.length S2.br.at_
  have l2 : (obs bas1).length = bas1.length:=List.length_map _
  rw [List.length_map,List.length_reverse,l2,l1]
  have:=fw1.dp
  exact Nat.lt_trans (show _ < 100000 by omega) line100000
 refine ⟨bl,_,_,rfl,rfl,s3 _ _ S2.br.lst,few,?_⟩
 have S3 : FSt cs H0 (upd H3 bl (.lst (((obs bas1).reverse++[x]).map V.ref))) r lt as T j b A p B ns bl ((obs bas1).reverse++[x]) (⟨x,fl,bl',pl⟩::bas1) (FraN.empty k::F1::r1) :=
  (S2.add (a:=⟨x,fl,bl',pl⟩) (F:=FraN.empty k) s3 ⟨⟨dxn,h3⟩,hfl,hbl,hpl⟩ nx (fun y hy=>by
   simp only [BrA.lists,List.mem_cons,List.not_mem_nil,or_false] at hy
   rcases hy with rfl | rfl | rfl
   ·exact upd2_none nfl
   ·exact upd2_none nbl
   ·exact upd2_none npl) nd).relist _
 have eo : (obs (⟨x,fl,bl',pl⟩::bas1)).reverse = (obs bas1).reverse++[x]:=by simp [obs]
 have ev : ((obs bas1).reverse.map V.ref++[V.ref x]) = ((obs bas1).reverse++[x]).map V.ref:=by rw [List.map_append]; rfl
 rw [ev]
 obtain ⟨dr,ob1⟩:=ob1
 obtain ⟨dr3,ob3⟩:=S3.ob
 refine hD _ _ ⟨⟨j,⟨x,fl,bl',pl⟩::bas1,FraN.empty k::F1::r1,u,_,rfl,by rw [eo]; exact S3,ps1.push k,inn1.push k,⟨?_,fw1.wi,?_⟩,by omega,hu,e1.trans e2⟩,?_⟩
 ·have:=fw1.le
  rw [List.flatMap_cons]
  show ns.length + ([]++(F1::r1).flatMap FraN.all).length≤_
  rw [List.nil_append]
  omega
 ·have:=fw1.dp
  show (F1::r1).length + 1≤_
  omega
 ·rw [rdm_eq ob1,rdm_eq ob3]
  omega
theorem sc_begin : FnScope ["reader","brackets","asked"] ["reader","brackets"] (defScope st_begin_brackets):=⟨rfl,rfl,rfl,by decide +kernel,rfl,by decide +kernel,by decide +kernel⟩
theorem ok_begin (co : CsOk cs) (T : FunT K mg "begin_brackets" st_begin_brackets) (cl : Cls K cs.rea) (clT : Cls K cs.tok) (naT : NoAt K cs.tok ["kind","word","place"]) (hN : ∃ t,mg "NUMBER" = some (.str "number" t))
  (NW : MetOk P w K mg base 1 cs.rea "now" ["self"] (spNow cs)) (TA : MetOk P w K mg base 5 cs.rea "take_asked" ["self"] (spAsked cs)) (TW : MetOk P w K mg base 5 cs.rea "take_written" ["self","word"] (spWritten cs))
  (BR : ClaOk P w K mg base 1 "Bracket" cs.bra ["self","asked"] (spBracket cs)) : DefOk P w K mg base 6 "begin_brackets" ["reader","brackets"] (spBegin cs):=by
 obtain ⟨f,fd,F,hm⟩:=T.ex
 obtain ⟨tn,hN⟩:=hN
 refine ⟨f,fd,hm,F.kp,F.binds (fun _ _ _ _ _ _ us hl=>match us,hl with | [_,_],_=>rfl),okX F sc_begin (fun vs H Q E h=>?_) (fun cdv A outer s H vs Q E hr h=>?_)⟩
 ·obtain ⟨H0,r,lt,as,T,i,b,A,p,B,ns,bl,bas,st,t,rfl,_⟩:=h
  rfl
 ·obtain ⟨H0,r,lt,as,T,i,b,Ad,p,B,ns,bl,bas,st,t,rfl,S,ps,inn,fw,tok,ht,kq,kx⟩:=h
  refine ⟨_,pss_one (ps_while PassesOwn.leaving (pw_or (pt_cmpR op_eq (pe_fld (pe_met0 (pv 0) cl (NW.mono (by decide : 1≤5)) hr pass_no) rfl) pe_str (nomark _)) (pw_or1 (pt_cmpR op_eq (pe_fld (pe_met0 (pv 0) cl (NW.mono (by decide : 1≤5)) hr pass_no) rfl) (pe_glob (v:=.str "number") (by rfl) hN ⟨tn,rfl⟩) (nomark _)))).pt
   (pss_cons (ps_set (i:=2) sc_begin.nd rfl (Or.inl rfl) pe_int)
   (pss_cons (ps_if (pt_cmpR op_eq (pe_fld (pe_met0 (pv 0) cl (NW.mono (by decide : 1≤5)) hr pass_no) rfl) (pe_glob (v:=.str "number") (by rfl) hN ⟨tn,rfl⟩) (nomark _))
    (pss_cons (ps_set (i:=2) sc_begin.nd rfl (Or.inl rfl) (pe_met0 (pv 0) cl TA hr pass_on)) (pss_one (ps_expr (pe_met (pv 0) cl TW hr pass_on (pa_cons pe_str pa_nil))))) pss_nil)
   (pss_cons (ps_expr (pe_met (pv 0) cl TW hr pass_on (pa_cons pe_str pa_nil)))
   (pss_one (ps_expr (pe_bm PySem.F.plainAttrs_list PySem.F.slot_list_append PySem.F.type_list_append mt_append (pv 1) (pa_cons (pe_cla (BR.mono (by decide : 1≤4)) hr rfl pass_no (pa_cons (pv 2) pa_nil)) pa_nil)))))))),?_⟩
  refine while_go (BgI cs H0 r lt as T i b Ad p B ns bl st) (fun _ H'=>rdm T r H') ⟨i,bas,st,t,none,rfl,S,ps,inn,fw,Nat.le_refl _,ht,rfl⟩ ?_
  rintro σ H1 ⟨i1,bas1,st1,t1,x1,rfl,S1,ps1,inn1,fw1,hi1,ht1,e1⟩
  match st1,inn1,ps1,S1,fw1,e1 with
  | [],inn1,_,_,_,_=>exact absurd inn1.bot (by simp [Bot])
  | F1::r1,inn1,ps1,S1,fw1,e1 =>
  have kx' : ∀ k,bA B ns (F1::r1) (tk T i1) = .error k→Thr E cs.cst (-100 - (k : Int)):=fun k hk=>kx k (e1.trans hk)
  have nxt : t1.1 ≠ []→∃ u,T[i1 + 1]? = some u:=tok.next i1 t1 ht1
  refine now_word clT naT rfl S1.rd ht1 ⟨rfl,_,rfl,ite2 (fun hc=>?_) fun hc=>?_⟩
  ·rw [vlit lit40] at hc
   have h40:=of_decide_eq_true hc
   obtain ⟨u,hu⟩:=nxt (by rw [h40]; simp)
   refine iteT (wgo ?_)
   refine now_kind clT naT rfl S1.rd ht1 ⟨rfl,_,rfl,ite2 (fun hk=>?_) fun hk=>?_⟩
   ·exfalso
    rw [kvlit,h40] at hk
    exact absurd hk (by decide +kernel)
   refine rd_meth rfl S1.rd (by decide +kernel) (by decide +kernel) ?_
   refine ⟨r,lt,as,T,i1,t1,_,rfl,S1.rd,ht1,fun hq H2 R2 k2=>?_,fun hq=>absurd ((wlit lit40).mpr h40) hq⟩
   exact bg_push (k:=0) S1.ob (fun σ' H' q=>q) (S1.moved co R2 k2) ps1 inn1 fw1 hi1 tok.few (Nat.lt_succ_self _) hu e1 (bt_open ht1 h40)
  ·rw [vlit lit40] at hc
   have h40 : ¬ t1.1 = [40]:=fun z=>hc (decide_eq_true z)
   refine now_kind clT naT rfl S1.rd ht1 ⟨rfl,_,rfl,ite2 (fun hk=>?_) fun hk=>?_⟩
   ·rw [kvlit] at hk
    have hk':=of_decide_eq_true hk
    obtain ⟨u,hu⟩:=nxt (fun z=>by rw [z] at hk'; exact absurd hk' (by decide +kernel))
    refine wgo ?_
    refine now_kind clT naT rfl S1.rd ht1 ⟨rfl,_,rfl,ite2 (fun _=>?_) fun hn=>?_⟩
    ·refine rd_meth rfl S1.rd (by decide +kernel) (by decide +kernel) ?_
     refine ⟨r,lt,as,T,i1,t1,rfl,S1.rd,tok,ht1,fun hq H2 R2 k2=>?_,fun hq=>?_⟩
     ·have S2:=S1.moved co R2 k2
      refine rd_meth rfl S2.rd (by decide +kernel) (by decide +kernel) ?_
      refine ⟨r,lt,as,T,i1 + 1,u,_,rfl,S2.rd,hu,fun hq2 H3 R3 k3=>?_,fun hq2=>?_⟩
      ·have hof:=(wlit litOf).mp hq2
       obtain ⟨v,hv⟩:=tok.next (i1 + 1) u hu (by rw [hof]; decide)
       have S3:=S2.moved co R3 k3
       refine rd_meth rfl S3.rd (by decide +kernel) (by decide +kernel) ?_
       refine ⟨r,lt,as,T,i1 + 2,v,_,rfl,S3.rd,hv,fun hq3 H4 R4 k4=>?_,fun hq3=>?_⟩
       ·have hp:=(wlit lit40).mp hq3
        obtain ⟨y,hy⟩:=tok.next (i1 + 2) v hv (by rw [hp]; simp)
        exact bg_push (k:=valueOf t1.1) S1.ob (fun σ' H' q=>q) (S3.moved co R4 k4) ps1 inn1 fw1 hi1 tok.few (by omega) hy e1 (bt_openK ht1 hu hv hk' hq.2 hof hp)
       ·exact kx' _ (bt_noPar ht1 hu hv hk' hq.2 hof fun z=>hq3 ((wlit lit40).mpr z))
      ·exact kx' _ (bt_noOf ht1 hu hk' hq.2 fun z=>hq2 ((wlit litOf).mpr z))
     ·exact kx' _ (bt_zero ht1 hk' (Decidable.byContradiction fun z=>hq ⟨hk',z⟩))
    ·exact absurd (by rw [kvlit]; exact decide_eq_true hk') hn
   ·rw [kvlit] at hk
    have hk' : ¬ kindS t1.1 = "number":=fun z=>hk (decide_eq_true z)
    exact kq H1 i1 bas1 (F1::r1) t1 S1 ps1 inn1 fw1 hi1 ht1 h40 hk' e1
end
end Pg
end
section
set_option linter.all false
set_option maxRecDepth 100000
set_option maxHeartbeats 4000000
namespace Pg
open PySem L2 Xc Sp Rb35
theorem den_parts (P : Nat) (ns : List NodeM) (G : FraN) (x : Nat) : FraN.den P ns { G with ps:=G.ps++[x] } = { FraN.den P ns G with ps:=(FraN.den P ns G).ps++[den P ns x] }:=by
 unfold FraN.den
 rw [List.map_append]
 rfl
section
variable {B : Bk} {ns : List NodeM} {F G : FraN} {r : List FraN} {T : List PT} {i : Nat} {t : PT}
theorem ct_close (S : PSt B ns (F::G::r)) (hp : F.ps ≠ []) (h0 : F.asked = 0) (hf : F.fs = []) (ht : T[i]? = some t) (h41 : t.1 = [41]) :
  cA B ns (F::G::r) (tk T i) = cA B (clNs (efNs B.P ns F) (efFra B.P ns F)) ({ G with ps:=G.ps++[clAt B.P (efNs B.P ns F) (efFra B.P ns F)] }::r) (tk T (i + 1))∧PSt B (clNs (efNs B.P ns F) (efFra B.P ns F)) ({ G with ps:=G.ps++[clAt B.P (efNs B.P ns F) (efFra B.P ns F)] }::r):=by
 obtain ⟨d1,d2,d3⟩:=S.ef_den hp
 have e1 : clNs (efNs B.P ns F) (efFra B.P ns F) = efNs B.P ns F:=if_pos h0
 have e2 : clAt B.P (efNs B.P ns F) (efFra B.P ns F) = efAt B.P ns F:=by
  rw [clAt,if_pos (show (efFra B.P ns F).asked = 0 from h0)]
  show (F.fs++[efAt B.P ns F]).headD 0 = _
  rw [hf]
  rfl
 rw [e1,e2]
 refine ⟨?_,(S.ef hp).close ⟨rfl,rfl⟩ (by show F.fs++_ = _; rw [hf]; rfl)⟩
 show cAll B.known (F.den B.P ns) (G.den B.P ns::r.map (FraN.den B.P ns)) (tk T i) = cAll B.known (FraN.den B.P (efNs B.P ns F) { G with ps:=G.ps++[efAt B.P ns F] }) (r.map (FraN.den B.P (efNs B.P ns F))) (tk T (i + 1))
 rw [tk_sign (by decide) ht h41,c_close _ h0,den_parts,d1]
 rw [List.map_cons,List.map_cons] at d3
 injection d3 with d3 d4
 rw [d3,d4]
 rfl
theorem ct_closeK (S : PSt B ns (F::G::r)) (hp : F.ps ≠ []) (h0 : F.asked ≠ 0) (hk : F.asked≤F.fs.length + 1) (ht : T[i]? = some t) (h41 : t.1 = [41]) :
  cA B ns (F::G::r) (tk T i) = cA B (clNs (efNs B.P ns F) (efFra B.P ns F)) ({ G with ps:=G.ps++[clAt B.P (efNs B.P ns F) (efFra B.P ns F)] }::r) (tk T (i + 1))∧PSt B (clNs (efNs B.P ns F) (efFra B.P ns F)) ({ G with ps:=G.ps++[clAt B.P (efNs B.P ns F) (efFra B.P ns F)] }::r):=by
 obtain ⟨d1,d2,d3⟩:=S.ef_den hp
 have S1:=S.ef hp
 have e1 : clNs (efNs B.P ns F) (efFra B.P ns F) = efNs B.P ns F++[(F.asked,F.fs++[efAt B.P ns F])]:=if_neg h0
 have e2 : clAt B.P (efNs B.P ns F) (efFra B.P ns F) = B.P + (efNs B.P ns F).length:=if_neg h0
 rw [e1,e2]
 have hl : F.asked≤(F.fs++[efAt B.P ns F]).length:=by rw [List.length_append]; simpa using hk
 refine ⟨?_,S1.closeK ⟨rfl,rfl⟩ (by show 1≤F.asked; omega) hl⟩
 have dfs : (F.fs++[efAt B.P ns F]).map (den B.P (efNs B.P ns F)) = F.fs.map (den B.P ns)++[grp 2 (F.bs.map (den B.P ns)++[grp 1 (F.ps.map (den B.P ns))])]:=congrArg Fra.fs d2
 have dn : den B.P (efNs B.P ns F++[(F.asked,F.fs++[efAt B.P ns F])]) (B.P + (efNs B.P ns F).length) = .some_ F.asked (ofL (F.fs.map (den B.P ns)++[grp 2 (F.bs.map (den B.P ns)++[grp 1 (F.ps.map (den B.P ns))])])):=by
  rw [den_new,dfs]
 have ext:=den_all (ns:=efNs B.P ns F) (P:=B.P) (l:=G::r) (more:=[(F.asked,F.fs++[efAt B.P ns F])]) fun i hi=>S1.lt i (mem_rest hi)
 rw [d3,List.map_cons,List.map_cons] at ext
 injection ext with x1 x2
 show cAll B.known (F.den B.P ns) (G.den B.P ns::r.map (FraN.den B.P ns)) (tk T i) = cAll B.known (FraN.den B.P (efNs B.P ns F++[(F.asked,F.fs++[efAt B.P ns F])]) { G with ps:=G.ps++[B.P + (efNs B.P ns F).length] }) (r.map (FraN.den B.P (efNs B.P ns F++[(F.asked,F.fs++[efAt B.P ns F])]))) (tk T (i + 1))
 rw [tk_sign (by decide) ht h41,c_closeK _ (by exact h0) (by
  show F.asked≤(F.fs.map (den B.P ns)++[_]).length
  rw [List.length_append,List.length_map]
  simpa using hk),den_parts,dn,x1,x2]
 rfl
theorem ct_few (h0 : F.asked ≠ 0) (hk : F.fs.length + 1 < F.asked) (ht : T[i]? = some t) (h41 : t.1 = [41]) : cA B ns (F::G::r) (tk T i) = .error t.2:=by
 show cAll B.known (F.den B.P ns) (G.den B.P ns::r.map (FraN.den B.P ns)) (tk T i) = _
 rw [tk_sign (by decide) ht h41]
 refine c_few _ (by exact h0) ?_
 show (F.fs.map (den B.P ns)++[_]).length < F.asked
 rw [List.length_append,List.length_map]
 simpa using hk
end
def spShut (cs : Cs) : Sp:=fun vs H Q E=>∃ (H0 : Hp) (r lt : Addr) (as : List Addr) (T : List PT) (i : Nat) (b : Addr) (A : BkA) (p : Nat) (B : Bk) (ns : List NodeM) (bl : Addr) (bas : List BrA) (F : FraN) (st : List FraN) (t : PT),vs = [.ref r,.ref bl,.ref b] ∧
 FSt cs H0 H r lt as T i b A p B ns bl (obs bas).reverse bas (F::st)∧PSt B ns (F::st)∧F.ps ≠ []∧Inn (F::st)∧Fw ns (F::st) (4 * i)∧TOk T∧T[i]? = some t ∧
 (∀ (H' : Hp) (i' : Nat) (A' : BkA) (ns' : List NodeM) (bas' : List BrA) (F' : FraN) (st' : List FraN) (t' : PT),FSt cs H0 H' r lt as T i' b A' p B ns' bl (obs bas').reverse bas' (F'::st')→PSt B ns' (F'::st')→F'.ps ≠ []→Inn (F'::st')→Fw ns' (F'::st') (4 * i')→i≤i'→T[i']? = some t' →
  (¬ t'.1 = [41]∨st' = [])→cA B ns (F::st) (tk T i) = cA B ns' (F'::st') (tk T i')→Q .non H') ∧
 (∀ k,cA B ns (F::st) (tk T i) = .error k→Thr E cs.cst (-100 - (k : Int)))
def ShI (cs : Cs) (H0 : Hp) (r lt : Addr) (as : List Addr) (T : List PT) (i : Nat) (b : Addr) (p : Nat) (B : Bk) (ns : List NodeM) (bl : Addr) (st : List FraN) : L2.St→Hp→Prop:=fun σ H' =>
 ∃ (i' : Nat) (A' : BkA) (ns' : List NodeM) (bas' : List BrA) (F' : FraN) (st' : List FraN) (t' : PT) (x : Option V),σ = [some (.ref r),some (.ref bl),some (.ref b),x]∧FSt cs H0 H' r lt as T i' b A' p B ns' bl (obs bas').reverse bas' (F'::st')∧PSt B ns' (F'::st')∧F'.ps ≠ []∧Inn (F'::st') ∧
  Fw ns' (F'::st') (4 * i')∧i≤i'∧T[i']? = some t'∧cA B ns st (tk T i) = cA B ns' (F'::st') (tk T i')
section
variable {P : Program} {w : World} {K : PySem.W.Frag} {mg : Str→Option Value} {base : Heap} {cs : Cs}
theorem sc_shut : FnScope ["reader","brackets","book","bracket"] ["reader","brackets","book"] (defScope st_close_brackets):=⟨rfl,rfl,rfl,by decide +kernel,rfl,by decide +kernel,by decide +kernel⟩
theorem ok_shut (co : CsOk cs) (T : FunT K mg "close_brackets" st_close_brackets) (cl : Cls K cs.rea) (clT : Cls K cs.tok) (naT : NoAt K cs.tok ["kind","word","place"]) (clBr : Cls K cs.bra) (naBr : NoAt K cs.bra ["asked","formulas","boths","parts"]) (hlen : mg "len" = none)
  (NW : MetOk P w K mg base 1 cs.rea "now" ["self"] (spNow cs)) (TK : MetOk P w K mg base 4 cs.rea "take" ["self","stands"] (spTake cs)) (EF : MetOk P w K mg base 6 cs.bra "end_formula" ["self","book"] (spEndFormula cs))
  (CL : DefOk P w K mg base 4 "closed" ["bracket","book"] (spClosed cs)) : DefOk P w K mg base 7 "close_brackets" ["reader","brackets","book"] (spShut cs):=by
 obtain ⟨f,fd,F,hm⟩:=T.ex
 refine ⟨f,fd,hm,F.kp,F.binds (fun _ _ _ _ _ _ us hl=>match us,hl with | [_,_,_],_=>rfl),okX F sc_shut (fun vs H Q E h=>?_) (fun cdv A outer s H vs Q E hr h=>?_)⟩
 ·obtain ⟨H0,r,lt,as,T,i,b,A,p,B,ns,bl,bas,F,st,t,rfl,_⟩:=h
  rfl
 ·obtain ⟨H0,r,lt,as,T,i,b,Ad,p,B,ns,bl,bas,F0,st0,t,rfl,S,ps,hps,inn,fw,tok,ht,kq,kx⟩:=h
  refine ⟨_,pss_one (ps_while PassesOwn.leaving (pw_and (pt_cmpR op_eq (pe_fld (pe_met0 (pv 0) cl (NW.mono (by decide : 1≤6)) hr pass_no) rfl) pe_str (nomark _)) (pw_and1 (pt_cmpR op_gt (pe_callB call_len_seq (by rfl) hlen PySem.boot_len (pa_cons (pv 1) pa_nil)) pe_int (nomark _)))).pt
   (pss_cons (ps_set (i:=3) sc_shut.nd rfl (Or.inl rfl) (pe_bm0 PySem.F.plainAttrs_list PySem.F.slot_list_pop PySem.F.type_list_pop mt_pop (pv 1)))
   (pss_cons (ps_expr (pe_met (pv 3) clBr EF hr pass_no (pa_cons (pv 2) pa_nil)))
   (pss_cons (ps_expr (pe_met (pv 0) cl (TK.mono (by decide : 4≤6)) hr pass_on (pa_cons (pe_cmpR op_le (pe_fld (pv 3) rfl) (pe_callB call_len_seq (by rfl) hlen PySem.boot_len (pa_cons (pe_fld (pv 3) rfl) pa_nil)) (nomark _)) pa_nil)))
   (pss_one (ps_expr (pe_bm PySem.F.plainAttrs_list PySem.F.slot_list_append PySem.F.type_list_append mt_append (pe_fld (pe_ix ix_list (pv 1) (pe_un un_neg pe_int) (fun _ _=>rfl)) rfl)
    (pa_cons (pe_def (CL.mono (by decide : 4≤6)) hr rfl pass_no (pa_cons (pv 3) (pa_cons (pv 2) pa_nil))) pa_nil)))))))),?_⟩
  refine while_go (ShI cs H0 r lt as T i b p B ns bl (F0::st0)) (fun _ H'=>rdm T r H') ⟨i,Ad,ns,bas,F0,st0,t,none,rfl,S,ps,hps,inn,fw,Nat.le_refl _,ht,rfl⟩ ?_
  rintro σ H1 ⟨i1,A1,ns1,bas1,F1,st1,t1,x1,rfl,S1,ps1,hps1,inn1,fw1,hi1,ht1,e1⟩
  have hil:=(List.getElem?_eq_some_iff.mp ht1).1
  have hTl:=tok.few
  refine now_word clT naT rfl S1.rd ht1 ⟨rfl,_,rfl,ite2 (fun hc=>?_) fun hc=>?_⟩
  ·rw [vlit lit41] at hc
   have h41:=of_decide_eq_true hc
   obtain ⟨u,hu⟩:=tok.next i1 t1 ht1 (by rw [h41]; simp)
   refine ⟨_,rfl,_,_,rfl,.inl (SqL.of S1.br.lst),_,_,rfl,rfl,_,rfl,ite2 (fun hc2=>?_) fun hc2=>?_⟩
   ·have hl1 : (1 : Int) < (((obs bas1).reverse.map V.ref).length : Int):=of_decide_eq_true hc2
    have lb : ((obs bas1).reverse.map V.ref).length = bas1.length:=by rw [List.length_map,List.length_reverse]; exact List.length_map _
    have ls:=Paired.length S1.br.at_
    rw [lb,ls] at hl1
    match bas1,st1,ps1,inn1,fw1,S1,e1,hl1,ls,lb with
    | [],st1,_,_,_,S1,_,_,ls,_=>exact absurd ls (by simp)
    | [a],st1,_,_,_,S1,_,hl1,ls,_=>exact absurd ls (by simp only [List.length_cons,List.length_nil] at hl1 ⊢; omega)
    | a::g::bas1,[],_,_,_,S1,_,_,ls,_=>exact absurd ls (by simp)
    | a::g::bas1,G::st1,ps1,inn1,fw1,S1,e1,hl1,ls,lb =>
    obtain ⟨dr1,obr1⟩:=S1.ob
    refine wgo ?_
    have er : (obs (a::g::bas1)).reverse = (obs (g::bas1)).reverse++[a.ob]:=by simp [obs]
    have lst1 : H1 bl = some (.lst ((obs (g::bas1)).reverse.map V.ref++[V.ref a.ob])):=by rw [S1.br.lst,er,List.map_append]; rfl
    refine ⟨_,rfl,.inl ⟨rfl,_,SqL.of lst1⟩,bl,_,V.ref a.ob,rfl,rfl,lst1,?_,?_⟩
    ·rw [List.length_append,List.length_singleton,Nat.add_sub_cancel,List.getElem?_append_right (Nat.le_refl _),Nat.sub_self]
     rfl
    rw [List.dropLast_concat]
    have S2:=S1.relist (obs (g::bas1)).reverse
    obtain ⟨dh,hob⟩:=S2.head.1.ob
    refine ⟨_,rfl,a.ob,dh,_,rfl,hob,brF_no _ _ _ _ (by decide +kernel) (by decide +kernel) (by decide +kernel) (by decide +kernel),_,rfl,?_⟩
    refine ⟨a,F1,b,A1,p,{ B with ns:=ns1 },rfl,S2.pair fw1 (by omega),fun A2 vs2 bl2 pl2 H3 br3 bk3 g3 hv3 nd3 nbl npl nbp k3=>?_⟩
    have fl1:=S2.facts.1
    unfold BrA.lists at fl1
    simp only [List.nodup_cons,List.mem_cons,List.not_mem_nil,or_false,not_or] at fl1
    have sfl : (upd H1 bl (.lst ((obs (g::bas1)).reverse.map V.ref))) a.fl ≠ none:=by rw [S2.head.1.fs]; simp
    have S3:=S2.swap (a':={ a with bl:=bl2,pl:=pl2 }) (ns':=efNs B.P ns1 F1) rfl k3 br3 bk3 g3 (fun y hy=>by
      simp only [BrA.lists,List.mem_cons,List.not_mem_nil,or_false]
      rcases hv3 y hy with e | e
      ·exact .inr (.inr e)
      ·exact .inr (.inl e)) (fun y hy=>by
      simp only [BrA.lists,List.mem_cons,List.not_mem_nil,or_false] at hy
      rcases hy with rfl | rfl | rfl
      ·refine .inl ⟨by simp [BrA.lists],fun z=>?_⟩
       rcases hv3 _ z with e | e
       ·exact fl1.1.2 e
       ·exact fl1.1.1 e
      ·exact .inr nbl
      ·exact .inr npl) (by
      simp only [BrA.lists,List.nodup_cons,List.mem_cons,List.not_mem_nil,or_false,not_or,not_false_eq_true,List.nodup_nil,and_true]
      exact ⟨⟨fun z=>sfl (by rw [z]; exact nbl),fun z=>sfl (by rw [z]; exact npl)⟩,nbp⟩)
    have fw3:=fw1.ef (P:=B.P) hps1 (by omega)
    have ps3:=ps1.ef hps1
    obtain ⟨dh3,hob3⟩:=S3.head.1.ob
    refine rd_meth rfl S3.rd (by decide +kernel) (by decide +kernel) ?_
    refine ⟨_,rfl,a.ob,cs.bra,dh3,_,_,rfl,hob3,clBr,naBr _ (by simp),brF_asked _ _ _ _,_,rfl,a.ob,cs.bra,dh3,_,_,rfl,hob3,clBr,naBr _ (by simp),brF_formulas _ _ _ _,_,_,rfl,.inl (SqL.of S3.head.1.fs),_,_,rfl,rfl,?_⟩
    have hlen3 : (nV (efFra B.P ns1 F1).fs).length = F1.fs.length + 1:=by rw [nV_length]; show (F1.fs++[_]).length = _; simp
    have hcl : decide (((efFra B.P ns1 F1).asked : Int)≤((nV (efFra B.P ns1 F1).fs).length : Int)) = decide (F1.asked≤F1.fs.length + 1):=by
     rw [hlen3]
     by_cases z : F1.asked≤F1.fs.length + 1
     ·rw [decide_eq_true z,decide_eq_true]
      show (F1.asked : Int)≤_
      omega
     ·rw [decide_eq_false z,decide_eq_false]
      show ¬ (F1.asked : Int)≤_
      omega
    refine ⟨r,lt,as,T,i1,t1,_,rfl,S3.rd,ht1,fun hq H4 R4 k4=>?_,fun hq=>?_⟩
    ·have hk : F1.asked≤F1.fs.length + 1:=by
      have hq' : decide (((efFra B.P ns1 F1).asked : Int)≤((nV (efFra B.P ns1 F1).fs).length : Int)) = true:=hq
      rw [hcl] at hq'
      exact of_decide_eq_true hq'
     have S4:=S3.moved co R4 k4
     obtain ⟨dh4,hob4⟩:=S4.head.1.ob
     have tl4:=S4.head.2
     cases tl4 with
     | cons bg4 tl4 =>
     obtain ⟨dg4,hog4⟩:=bg4.ob
     have lst4 : H4 bl = some (.lst (((obs bas1).reverse.map V.ref)++[V.ref g.ob])):=by
      rw [S4.br.lst]
      have : (obs (g::bas1)).reverse = (obs bas1).reverse++[g.ob]:=by simp [obs]
      rw [this,List.map_append]
      rfl
     refine ⟨_,rfl,_,rfl,bl,_,_,V.ref g.ob,rfl,rfl,SqL.of lst4,atI_last _ _,g.ob,cs.bra,dg4,_,_,rfl,hog4,clBr,naBr _ (by simp),brF_parts _ _ _ _,.inl ⟨rfl,_,SqL.of bg4.ps⟩,_,rfl,_,rfl,?_⟩
     have hfne : (efFra B.P ns1 F1).fs ≠ []:=by show F1.fs++[_] ≠ []; simp
     have fle3:=fw3.le
     refine ⟨{ a with bl:=bl2,pl:=pl2 },efFra B.P ns1 F1,b,A2,p,{ B with ns:=efNs B.P ns1 F1 },rfl,S4.head.1,S4.bk,(S4.facts.2.1 _ (by simp [BrA.lists])).1,hfne,by show (efNs B.P ns1 F1).length < 100000; omega,fun A5 vs5 H5 bk5 g5 hv5 hl5 k5=>?_⟩
     have S5:=S4.gone (ns':=clNs (efNs B.P ns1 F1) (efFra B.P ns1 F1)) k5 bk5 g5 hv5
     have fw5:=fw3.cl (P:=B.P) (x:=clAt B.P (efNs B.P ns1 F1) (efFra B.P ns1 F1)) (by show 1≤(F1.fs++[_]).length; simp) (by omega)
     have hG:=fw1.le
     rw [List.flatMap_cons,List.flatMap_cons,List.length_append,List.length_append,all_len G] at hG
     refine ⟨g.pl,_,_,rfl,rfl,S5.head.1.ps,?_,?_⟩
     ·rw [nV_length]
      exact Nat.lt_trans (show _ < 100000 by omega) line100000
     have S6:=S5.part (clAt B.P (efNs B.P ns1 F1) (efFra B.P ns1 F1))
     obtain ⟨dr6,ob6⟩:=S6.ob
     have key : cA B ns1 (F1::G::st1) (tk T i1) = cA B (clNs (efNs B.P ns1 F1) (efFra B.P ns1 F1)) ({ G with ps:=G.ps++[clAt B.P (efNs B.P ns1 F1) (efFra B.P ns1 F1)] }::st1) (tk T (i1 + 1))∧PSt B (clNs (efNs B.P ns1 F1) (efFra B.P ns1 F1)) ({ G with ps:=G.ps++[clAt B.P (efNs B.P ns1 F1) (efFra B.P ns1 F1)] }::st1):=by
      by_cases h0 : F1.asked = 0
      ·exact ct_close ps1 hps1 h0 (inn1.pl F1 (by simp) h0) ht1 h41
      ·exact ct_closeK ps1 hps1 h0 hk ht1 h41
     refine ⟨⟨i1 + 1,A5,_,g::bas1,{ G with ps:=G.ps++[clAt B.P (efNs B.P ns1 F1) (efFra B.P ns1 F1)] },st1,u,_,rfl,S6,key.2,by simp,inn1.tail.head rfl (fun z=>inn1.pl G (by simp) z),fw5.mono (by omega),by omega,hu,e1.trans key.1⟩,?_⟩
     refine Nat.lt_of_le_of_lt (Nat.le_of_eq (rdm_eq ob6)) ?_
     rw [rdm_eq obr1]
     omega
    ·have hk : ¬ F1.asked≤F1.fs.length + 1:=by
      have hq' : decide (((efFra B.P ns1 F1).asked : Int)≤((nV (efFra B.P ns1 F1).fs).length : Int)) = false:=hq
      rw [hcl] at hq'
      exact of_decide_eq_false hq'
     exact kx _ (e1.trans (ct_few (by omega) (by omega) ht1 h41))
   ·have hl1 : ¬ (1 : Int) < (((obs bas1).reverse.map V.ref).length : Int):=fun z=>hc2 (decide_eq_true z)
    have lb : ((obs bas1).reverse.map V.ref).length = bas1.length:=by rw [List.length_map,List.length_reverse]; exact List.length_map _
    have ls:=Paired.length S1.br.at_
    rw [lb,ls,List.length_cons] at hl1
    exact kq H1 i1 A1 ns1 bas1 F1 st1 t1 S1 ps1 hps1 inn1 fw1 hi1 ht1 (.inr (List.eq_nil_of_length_eq_zero (by omega))) e1
  ·rw [vlit lit41] at hc
   exact iteF (kq H1 i1 A1 ns1 bas1 F1 st1 t1 S1 ps1 hps1 inn1 fw1 hi1 ht1 (.inl fun z=>hc (decide_eq_true z)) e1)
end
end Pg
end
section
set_option linter.all false
set_option maxRecDepth 100000
set_option maxHeartbeats 4000000
namespace Pg
open PySem L2 Xc Sp Rb35
section
variable {B : Bk} {ns : List NodeM} {F G : FraN} {r : List FraN} {T : List PT} {i : Nat} {t : PT}
theorem ct_and (ht : T[i]? = some t) (h : t.1 = [38]) : cA B ns (F::r) (tk T i) = bA B ns (F::r) (tk T (i + 1)):=by
 show cAll _ _ _ (tk T i) = _
 rw [tk_sign (by decide) ht h,c_and]
 rfl
theorem ct_or (S : PSt B ns (F::r)) (ht : T[i]? = some t) (h : t.1 = [124]) : cA B ns (F::r) (tk T i) = bA B (ebNs ns F) (ebFra B.P ns F::r) (tk T (i + 1)):=by
 obtain ⟨d1,d2⟩:=S.eb_den
 show cAll _ _ _ (tk T i) = bAll _ (FraN.den B.P (ebNs ns F) (ebFra B.P ns F)) (r.map (FraN.den B.P (ebNs ns F))) _
 rw [tk_sign (by decide) ht h,c_or,d1,d2]
 rfl
theorem ct_comma (S : PSt B ns (F::G::r)) (hp : F.ps ≠ []) (h0 : F.asked ≠ 0) (ht : T[i]? = some t) (h : t.1 = [44]) : cA B ns (F::G::r) (tk T i) = bA B (efNs B.P ns F) (efFra B.P ns F::G::r) (tk T (i + 1)):=by
 obtain ⟨d1,d2,d3⟩:=S.ef_den hp
 show cAll _ _ _ (tk T i) = bAll _ (FraN.den B.P (efNs B.P ns F) (efFra B.P ns F)) ((G::r).map (FraN.den B.P (efNs B.P ns F))) _
 rw [tk_sign (by decide) ht h,d2,d3]
 exact c_comma _ (by exact h0) _
end
def spBetween (cs : Cs) : Sp:=fun vs H Q E=>∃ (H0 : Hp) (r lt : Addr) (as : List Addr) (T : List PT) (i : Nat) (b : Addr) (A : BkA) (p : Nat) (B : Bk) (ns : List NodeM) (bl : Addr) (lo : List Addr) (a : BrA) (bas : List BrA) (F : FraN) (st : List FraN) (t : PT),vs = [.ref r,.ref a.ob,.ref b] ∧
 FSt cs H0 H r lt as T i b A p B ns bl lo (a::bas) (F::st)∧PSt B ns (F::st)∧F.ps ≠ []∧Inn (F::st)∧Fw ns (F::st) (4 * i)∧TOk T∧T[i]? = some t ∧
 (∀ (H' : Hp) (A' : BkA) (ns' : List NodeM) (a' : BrA) (F' : FraN) (t' : PT),FSt cs H0 H' r lt as T (i + 1) b A' p B ns' bl lo (a'::bas) (F'::st)→a'.ob = a.ob→PSt B ns' (F'::st)→Inn (F'::st)→Fw ns' (F'::st) (4 * (i + 1))→T[i + 1]? = some t' →
  cA B ns (F::st) (tk T i) = bA B ns' (F'::st) (tk T (i + 1))→Q (.bl true) H') ∧
 (¬ t.1 = [124]→¬ t.1 = [38]→(¬ t.1 = [44]∨F.asked = 0)→Q (.bl false) H)
section
variable {P : Program} {w : World} {K : PySem.W.Frag} {mg : Str→Option Value} {base : Heap} {cs : Cs}
theorem sc_between : FnScope ["reader","bracket","book","word"] ["reader","bracket","book"] (defScope st_read_between):=⟨rfl,rfl,rfl,by decide +kernel,rfl,by decide +kernel,by decide +kernel⟩
theorem ok_between (co : CsOk cs) (T : FunT K mg "read_between" st_read_between) (cl : Cls K cs.rea) (clT : Cls K cs.tok) (naT : NoAt K cs.tok ["kind","word","place"]) (clBr : Cls K cs.bra) (naBr : NoAt K cs.bra ["asked","formulas","boths","parts"])
  (NW : MetOk P w K mg base 1 cs.rea "now" ["self"] (spNow cs)) (TW : MetOk P w K mg base 5 cs.rea "take_written" ["self","word"] (spWritten cs)) (EB : MetOk P w K mg base 5 cs.bra "end_both" ["self","book"] (spEndBoth cs)) (EF : MetOk P w K mg base 6 cs.bra "end_formula" ["self","book"] (spEndFormula cs)) :
  DefOk P w K mg base 7 "read_between" ["reader","bracket","book"] (spBetween cs):=by
 obtain ⟨f,fd,F,hm⟩:=T.ex
 refine ⟨f,fd,hm,F.kp,F.binds (fun _ _ _ _ _ _ us hl=>match us,hl with | [_,_,_],_=>rfl),okX F sc_between (fun vs H Q E h=>?_) (fun cdv A outer s H vs Q E hr h=>?_)⟩
 ·obtain ⟨H0,r,lt,as,T,i,b,A,p,B,ns,bl,lo,a,bas,F,st,t,rfl,_⟩:=h
  rfl
 ·obtain ⟨H0,r,lt,as,T,i,b,Ad,p,B,ns,bl,lo,a,bas,F0,st,t,rfl,S,ps,hps,inn,fw,tok,ht,kq,kf⟩:=h
  refine ⟨_,pss_cons (ps_set (i:=3) sc_between.nd rfl (Or.inl rfl) (pe_fld (pe_met0 (pv 0) cl (NW.mono (by decide : 1≤6)) hr pass_no) rfl))
   (pss_cons (ps_if (pt_cmpR op_eq (pv 3) pe_str (nomark _)) (pss_one (ps_expr (pe_met (pv 1) clBr (EB.mono (by decide : 5≤6)) hr pass_no (pa_cons (pv 2) pa_nil))))
    (pss_one (ps_if (pw_and (pt_cmpR op_eq (pv 3) pe_str (nomark _)) (pw_and1 (pt_cmpR op_gt (pe_fld (pv 1) rfl) pe_int (nomark _)))).pt (pss_one (ps_expr (pe_met (pv 1) clBr EF hr pass_no (pa_cons (pv 2) pa_nil))))
     (pss_one (ps_if (pt_cmpR op_ne (pv 3) pe_str (nomark _)) (pss_one (ps_ret pe_bl)) pss_nil)))))
   (pss_cons (ps_expr (pe_met (pv 0) cl (TW.mono (by decide : 5≤6)) hr pass_on (pa_cons (pv 3) pa_nil)))
   (pss_one (ps_ret pe_bl)))),?_⟩
  have hil:=(List.getElem?_eq_some_iff.mp ht).1
  have hTl:=tok.few
  obtain ⟨dh,hob⟩:=S.head.1.ob
  have fl1:=S.facts.1
  unfold BrA.lists at fl1
  simp only [List.nodup_cons,List.mem_cons,List.not_mem_nil,or_false,not_or] at fl1
  have sfl : H a.fl ≠ none:=by rw [S.head.1.fs]; simp
  have sbl : H a.bl ≠ none:=by rw [S.head.1.bs]; simp
  refine now_word clT naT rfl S.rd ht ?_
  refine ⟨_,rfl,rfl,_,rfl,ite2 (fun hc=>?_) fun hc=>?_⟩
  ·rw [vlit lit124] at hc
   have h1:=of_decide_eq_true hc
   obtain ⟨u,hu⟩:=tok.next i t ht (by rw [h1]; simp)
   refine ⟨_,rfl,a.ob,dh,_,rfl,hob,brF_no _ _ _ _ (by decide +kernel) (by decide +kernel) (by decide +kernel) (by decide +kernel),_,rfl,?_⟩
   refine ⟨a,F0,b,Ad,p,{ B with ns:=ns },rfl,S.pair fw (by omega),fun A2 vs2 pl2 H2 br2 bk2 g2 hv2 hl2 npl k2=>?_⟩
   have S2:=S.swap (a':={ a with pl:=pl2 }) (ns':=ebNs ns F0) rfl (k2.mono fun x hx=>by simp at hx ⊢; rcases hx with rfl | rfl | rfl <;> simp) br2 bk2 g2 (fun y hy=>by rw [hv2 y hy]; simp [BrA.lists]) (fun y hy=>by
     simp only [BrA.lists,List.mem_cons,List.not_mem_nil,or_false] at hy
     rcases hy with rfl | rfl | rfl
     ·exact .inl ⟨by simp [BrA.lists],fun z=>fl1.1.2 (hv2 _ z)⟩
     ·exact .inl ⟨by simp [BrA.lists],fun z=>fl1.2.1 (hv2 _ z)⟩
     ·exact .inr npl) (by
     simp only [BrA.lists,List.nodup_cons,List.mem_cons,List.not_mem_nil,or_false,not_or,not_false_eq_true,List.nodup_nil,and_true]
     exact ⟨⟨fl1.1.1,fun z=>sfl (by rw [z]; exact npl)⟩,fun z=>sbl (by rw [z]; exact npl)⟩)
   refine rd_meth rfl S2.rd (by decide +kernel) (by decide +kernel) ?_
   refine ⟨_,rfl,r,lt,as,T,i,t,_,rfl,S2.rd,ht,fun _ H3 R3 k3=>?_,fun hq=>absurd rfl hq⟩
   exact kq H3 A2 _ _ _ u (S2.moved co R3 k3) rfl (ps.eb hps) (inn.head rfl fun z=>inn.pl F0 (by simp) z) ((fw.eb (P:=B.P) hps (by omega)).mono (by omega)) hu (ct_or ps ht h1)
  ·rw [vlit lit124] at hc
   have h1 : ¬ t.1 = [124]:=fun z=>hc (decide_eq_true z)
   refine ⟨_,rfl,rfl,_,rfl,ite2 (fun hc2=>?_) fun hc2=>?_⟩
   ·rw [vlit lit44] at hc2
    have h2:=of_decide_eq_true hc2
    obtain ⟨u,hu⟩:=tok.next i t ht (by rw [h2]; simp)
    refine ⟨_,rfl,a.ob,cs.bra,dh,_,_,rfl,hob,clBr,naBr _ (by simp),brF_asked _ _ _ _,_,_,rfl,rfl,_,rfl,ite2 (fun hc3=>?_) fun hc3=>?_⟩
    ·have h3 : (0 : Int) < (F0.asked : Int):=of_decide_eq_true hc3
     have h0 : F0.asked ≠ 0:=by omega
     match st,S,ps,inn,fw,kq,kf with
     | [],S,ps,inn,fw,kq,kf=>exact absurd inn.bot h0
     | G::st,S,ps,inn,fw,kq,kf =>
     refine ⟨_,rfl,a.ob,dh,_,rfl,hob,brF_no _ _ _ _ (by decide +kernel) (by decide +kernel) (by decide +kernel) (by decide +kernel),_,rfl,?_⟩
     refine ⟨a,F0,b,Ad,p,{ B with ns:=ns },rfl,S.pair fw (by omega),fun A2 vs2 bl2 pl2 H2 br2 bk2 g2 hv2 nd2 nbl npl nbp k2=>?_⟩
     have S2:=S.swap (a':={ a with bl:=bl2,pl:=pl2 }) (ns':=efNs B.P ns F0) rfl k2 br2 bk2 g2 (fun y hy=>by
       simp only [BrA.lists,List.mem_cons,List.not_mem_nil,or_false]
       rcases hv2 y hy with e | e
       ·exact .inr (.inr e)
       ·exact .inr (.inl e)) (fun y hy=>by
       simp only [BrA.lists,List.mem_cons,List.not_mem_nil,or_false] at hy
       rcases hy with rfl | rfl | rfl
       ·refine .inl ⟨by simp [BrA.lists],fun z=>?_⟩
        rcases hv2 _ z with e | e
        ·exact fl1.1.2 e
        ·exact fl1.1.1 e
       ·exact .inr nbl
       ·exact .inr npl) (by
       simp only [BrA.lists,List.nodup_cons,List.mem_cons,List.not_mem_nil,or_false,not_or,not_false_eq_true,List.nodup_nil,and_true]
       exact ⟨⟨fun z=>sfl (by rw [z]; exact nbl),fun z=>sfl (by rw [z]; exact npl)⟩,nbp⟩)
     refine rd_meth rfl S2.rd (by decide +kernel) (by decide +kernel) ?_
     refine ⟨_,rfl,r,lt,as,T,i,t,_,rfl,S2.rd,ht,fun _ H3 R3 k3=>?_,fun hq=>absurd rfl hq⟩
     exact kq H3 A2 _ _ _ u (S2.moved co R3 k3) rfl (ps.ef hps) (inn.head rfl fun z=>absurd z h0) ((fw.ef (P:=B.P) hps (by omega)).mono (by omega)) hu (ct_comma ps hps h0 ht h2)
    ·have h0 : F0.asked = 0:=by
      have : ¬ (0 : Int) < (F0.asked : Int):=fun z=>hc3 (decide_eq_true z)
      omega
     have h38 : ¬ t.1 = [38]:=by rw [h2]; decide
     refine ⟨_,rfl,rfl,_,rfl,ite2 (fun _=>?_) fun hc4=>?_⟩
     ·exact kf h1 h38 (.inr h0)
     ·rw [vlit lit38,decide_eq_false h38] at hc4
      exact absurd rfl hc4
   ·rw [vlit lit44] at hc2
    have h2 : ¬ t.1 = [44]:=fun z=>hc2 (decide_eq_true z)
    refine iteF ?_
    refine ⟨_,rfl,rfl,_,rfl,ite2 (fun hc4=>?_) fun hc4=>?_⟩
    ·rw [vlit lit38] at hc4
     exact kf h1 (fun z=>by rw [decide_eq_true z] at hc4; exact absurd hc4 (by decide)) (.inl h2)
    ·rw [vlit lit38] at hc4
     have h38 : t.1 = [38]:=Decidable.byContradiction fun z=>hc4 (by rw [decide_eq_false z]; rfl)
     obtain ⟨u,hu⟩:=tok.next i t ht (by rw [h38]; simp)
     refine rd_meth rfl S.rd (by decide +kernel) (by decide +kernel) ?_
     refine ⟨_,rfl,r,lt,as,T,i,t,_,rfl,S.rd,ht,fun _ H3 R3 k3=>?_,fun hq=>absurd rfl hq⟩
     exact kq H3 Ad ns a F0 u (S.moved co R3 k3) rfl ps inn (fw.mono (by omega)) hu (ct_and ht h38)
end
end Pg
end
section
set_option linter.all false
set_option maxRecDepth 100000
set_option maxHeartbeats 4000000
namespace Pg
open PySem L2 Xc Sp Rb35
def Sim (A A' : BkA) : Prop:=A'.na = A.na∧A'.ma = A.ma∧A'.la = A.la∧A'.pa = A.pa
theorem FSt.sim {cs : Cs} (co : CsOk cs) {H0 H : Hp} {r lt b bl : Addr} {as lo : List Addr} {T : List PT} {i : Nat} {A A' : BkA} {p : Nat} {B : Bk} {ns : List NodeM} {bas : List BrA} {st : List FraN} (R0 : BookAt cs H0 b A p B) (S : FSt cs H0 H r lt as T i b A' p B ns bl lo bas st) : Sim A A':=by
 obtain ⟨dx,ob0⟩:=R0.ob
 obtain ⟨dr,j,hr⟩:=S.r0
 obtain ⟨xs,hn⟩:=S.na0
 have h1:=S.kp _ _ ob0 (by
  simp only [List.mem_cons,List.not_mem_nil,or_false,not_or]
  refine ⟨ne_of ob0 hr ?_,insNe ob0 hn⟩
  intro z
  injection z with z
  exact co.rb z.symm)
 obtain ⟨dy,ob1⟩:=S.bk.ob
 rw [h1] at ob1
 injection ob1 with ob1
 injection ob1 with _ _ ob1
 unfold bkF at ob1
 simp only [List.cons.injEq,Prod.mk.injEq,V.ref.injEq,true_and,and_true] at ob1
 exact ⟨ob1.2.1.symm,ob1.2.2.2.symm,ob1.2.2.1.symm,ob1.1.symm⟩
def spFormula (cs : Cs) : Sp:=fun vs H Q E=>∃ (r lt : Addr) (as : List Addr) (T : List PT) (i : Nat) (b : Addr) (A : BkA) (p : Nat) (B : Bk) (t : PT),vs = [.ref r,.ref b]∧ReadAt cs H r lt as T i∧BookAt cs H b A p B∧lt ≠ A.na∧B.Ok∧Fw B.ns [] (4 * i)∧TOk T∧T[i]? = some t ∧
 (∀ (H' : Hp) (j : Nat) (A' : BkA) (ns' : List NodeM) (x : Nat) (u : PT),ReadAt cs H' r lt as T j→BookAt cs H' b A' p { B with ns:=ns' }→Sim A A'→Kp [r,A.na] H H'→PSt B ns' [⟨0,[x],[],[]⟩]→Fw ns' [] (4 * j + 2)→i < j→T[j]? = some u →
  formula B.known (tk T i) = .ok (den B.P ns' x,tk T j)→Q (.int (x : Int)) H') ∧
 (∀ k,formula B.known (tk T i) = .error k→Thr E cs.cst (-100 - (k : Int)))
def FoI (cs : Cs) (H0 : Hp) (r lt : Addr) (as : List Addr) (T : List PT) (i : Nat) (b : Addr) (p : Nat) (B : Bk) (bl : Addr) : L2.St→Hp→Prop:=fun σ H' =>
 ∃ (g : Bool) (i' : Nat) (A' : BkA) (ns' : List NodeM) (a' : BrA) (bas' : List BrA) (F' : FraN) (st' : List FraN) (t' : PT) (x : Option V),σ = [some (.ref r),some (.ref b),some (.ref bl),some (.bl g),x]∧FSt cs H0 H' r lt as T i' b A' p B ns' bl (obs (a'::bas')).reverse (a'::bas') (F'::st') ∧
  PSt B ns' (F'::st')∧Inn (F'::st')∧Fw ns' (F'::st') (4 * i')∧i≤i'∧T[i']? = some t' ∧
  (g = true→formula B.known (tk T i) = bA B ns' (F'::st') (tk T i')) ∧
  (g = false→i < i'∧F'.ps ≠ []∧(¬ t'.1 = [41]∨st' = [])∧¬ t'.1 = [124]∧¬ t'.1 = [38]∧(¬ t'.1 = [44]∨F'.asked = 0)∧formula B.known (tk T i) = cA B ns' (F'::st') (tk T i'))
theorem obs_last (a : BrA) (bas : List BrA) : (obs (a::bas)).reverse.map V.ref = (obs bas).reverse.map V.ref++[V.ref a.ob]:=by simp [obs]
section
variable {B : Bk} {ns : List NodeM} {F G : FraN} {r : List FraN} {T : List PT} {i : Nat} {t : PT}
theorem bt_part (k : B.Ok) (S : PSt B ns (F::r)) {x : Nat} (ht : T[i]? = some t) (h1 : kindS t.1 = "name") (h2 : look B.names t.1 = some x) : bA B ns (F::r) (tk T i) = cA B ns ({ F with ps:=F.ps++[x] }::r) (tk T (i + 1)):=by
 show bAll _ _ _ _ = cAll _ (FraN.den B.P ns { F with ps:=F.ps++[x] }) _ _
 rw [bt_name ht h1 (by rw [Bk.meaning_eq,h2]; rfl),den_parts,S.old (k.look_lt h2)]
theorem ct_bad (ht : T[i]? = some t) (h1 : ¬ t.1 = [41]) (h2 : ¬ t.1 = [124]) (h3 : ¬ t.1 = [38]) (h4 : ¬ t.1 = [44]∨F.asked = 0) : cA B ns (F::G::r) (tk T i) = .error t.2:=by
 show cAll _ _ (_::_) _ = _
 rw [c_bad (by rw [tk_is (by decide) ht]; exact decide_eq_false h3) (by rw [tk_is (by decide) ht]; exact decide_eq_false h2) (by rw [tk_is (by decide) ht]; exact decide_eq_false h1) (h4.imp (fun z=>by rw [tk_is (by decide) ht]; exact decide_eq_false z) fun z=>z),tk_place ht]
theorem ct_end (S : PSt B ns [F]) (hp : F.ps ≠ []) (ht : T[i]? = some t) (h2 : ¬ t.1 = [124]) (h3 : ¬ t.1 = [38]) : cA B ns [F] (tk T i) = .ok (den B.P (efNs B.P ns F) (efAt B.P ns F),tk T i):=by
 rw [(S.ef_den hp).1]
 exact c_end (by rw [tk_is (by decide) ht]; exact decide_eq_false h3) (by rw [tk_is (by decide) ht]; exact decide_eq_false h2)
end
section
variable {P : Program} {w : World} {K : PySem.W.Frag} {mg : Str→Option Value} {base : Heap} {cs : Cs}
theorem sc_formula : FnScope ["reader","book","brackets","goes_on","name"] ["reader","book"] (defScope st_read_formula):=⟨rfl,rfl,rfl,by decide +kernel,rfl,by decide +kernel,by decide +kernel⟩
theorem ok_formula (co : CsOk cs) (T : FunT K mg "read_formula" st_read_formula) (cl : Cls K cs.rea) (clB : Cls K cs.boo) (naB : NoAt K cs.boo ["prime","people","nodes","lets","names"]) (clBr : Cls K cs.bra) (naBr : NoAt K cs.bra ["asked","formulas","boths","parts"]) (hlen : mg "len" = none)
  (BR : ClaOk P w K mg base 1 "Bracket" cs.bra ["self","asked"] (spBracket cs)) (BG : DefOk P w K mg base 6 "begin_brackets" ["reader","brackets"] (spBegin cs)) (KN : MetOk P w K mg base 5 cs.rea "take_known_name" ["self","names"] (spName cs true))
  (SH : DefOk P w K mg base 7 "close_brackets" ["reader","brackets","book"] (spShut cs)) (BW : DefOk P w K mg base 7 "read_between" ["reader","bracket","book"] (spBetween cs)) (TK : MetOk P w K mg base 4 cs.rea "take" ["self","stands"] (spTake cs)) (EF : MetOk P w K mg base 6 cs.bra "end_formula" ["self","book"] (spEndFormula cs)) :
  DefOk P w K mg base 8 "read_formula" ["reader","book"] (spFormula cs):=by
 obtain ⟨f,fd,F,hm⟩:=T.ex
 refine ⟨f,fd,hm,F.kp,F.binds (fun _ _ _ _ _ _ us hl=>match us,hl with | [_,_],_=>rfl),okX F sc_formula (fun vs H Q E h=>?_) (fun cdv A outer s H vs Q E hr h=>?_)⟩
 ·obtain ⟨r,lt,as,T,i,b,A,p,B,t,rfl,_⟩:=h
  rfl
 ·obtain ⟨r,lt,as,T,i,b,Ad,p,B,t,rfl,R,Rb,hlt,ok,fw,tok,ht,kq,kx⟩:=h
  refine ⟨_,pss_cons (ps_set (i:=2) sc_formula.nd rfl (Or.inl rfl) (pe_lst (pa_cons (pe_cla (BR.mono (by decide : 1≤6)) hr rfl pass_no (pa_cons pe_int pa_nil)) pa_nil)))
   (pss_cons (ps_set (i:=3) sc_formula.nd rfl (Or.inl rfl) pe_bl)
   (pss_cons (ps_while PassesOwn.leaving (pt_val (pv 3))
    (pss_cons (ps_expr (pe_def (BG.mono (by decide : 6≤7)) hr rfl pass_on (pa_cons (pv 0) (pa_cons (pv 2) pa_nil))))
    (pss_cons (ps_set (i:=4) sc_formula.nd rfl (Or.inl rfl) (pe_met (pv 0) cl (KN.mono (by decide : 5≤7)) hr pass_on (pa_cons (pe_fld (pv 1) rfl) pa_nil)))
    (pss_cons (ps_expr (pe_bm PySem.F.plainAttrs_list PySem.F.slot_list_append PySem.F.type_list_append mt_append (pe_fld (pe_ix ix_list (pv 2) (pe_un un_neg pe_int) (fun _ _=>rfl)) rfl) (pa_cons (pe_dget (hu_of hr) (pe_fld (pv 1) rfl) (pv 4) (fun _ _=>rfl)) pa_nil)))
    (pss_cons (ps_expr (pe_def SH hr rfl pass_on (pa_cons (pv 0) (pa_cons (pv 2) (pa_cons (pv 1) pa_nil)))))
    (pss_one (ps_set (i:=3) sc_formula.nd rfl (Or.inl rfl) (pe_def BW hr rfl pass_on (pa_cons (pv 0) (pa_cons (pe_ix ix_list (pv 2) (pe_un un_neg pe_int) (fun _ _=>rfl)) (pa_cons (pv 1) pa_nil)))))))))))
   (pss_cons (ps_if (pt_cmpR op_gt (pe_callB call_len_seq (by rfl) hlen PySem.boot_len (pa_cons (pv 2) pa_nil)) pe_int (nomark _)) (pss_one (ps_expr (pe_met (pv 0) cl (TK.mono (by decide : 4≤7)) hr pass_on (pa_cons pe_bl pa_nil)))) pss_nil)
   (pss_cons (ps_expr (pe_met (pe_ix ix_list (pv 2) pe_int (fun _ _=>rfl)) clBr (EF.mono (by decide : 6≤7)) hr pass_no (pa_cons (pv 1) pa_nil)))
   (pss_one (ps_ret (pe_ix ix_list (pe_fld (pe_ix ix_list (pv 2) pe_int (fun _ _=>rfl)) rfl) pe_int (fun _ _=>rfl)))))))),?_⟩
  intro x dxn nx ndx nex
  refine ⟨x,dxn,0,rfl,upd_same,fun fl bl' pl H1 h1 hfl hbl hpl nfl nbl npl nd k1=>⟨rfl,by show 1≤sizeLine; decide,fun bl nb=>?_⟩⟩
  have s1 : Same H H1:=Same.made nx ndx fun c o e hc=>k1 c o e (by simpa using hc)
  have kb : Kp [] H1 (upd H1 bl (.lst [V.ref x])):=Kp.refl.upd (.inr nb)
  have s2 : Same H (upd H1 bl (.lst [V.ref x])):=s1.trans kb.toSame
  have hTl:=tok.few
  obtain ⟨dxb,obb⟩:=Rb.ob
  have ne1 : ∀ {y : Addr} {o : HO},H1 y = some o→y ≠ bl:=fun h=>ne_of_none h nb
  have S0 : FSt cs H (upd H1 bl (.lst [V.ref x])) r lt as T i b Ad p B B.ns bl [x] [⟨x,fl,bl',pl⟩] [FraN.empty 0]:=by
   obtain ⟨dr,obr⟩:=R.ob
   refine ⟨R.tk,⟨dr,_,obr⟩,⟨_,Rb.nodes⟩,hlt,⟨dr,s2 _ _ obr⟩,Rb.keep (Kp.same s2 []) (fun y hy=>by simp at hy),⟨upd_same,.cons ⟨⟨dxn,?_⟩,?_,?_,?_⟩ .nil,?_,fun y hy=>?_,by simp [obs]⟩,Kp.same s2 _,fun y hy=>?_⟩
   ·rw [upd_ne (ne1 h1)]; exact h1
   ·show upd _ _ _ fl = _; rw [upd_ne (ne1 hfl)]; exact hfl
   ·show upd _ _ _ bl' = _; rw [upd_ne (ne1 hbl)]; exact hbl
   ·show upd _ _ _ pl = _; rw [upd_ne (ne1 hpl)]; exact hpl
   ·show (bl::([fl,bl',pl]++[])).Nodup
    rw [List.append_nil,List.nodup_cons]
    refine ⟨fun z=>?_,nd⟩
    simp only [List.mem_cons,List.not_mem_nil,or_false] at z
    rcases z with z | z | z
    ·exact ne1 hfl z.symm
    ·exact ne1 hbl z.symm
    ·exact ne1 hpl z.symm
   ·intro z
    obtain ⟨xs,e⟩:=Rb.isLst z
    have hy' : y = bl∨y = fl∨y = bl'∨y = pl:=by simpa [lsts,BrA.lists] using hy
    rcases hy' with rfl | rfl | rfl | rfl
    ·exact absurd rfl (ne1 (s1 _ _ e))
    ·rw [upd2_none nfl] at e; cases e
    ·rw [upd2_none nbl] at e; cases e
    ·rw [upd2_none npl] at e; cases e
   ·have hy' : y = bl∨y = x∨y = fl∨y = bl'∨y = pl:=by
     rcases hy with h | h | h
     ·exact .inl h
     ·exact .inr (.inl (by simpa [obs] using h))
     ·exact .inr (.inr (by simpa [lsts,BrA.lists] using h))
    rcases hy' with rfl | rfl | rfl | rfl | rfl
    ·exact s1.free nb
    ·exact nx
    ·exact upd2_none nfl
    ·exact upd2_none nbl
    ·exact upd2_none npl
  refine while_go (FoI cs H r lt as T i b p B bl) (fun _ H'=>rdm T r H') ⟨true,i,Ad,B.ns,⟨x,fl,bl',pl⟩,[],FraN.empty 0,[],t,none,rfl,S0,PSt.start ok,⟨rfl,fun G hG _=>by simp at hG; subst hG; rfl⟩,⟨fw.le,fw.wi,by show 1≤_; omega⟩,Nat.le_refl _,ht,fun _=>formula_start _ _,fun z=>absurd z (by decide)⟩ ?_
  rintro σ H1' ⟨g,i1,A1,ns1,a1,bas1,F1,st1,t1,x1,rfl,S1,ps1,inn1,fw1,hi1,ht1,eT,eF⟩
  have hil:=(List.getElem?_eq_some_iff.mp ht1).1
  refine ⟨_,rfl,g,rfl,?_⟩
  cases g with
  | true =>
   refine iteT (wgo ?_)
   have e1:=eT rfl
   refine ⟨_,rfl,_,rfl,H,r,lt,as,T,i1,b,A1,p,B,ns1,bl,a1::bas1,F1::st1,t1,rfl,S1,ps1,inn1,fw1,tok,ht1,fun H2 i2 bas2 st2 t2 S2 ps2 inn2 fw2 hi2 ht2 n40 nnum e2=>?_,fun k hk=>kx k (e1.trans hk)⟩
   have hil2:=(List.getElem?_eq_some_iff.mp ht2).1
   match st2,S2,ps2,inn2,fw2,e2 with
   | [],_,_,inn2,_,_=>exact absurd inn2.bot (by simp [Bot])
   | F2::st2,S2,ps2,inn2,fw2,e2 =>
   match bas2,S2 with
   | [],S2=>exact absurd (Paired.length S2.br.at_) (by simp)
   | a2::bas2,S2 =>
   obtain ⟨db2,ob2⟩:=S2.bk.ob
   refine rd_meth rfl S2.rd (by decide +kernel) (by decide +kernel) ?_
   refine ⟨_,rfl,b,cs.boo,db2,_,_,rfl,ob2,clB,naB _ (by simp),bkF_names _ _ _ _ _,?_⟩
   have hval : valV (nmK B.names) (Sum.inr (mkS t2.1)) = (look B.names t2.1).map fun (i : Nat)=>V.int (i : Int):=nmK_val _ _
   refine ⟨r,lt,as,T,i2,t2,A1.ma,nmK B.names,rfl,S2.rd,ht2,S2.bk.names,fun hq H3 R3 k3=>?_,fun hq=>?_⟩
   ·obtain ⟨hk,hsome⟩:=hq
    rw [hval] at hsome
    cases hlook : look B.names t2.1 with
    | none=>rw [hlook] at hsome; cases hsome
    | some z =>
    have S3:=S2.moved co R3 k3
    obtain ⟨u,hu⟩:=tok.next i2 t2 ht2 (fun e=>by rw [e] at hk; exact absurd hk (by decide +kernel))
    obtain ⟨hd3,tl3⟩:=S3.head
    obtain ⟨dh3,hob3⟩:=hd3.ob
    obtain ⟨db3,ob3⟩:=S3.bk.ob
    have lst3:=S3.br.lst
    rw [obs_last] at lst3
    have dg : DGet H3 A1.ma (kV (Sum.inr (mkS t2.1))) (some (V.int (z : Int))):=by
     have d:=DGet.k (k:=Sum.inr (mkS t2.1)) (show H3 A1.ma = some (.dK (nmK B.names)) from S3.bk.names)
     rw [hval,hlook] at d
     exact d
    refine ⟨_,rfl,_,rfl,bl,_,_,V.ref a2.ob,rfl,rfl,SqL.of lst3,atI_last _ _,a2.ob,cs.bra,dh3,_,_,rfl,hob3,clBr,naBr _ (by simp),brF_parts _ _ _ _,.inl ⟨rfl,_,SqL.of hd3.ps⟩,
     _,rfl,b,cs.boo,db3,_,_,rfl,ob3,clB,naB _ (by simp),bkF_names _ _ _ _ _,_,rfl,A1.ma,_,rfl,dg,a2.pl,_,_,rfl,rfl,hd3.ps,?_,?_⟩
    ·rw [nV_length]
     have h:=fw2.le
     rw [List.flatMap_cons,List.length_append,all_len] at h
     exact Nat.lt_trans (show _ < 100000 by omega) line100000
    have S4:=S3.part z
    have ps4:=ps2.part ok hlook
    have fw4 : Fw ns1 ({ F2 with ps:=F2.ps++[z] }::st2) (4 * (i2 + 1)):=(fw2.part z).mono (by omega)
    have e4 : formula B.known (tk T i) = cA B ns1 ({ F2 with ps:=F2.ps++[z] }::st2) (tk T (i2 + 1)):=e1.trans (e2.trans (bt_part ok ps2 ht2 hk hlook))
    refine ⟨_,rfl,_,rfl,_,rfl,H,r,lt,as,T,i2 + 1,b,A1,p,B,ns1,bl,a2::bas2,{ F2 with ps:=F2.ps++[z] },st2,u,rfl,S4,ps4,by simp,inn2.head rfl (fun q=>inn2.pl F2 (by simp) q),fw4,tok,hu,fun H5 i5 A5 ns5 bas5 F5 st5 t5 S5 ps5 hps5 inn5 fw5 hi5 ht5 h5 e5=>?_,fun k hk=>kx k (e4.trans hk)⟩
    have hil5:=(List.getElem?_eq_some_iff.mp ht5).1
    match bas5,S5 with
    | [],S5=>exact absurd (Paired.length S5.br.at_) (by simp)
    | a5::bas5,S5 =>
    have lst5:=S5.br.lst
    rw [obs_last] at lst5
    obtain ⟨dr1,obr1⟩:=S1.ob
    refine ⟨_,rfl,_,rfl,_,rfl,bl,_,_,V.ref a5.ob,rfl,rfl,SqL.of lst5,atI_last _ _,_,rfl,H,r,lt,as,T,i5,b,A5,p,B,ns5,bl,(obs (a5::bas5)).reverse,a5,bas5,F5,st5,t5,rfl,S5,ps5,hps5,inn5,fw5,tok,ht5,fun H6 A6 ns6 a6 F6 t6 S6 ha6 ps6 inn6 fw6 ht6 e6=>?_,fun n1 n2 n3=>?_⟩
    ·obtain ⟨dr6,obr6⟩:=S6.ob
     have eo : obs (a6::bas5) = obs (a5::bas5):=by simp only [obs,List.map_cons,ha6]
     refine ⟨⟨true,i5 + 1,A6,ns6,a6,bas5,F6,st5,t6,_,rfl,by rw [eo]; exact S6,ps6,inn6,fw6,by omega,ht6,fun _=>e4.trans (e5.trans e6),fun q=>absurd q (by decide)⟩,?_⟩
     rw [rdm_eq obr1,rdm_eq obr6]
     omega
    ·obtain ⟨dr5,obr5⟩:=S5.ob
     refine ⟨⟨false,i5,A5,ns5,a5,bas5,F5,st5,t5,_,rfl,S5,ps5,inn5,fw5,by omega,ht5,fun q=>absurd q (by decide),fun _=>⟨by omega,hps5,h5,n1,n2,n3,e4.trans e5⟩⟩,?_⟩
     rw [rdm_eq obr1,rdm_eq obr5]
     omega
   ·refine kx _ (e1.trans (e2.trans (bt_bad ht2 n40 nnum fun q=>hq ⟨q.1,?_⟩)))
    rw [hval]
    have q2:=q.2
    rw [Bk.meaning_eq] at q2
    cases hl : look B.names t2.1 with
    | none=>rw [hl] at q2; cases q2
    | some z=>rfl
  | false =>
   refine iteF ?_
   obtain ⟨hlt1,hps1,n41,n124,n38,n44,e1⟩:=eF rfl
   have lb : ((obs (a1::bas1)).reverse.map V.ref).length = st1.length + 1:=by
    have:=Paired.length S1.br.at_
    rw [List.length_map,List.length_reverse]
    show (List.map _ _).length = _
    rw [List.length_map,this]
    rfl
   refine ⟨_,rfl,_,_,rfl,.inl (SqL.of S1.br.lst),_,_,rfl,rfl,_,rfl,ite2 (fun hc=>?_) fun hc=>?_⟩
   ·have h2 : (1 : Int) < (((obs (a1::bas1)).reverse.map V.ref).length : Int):=of_decide_eq_true hc
    rw [lb] at h2
    match st1,S1,ps1,n41,e1,h2 with
    | [],_,_,_,_,h2=>exact absurd h2 (by decide)
    | G::st1,S1,ps1,n41,e1,h2 =>
    refine rd_meth rfl S1.rd (by decide +kernel) (by decide +kernel) ?_
    refine ⟨r,lt,as,T,i1,t1,false,rfl,S1.rd,ht1,fun q=>absurd q (by decide),fun _=>?_⟩
    exact kx _ (e1.trans (ct_bad ht1 (n41.resolve_right (by simp)) n124 n38 n44))
   ·have h2 : ¬ (1 : Int) < (((obs (a1::bas1)).reverse.map V.ref).length : Int):=fun z=>hc (decide_eq_true z)
    rw [lb] at h2
    have hst : st1 = []:=List.eq_nil_of_length_eq_zero (by omega)
    subst hst
    have hbas : bas1 = []:=by
     have:=Paired.length S1.br.at_
     exact List.eq_nil_of_length_eq_zero (by simpa using this)
    subst hbas
    have h0 : F1.asked = 0:=inn1.bot
    have hfs : F1.fs = []:=inn1.pl F1 (by simp) h0
    obtain ⟨dh,hob⟩:=S1.head.1.ob
    refine ⟨_,rfl,bl,_,_,V.ref a1.ob,rfl,rfl,SqL.of S1.br.lst,at_of (j:=0) rfl rfl,a1.ob,dh,_,rfl,hob,brF_no _ _ _ _ (by decide +kernel) (by decide +kernel) (by decide +kernel) (by decide +kernel),_,rfl,?_⟩
    refine ⟨a1,F1,b,A1,p,{ B with ns:=ns1 },rfl,S1.pair fw1 (by omega),fun A2 vs2 bl2 pl2 H2 br2 bk2 g2 hv2 nd2 nbl2 npl2 nbp2 k2=>?_⟩
    have fl1:=S1.facts.1
    unfold BrA.lists at fl1
    simp only [List.nodup_cons,List.mem_cons,List.not_mem_nil,or_false,not_or] at fl1
    have sfl : H1' a1.fl ≠ none:=by rw [S1.head.1.fs]; simp
    have S2:=S1.swap (a':={ a1 with bl:=bl2,pl:=pl2 }) (ns':=efNs B.P ns1 F1) rfl k2 br2 bk2 g2 (fun y hy=>by
      simp only [BrA.lists,List.mem_cons,List.not_mem_nil,or_false]
      rcases hv2 y hy with e | e
      ·exact .inr (.inr e)
      ·exact .inr (.inl e)) (fun y hy=>by
      simp only [BrA.lists,List.mem_cons,List.not_mem_nil,or_false] at hy
      rcases hy with rfl | rfl | rfl
      ·refine .inl ⟨by simp [BrA.lists],fun z=>?_⟩
       rcases hv2 _ z with e | e
       ·exact fl1.1.2 e
       ·exact fl1.1.1 e
      ·exact .inr nbl2
      ·exact .inr npl2) (by
      simp only [BrA.lists,List.nodup_cons,List.mem_cons,List.not_mem_nil,or_false,not_or,not_false_eq_true,List.nodup_nil,and_true]
      exact ⟨⟨fun z=>sfl (by rw [z]; exact nbl2),fun z=>sfl (by rw [z]; exact npl2)⟩,nbp2⟩)
    have eff : efFra B.P ns1 F1 = ⟨0,[efAt B.P ns1 F1],[],[]⟩:=by
     unfold efFra
     rw [h0,hfs]
     rfl
    have fs2 : H2 a1.fl = some (.lst (nV (efFra B.P ns1 F1).fs)):=br2.fs
    rw [eff] at fs2
    obtain ⟨dh2,hob2⟩:=br2.ob
    refine ⟨_,rfl,bl,_,_,V.ref a1.ob,rfl,rfl,SqL.of S2.br.lst,at_of (j:=0) rfl rfl,a1.ob,cs.bra,dh2,_,_,rfl,hob2,clBr,naBr _ (by simp),brF_formulas _ _ _ _,a1.fl,_,_,V.int ((efAt B.P ns1 F1 : Nat) : Int),rfl,rfl,SqL.of fs2,at_of (j:=0) rfl rfl,?_⟩
    have ps2:=ps1.ef hps1
    rw [eff] at ps2
    have fw2:=fw1.ef (P:=B.P) hps1 (by omega)
    have sim:=S2.sim co Rb
    refine kq H2 i1 A2 _ _ t1 S2.rd bk2 sim (by rw [← sim.1]; exact S2.kp) ps2 ⟨Nat.le_trans (Nat.le_add_right _ _) fw2.le,fw2.wi,by simp⟩ hlt1 ht1 (e1.trans (ct_end ps1 hps1 ht1 n124 n38))
end
end Pg
end
section
set_option linter.all false
set_option maxRecDepth 100000
set_option maxHeartbeats 4000000
namespace Pg
open PySem L2 Xc Sp Rb35
theorem ReadAt.keepL {cs : Cs} {H H' : Hp} {r lt : Addr} {as : List Addr} {T : List PT} {i : Nat} {F : List Addr} (R : ReadAt cs H r lt as T i) (k : Kp F H H') (hF : ∀ x ∈ F,x ≠ lt∧∀ C dx fs,H x ≠ some (.ins C dx fs)) : ReadAt cs H' r lt as T i:=by
 obtain ⟨dx,ob⟩:=R.ob
 refine ⟨⟨dx,k _ _ ob fun z=>(hF _ z).2 _ _ _ ob⟩,k _ _ R.tk.lst fun z=>(hF _ z).1 rfl,R.tk.len,fun j a t h1 h2=>?_⟩
 obtain ⟨dy,ha⟩:=R.tk.at_ j a t h1 h2
 exact ⟨dy,k _ _ ha fun z=>(hF _ z).2 _ _ _ ha⟩
theorem BookAt.read {cs : Cs} (co : CsOk cs) {H H' : Hp} {r lt b : Addr} {as : List Addr} {T : List PT} {i : Nat} {A : BkA} {p : Nat} {B : Bk} (Rb : BookAt cs H b A p B) (R : ReadAt cs H r lt as T i) (k : Kp [r] H H') : BookAt cs H' b A p B:=by
 obtain ⟨dx,ob⟩:=R.ob
 refine Rb.keep k fun x hx=>?_
 simp only [List.mem_cons,List.not_mem_nil,or_false] at hx
 subst hx
 exact .inr ⟨_,_,_,ob,co.rb,co.rn⟩
theorem abs_field : absTok (ascii "field") = .name (ascii "field"):=rfl
theorem abs_who : absTok (ascii "who") = .name (ascii "who"):=rfl
theorem abs_let : absTok (ascii "let") = .name (ascii "let"):=rfl
section
variable {T : List PT} {i : Nat} {t u v : PT}
theorem fd_no (ht : T[i]? = some t) (h : ¬ t.1 = ascii "field") : Rb35.field (tk T i) = .error t.2:=by
 unfold Rb35.field
 rw [tk_key abs_field ht,decide_eq_false h,if_pos rfl,tk_place ht]
theorem fd_bad (ht : T[i]? = some t) (h : t.1 = ascii "field") (hu : T[i + 1]? = some u) (h2 : ¬ (kindS u.1 = "number"∧(decide (valueOf u.1≤251) && prime (valueOf u.1)) = true)) : Rb35.field (tk T i) = .error u.2:=by
 unfold Rb35.field
 rw [tk_key abs_field ht,decide_eq_true h,if_neg (by decide),tk_keyT abs_field ht h]
 show (match tk T (i + 1) with | (.num p,k)::r=>_ | u=>_) = _
 rw [tk_at hu]
 cases q : absTok u.1 with
 | num n =>
  by_cases hk : kindS u.1 = "number"
  ·have e:=(kind_num hk).1
   rw [q] at e
   injection e with e
   show (if (decide (n≤251) && prime n) = true then _ else _) = _
   rw [if_neg (by rw [e]; exact fun z=>h2 ⟨hk,z⟩)]
  ·exact absurd q (kind_not_num hk)
 | name b=>rfl
 | sign b=>rfl
 | bad=>rfl
 | ended=>rfl
theorem fd_yes (ht : T[i]? = some t) (h : t.1 = ascii "field") (hu : T[i + 1]? = some u) (h2 : kindS u.1 = "number"∧(decide (valueOf u.1≤251) && prime (valueOf u.1)) = true) : Rb35.field (tk T i) = (take_ 59 (tk T (i + 2))).map fun z=>(valueOf u.1,z):=by
 unfold Rb35.field
 rw [tk_key abs_field ht,decide_eq_true h,if_neg (by decide),tk_keyT abs_field ht h]
 show (match tk T (i + 1) with | (.num p,k)::r=>_ | u=>_) = _
 rw [tk_at hu,(kind_num h2.1).1]
 show (if (decide (valueOf u.1≤251) && prime (valueOf u.1)) = true then _ else _) = _
 rw [if_pos h2.2]
end
def spFieldR (cs : Cs) : Sp:=fun vs H Q E=>∃ (r lt : Addr) (as : List Addr) (T : List PT) (i : Nat) (t : PT),vs = [.ref r]∧ReadAt cs H r lt as T i∧TOk T∧T[i]? = some t ∧
 (∀ (H' : Hp) (p j : Nat) (u : PT),Rb35.field (tk T i) = .ok (p,tk T j)→ReadAt cs H' r lt as T j→Kp [r] H H'→T[j]? = some u→i < j→Q (.int (p : Int)) H')∧(∀ k,Rb35.field (tk T i) = .error k→Thr E cs.cst (-100 - (k : Int)))
def peopleT (t : Toks) : Except Nat (Known × Toks):=if isKey "who" t = false then .error (placeOf t) else (peopleR ⟨[],[]⟩ (t.drop 1)).bind fun y=>(take_ 59 y.2).map fun r=>(y.1,r)
def moreP (l : List Bytes) (t : Toks) : Except Nat (Known × Toks):=(if is_ 44 t = true then peopleR ⟨l,[]⟩ (t.drop 1) else .ok (⟨l,[]⟩,t)).bind fun y=>(take_ 59 y.2).map fun r=>(y.1,r)
def spPeople (cs : Cs) : Sp:=fun vs H Q E=>∃ (r lt : Addr) (as : List Addr) (T : List PT) (i : Nat) (b : Addr) (A : BkA) (p : Nat) (t : PT),vs = [.ref r,.ref b]∧ReadAt cs H r lt as T i∧BookAt cs H b A p ⟨[],[],[]⟩∧lt ≠ A.pa∧TOk T∧T[i]? = some t ∧
 (∀ (H' : Hp) (l : List Bytes) (j : Nat) (u : PT),peopleT (tk T i) = .ok (⟨l,[]⟩,tk T j)→ReadAt cs H' r lt as T j→BookAt cs H' b A p ⟨l,[],[]⟩→Kp [r,A.pa,A.ma] H H'→T[j]? = some u→i < j→l.length≤j→Q .non H')∧(∀ k,peopleT (tk T i) = .error k→Thr E cs.cst (-100 - (k : Int)))
def PeI (cs : Cs) (H0 : Hp) (r lt : Addr) (as : List Addr) (T : List PT) (i : Nat) (b : Addr) (A : BkA) (p : Nat) : L2.St→Hp→Prop:=fun σ H' =>
 ∃ (l : List Bytes) (j : Nat) (u : PT),σ = [some (.ref r),some (.ref b)]∧ReadAt cs H' r lt as T j∧BookAt cs H' b A p ⟨l,[],[]⟩∧Kp [r,A.pa,A.ma] H0 H'∧T[j]? = some u∧i < j∧l.length≤j∧peopleT (tk T i) = moreP l (tk T j)
section
variable {P : Program} {w : World} {K : PySem.W.Frag} {mg : Str→Option Value} {base : Heap} {cs : Cs}
theorem sc_fieldR : FnScope ["reader","prime"] ["reader"] (defScope st_read_field):=⟨rfl,rfl,rfl,by decide +kernel,rfl,by decide +kernel,by decide +kernel⟩
theorem ok_fieldR (T : FunT K mg "read_field" st_read_field) (cl : Cls K cs.rea) (TW : MetOk P w K mg base 5 cs.rea "take_written" ["self","word"] (spWritten cs)) (PR : MetOk P w K mg base 5 cs.rea "take_prime" ["self"] (spPrime cs)) :
  DefOk P w K mg base 6 "read_field" ["reader"] (spFieldR cs):=by
 obtain ⟨f,fd,F,hm⟩:=T.ex
 refine ⟨f,fd,hm,F.kp,F.binds (fun _ _ _ _ _ _ us hl=>match us,hl with | [_],_=>rfl),okX F sc_fieldR (fun vs H Q E h=>?_) (fun cdv A outer s H vs Q E hr h=>?_)⟩
 ·obtain ⟨r,lt,as,T,i,t,rfl,_⟩:=h
  rfl
 ·obtain ⟨r,lt,as,T,i,t,rfl,R,tok,ht,kq,kx⟩:=h
  refine ⟨_,pss_cons (ps_expr (pe_met (pv 0) cl TW hr pass_on (pa_cons pe_str pa_nil))) (pss_cons (ps_set (i:=1) sc_fieldR.nd rfl (Or.inl rfl) (pe_met0 (pv 0) cl PR hr pass_on)) (pss_cons (ps_expr (pe_met (pv 0) cl TW hr pass_on (pa_cons pe_str pa_nil))) (pss_one (ps_ret (pv 1))))),?_⟩
  refine rd_meth rfl R (by decide +kernel) (by decide +kernel) ?_
  refine ⟨r,lt,as,T,i,t,_,rfl,R,ht,fun hq H1 R1 k1=>?_,fun hq=>kx _ (fd_no ht fun z=>hq ((wlit litField).mpr z))⟩
  have h1:=(wlit litField).mp hq
  obtain ⟨u,hu⟩:=tok.next i t ht (by rw [h1]; decide)
  refine rd_meth rfl R1 (by decide +kernel) (by decide +kernel) ?_
  refine ⟨r,lt,as,T,i + 1,u,rfl,R1,tok,hu,fun h2 H2 R2 k2=>?_,fun h2=>kx _ (fd_bad ht h1 hu h2)⟩
  obtain ⟨v,hv⟩:=tok.next (i + 1) u hu (fun z=>by have:=h2.1; rw [z] at this; exact absurd this (by decide +kernel))
  refine rd_meth rfl R2 (by decide +kernel) (by decide +kernel) ?_
  refine ⟨r,lt,as,T,i + 2,v,_,rfl,R2,hv,fun h3 H3 R3 k3=>?_,fun h3=>kx v.2 ?_⟩
  ·have h59:=(wlit lit59).mp h3
   obtain ⟨y,hy⟩:=tok.next (i + 2) v hv (by rw [h59]; simp)
   refine ⟨_,rfl,kq H3 (valueOf u.1) (i + 3) y ?_ R3 (k1.trans (k2.trans k3)) hy (by omega)⟩
   rw [fd_yes ht h1 hu h2,take_yes (by decide) hv h59]
   rfl
  ·rw [fd_yes ht h1 hu h2,take_no (by decide) hv fun z=>h3 ((wlit lit59).mpr z)]
   rfl
theorem sc_people : FnScope ["reader","book"] ["reader","book"] (defScope st_read_people):=⟨rfl,rfl,rfl,by decide +kernel,rfl,by decide +kernel,by decide +kernel⟩
theorem pe_new {l : List Bytes} {T : List PT} {j : Nat} {u : PT} (hu : T[j]? = some u) : (peopleR ⟨l,[]⟩ (tk T j)).bind (fun y=>(take_ 59 y.2).map fun r=>(y.1,r)) =
  if kindS u.1 = "name"∧(valV (nmK (⟨l,[],[]⟩ : Bk).names) (Sum.inr (mkS u.1))).isSome = false then moreP (l++[u.1]) (tk T (j + 1)) else .error u.2:=by
 have kn : knows ⟨l,[]⟩ u.1 = (look (⟨l,[],[]⟩ : Bk).names u.1).isSome:=Bk.knows_eq ⟨l,[],[]⟩ u.1
 have hv : (valV (nmK (⟨l,[],[]⟩ : Bk).names) (Sum.inr (mkS u.1))).isSome = knows ⟨l,[]⟩ u.1:=by
  rw [nmK_val,kn]
  cases look (⟨l,[],[]⟩ : Bk).names u.1 <;> rfl
 rw [hv,peopleR_eq]
 by_cases h : kindS u.1 = "name"∧knows ⟨l,[]⟩ u.1 = false
 ·rw [if_pos h,new_yes hu h.1 h.2]
  rfl
 ·rw [if_neg h,new_no hu h]
  rfl
theorem ok_people (co : CsOk cs) (T : FunT K mg "read_people" st_read_people) (cl : Cls K cs.rea) (clT : Cls K cs.tok) (naT : NoAt K cs.tok ["kind","word","place"]) (clB : Cls K cs.boo) (naB : NoAt K cs.boo ["prime","people","nodes","lets","names"])
  (NW : MetOk P w K mg base 1 cs.rea "now" ["self"] (spNow cs)) (TW : MetOk P w K mg base 5 cs.rea "take_written" ["self","word"] (spWritten cs)) (NN : MetOk P w K mg base 5 cs.rea "take_new_name" ["self","names"] (spName cs false)) (AP : MetOk P w K mg base 1 cs.boo "add_person" ["self","name"] (spAddPerson cs)) :
  DefOk P w K mg base 6 "read_people" ["reader","book"] (spPeople cs):=by
 obtain ⟨f,fd,F,hm⟩:=T.ex
 refine ⟨f,fd,hm,F.kp,F.binds (fun _ _ _ _ _ _ us hl=>match us,hl with | [_,_],_=>rfl),okX F sc_people (fun vs H Q E h=>?_) (fun cdv A outer s H vs Q E hr h=>?_)⟩
 ·obtain ⟨r,lt,as,T,i,b,A,p,t,rfl,_⟩:=h
  rfl
 ·obtain ⟨r,lt,as,T,i,b,Ad,p,t,rfl,R,Rb,hlt,tok,ht,kq,kx⟩:=h
  refine ⟨_,pss_cons (ps_expr (pe_met (pv 0) cl TW hr pass_on (pa_cons pe_str pa_nil)))
   (pss_cons (ps_expr (pe_met (pv 1) clB (AP.mono (by decide : 1≤5)) hr pass_no (pa_cons (pe_met (pv 0) cl NN hr pass_on (pa_cons (pe_fld (pv 1) rfl) pa_nil)) pa_nil)))
   (pss_cons (ps_while PassesOwn.leaving (pt_cmpR op_eq (pe_fld (pe_met0 (pv 0) cl (NW.mono (by decide : 1≤5)) hr pass_no) rfl) pe_str (nomark _))
    (pss_cons (ps_expr (pe_met (pv 0) cl TW hr pass_on (pa_cons pe_str pa_nil))) (pss_one (ps_expr (pe_met (pv 1) clB (AP.mono (by decide : 1≤5)) hr pass_no (pa_cons (pe_met (pv 0) cl NN hr pass_on (pa_cons (pe_fld (pv 1) rfl) pa_nil)) pa_nil))))))
   (pss_one (ps_expr (pe_met (pv 0) cl TW hr pass_on (pa_cons pe_str pa_nil)))))),?_⟩
  have hTl:=tok.few
  have add : ∀ (l : List Bytes) (j : Nat) (u : PT) (H1 : Hp) (D : Ends),ReadAt cs H1 r lt as T j→BookAt cs H1 b Ad p ⟨l,[],[]⟩→Kp [r,Ad.pa,Ad.ma] H H1→T[j]? = some u→i < j→l.length≤j→peopleT (tk T i) = ((peopleR ⟨l,[]⟩ (tk T j)).bind fun y=>(take_ 59 y.2).map fun r=>(y.1,r)) →
    (∀ H2 v,ReadAt cs H2 r lt as T (j + 1)→BookAt cs H2 b Ad p ⟨l++[u.1],[],[]⟩→Kp [r,Ad.pa,Ad.ma] H H2→T[j + 1]? = some v→peopleT (tk T i) = moreP (l++[u.1]) (tk T (j + 1))→D.nx [some (.ref r),some (.ref b)] H2) →
    tDrop (tMeth cs.boo "add_person" (spAddPerson cs) [] E0 (tVar 1) (tCons (tMeth cs.rea "take_new_name" (spName cs false) [] E (tVar 0) (tCons (tFld K (tVar 1) "names") tNil)) tNil)) D [some (.ref r),some (.ref b)] H1:=by
   intro l j u H1 D R1 Rb1 k1 hu hij hlj e1 fin
   obtain ⟨db,ob⟩:=Rb1.ob
   have hpn:=pe_new (l:=l) hu
   refine ⟨_,rfl,b,db,_,rfl,ob,bkF_no _ _ _ _ _ (by decide +kernel) (by decide +kernel) (by decide +kernel) (by decide +kernel) (by decide +kernel),?_⟩
   refine rd_meth rfl R1 (by decide +kernel) (by decide +kernel) ?_
   refine ⟨_,rfl,b,cs.boo,db,_,_,rfl,ob,clB,naB _ (by simp),bkF_names _ _ _ _ _,?_⟩
   refine ⟨r,lt,as,T,j,u,Ad.ma,nmK (⟨l,[],[]⟩ : Bk).names,rfl,R1,hu,Rb1.names,fun hq H2 R2 k2=>?_,fun hq=>?_⟩
   ·rw [if_pos hq] at hpn
    have Rb2:=Rb1.read co R1 k2
    have hlook : look (⟨l,[],[]⟩ : Bk).names u.1 = none:=by
     have:=hq.2
     rw [nmK_val] at this
     cases q : look (⟨l,[],[]⟩ : Bk).names u.1 with
     | none=>rfl
     | some z=>rw [q] at this; cases this
    have hjl:=(List.getElem?_eq_some_iff.mp hu).1
    refine ⟨b,u.1,Ad,p,⟨l,[],[]⟩,rfl,Rb2,hlook,rfl,by show l.length < 50000; omega,fun H3 Rb3 k3=>?_⟩
    obtain ⟨v,hv⟩:=tok.next j u hu (fun z=>by have:=hq.1; rw [z] at this; exact absurd this (by decide +kernel))
    have R3:=R2.keepL k3 fun x hx=>by
     simp only [List.mem_cons,List.not_mem_nil,or_false] at hx
     rcases hx with rfl | rfl
     ·exact ⟨hlt.symm,fun C dx fs z=>by rw [Rb2.people] at z; cases z⟩
     ·exact ⟨dicNe Rb2.names R2.tk.lst,fun C dx fs z=>by rw [Rb2.names] at z; cases z⟩
    exact fin H3 v R3 Rb3 (k1.trans ((k2.mono fun x hx=>by simp at hx; simp [hx]).trans (k3.mono fun x hx=>by simp at hx ⊢; rcases hx with rfl | rfl <;> simp))) hv (e1.trans hpn)
   ·rw [if_neg hq] at hpn
    exact kx _ (e1.trans hpn)
  refine rd_meth rfl R (by decide +kernel) (by decide +kernel) ?_
  refine ⟨r,lt,as,T,i,t,_,rfl,R,ht,fun hq H1 R1 k1=>?_,fun hq=>kx t.2 ?_⟩
  ·have h1:=(wlit litWho).mp hq
   obtain ⟨u,hu⟩:=tok.next i t ht (by rw [h1]; decide)
   have e0 : peopleT (tk T i) = ((peopleR ⟨[],[]⟩ (tk T (i + 1))).bind fun y=>(take_ 59 y.2).map fun r=>(y.1,r)):=by
    unfold peopleT
    rw [tk_key abs_who ht,decide_eq_true h1,if_neg (by decide),tk_keyT abs_who ht h1]
    rfl
   refine add [] (i + 1) u H1 _ R1 (Rb.read co R k1) (k1.mono fun x hx=>by simp at hx; simp [hx]) hu (by omega) (by simp) e0 fun H2 v R2 Rb2 k2 hv e2=>?_
   refine while_go (PeI cs H r lt as T i b Ad p) (fun _ H'=>rdm T r H') ⟨[u.1],i + 2,v,rfl,R2,Rb2,k2,hv,by omega,by simp,e2⟩ ?_
   rintro σ H3 ⟨l,j,u3,rfl,R3,Rb3,k3,hu3,hij,hlj,e3⟩
   obtain ⟨d3,ob3⟩:=R3.ob
   have hjl:=(List.getElem?_eq_some_iff.mp hu3).1
   refine now_word clT naT rfl R3 hu3 ⟨rfl,_,rfl,ite2 (fun hc=>?_) fun hc=>?_⟩
   ·rw [vlit lit44] at hc
    have h44:=of_decide_eq_true hc
    obtain ⟨u4,hu4⟩:=tok.next j u3 hu3 (by rw [h44]; simp)
    refine wgo ?_
    refine rd_meth rfl R3 (by decide +kernel) (by decide +kernel) ?_
    refine ⟨r,lt,as,T,j,u3,_,rfl,R3,hu3,fun _ H4 R4 k4=>?_,fun hq=>absurd ((wlit lit44).mpr h44) hq⟩
    have e4 : peopleT (tk T i) = ((peopleR ⟨l,[]⟩ (tk T (j + 1))).bind fun y=>(take_ 59 y.2).map fun r=>(y.1,r)):=by
     rw [e3]
     unfold moreP
     rw [tk_is (by decide) hu3,decide_eq_true h44,if_pos rfl,tk_sign (by decide) hu3 h44]
     rfl
    refine add l (j + 1) u4 H4 _ R4 (Rb3.read co R3 k4) (k3.trans (k4.mono fun x hx=>by simp at hx; simp [hx])) hu4 (by omega) (by omega) e4 fun H5 v5 R5 Rb5 k5 hv5 e5=>?_
    obtain ⟨d5,ob5⟩:=R5.ob
    refine ⟨⟨l++[u4.1],j + 2,v5,rfl,R5,Rb5,k5,hv5,by omega,by rw [List.length_append]; simp; omega,e5⟩,?_⟩
    rw [rdm_eq ob3,rdm_eq ob5]
    omega
   ·rw [vlit lit44] at hc
    have h44 : ¬ u3.1 = [44]:=fun z=>hc (decide_eq_true z)
    have e4 : peopleT (tk T i) = (take_ 59 (tk T j)).map fun r=>(⟨l,[]⟩,r):=by
     rw [e3]
     unfold moreP
     rw [tk_is (by decide) hu3,decide_eq_false h44,if_neg (by decide)]
     rfl
    refine rd_meth rfl R3 (by decide +kernel) (by decide +kernel) ?_
    refine ⟨r,lt,as,T,j,u3,_,rfl,R3,hu3,fun h3 H4 R4 k4=>?_,fun h3=>kx u3.2 ?_⟩
    ·have h59:=(wlit lit59).mp h3
     obtain ⟨y,hy⟩:=tok.next j u3 hu3 (by rw [h59]; simp)
     refine kq H4 l (j + 1) y ?_ R4 (Rb3.read co R3 k4) (k3.trans (k4.mono fun x hx=>by simp at hx; simp [hx])) hy (by omega) (by omega)
     rw [e4,take_yes (by decide) hu3 h59]
     rfl
    ·rw [e4,take_no (by decide) hu3 fun z=>h3 ((wlit lit59).mpr z)]
     rfl
  ·unfold peopleT
   rw [tk_key abs_who ht,decide_eq_false (fun z=>hq ((wlit litWho).mpr z)),if_pos rfl,tk_place ht]
end
end Pg
end
section
set_option linter.all false
set_option maxRecDepth 100000
set_option maxHeartbeats 4000000
namespace Pg
open PySem L2 Xc Sp Rb35
def plc (P : Nat) (ns : List NodeM) : List Nat:=evals (fun _=>1) (fun _ l=>l.sum) 0 P ns
theorem plc_snoc (P : Nat) (ns : List NodeM) (n : NodeM) : plc P (ns++[n]) = plc P ns++[(n.2.map fun i=>(plc P ns).getD i 0).sum]:=evals_snoc _ _ _ _ _ _
theorem plc_nil (P : Nat) : plc P [] = List.replicate P 1:=by
 unfold plc evals
 rw [List.foldl_nil]
 induction P with
 | zero=>rfl
 | succ n ih=>rw [List.range_succ,List.map_append,ih,List.replicate_succ']; rfl
theorem plc_length (P : Nat) (ns : List NodeM) : (plc P ns).length = P + ns.length:=by
 induction ns using snocInd with
 | h0=>rw [plc_nil,List.length_replicate]; rfl
 | h1 l a ih=>rw [plc_snoc,List.length_append,ih,List.length_append]; simp; omega
theorem plc_at {P : Nat} {ns : List NodeM} (ok : Good P ns) {i : Nat} (hi : i < P + ns.length) : (plc P ns)[i]? = some ((leaves (den P ns i)).length) :=
 evals_at (fun f=>(leaves f).length) (fun i=>rfl) (fun k l=>by
  show (leavesIn (ofL l)).length = _
  rw [leavesIn_ofL]) ns ok hi
structure Sz (B : Bk) : Prop where
 pe : B.people.length < 50000
 nd : B.ns.length < 50000
 wi : ∀ n ∈ B.ns,n.2.length≤50000
 le : B.ls.length < 50000
section
variable {X : Cx} {K : PySem.W.Frag} {o : Expr} {f : Str} {pos : Pos} {ta : TE}
theorem pe_fldK (hK : X.K = K) (ha : PE X o ta) (hb : attributeBase o f X.env (eval o X.env) = eval o X.env:=by rfl) : PE X (.Attribute o f pos) (tFld K ta f):=hK ▸ pe_fld ha hb
theorem ix_listK (hK : X.K = K) : IxR X (rIxL K):=hK ▸ ix_list
theorem call_lenK (hK : X.K = K) : CallR X (.builtin "len") (fun xs H Q=>∃ p ys,xs = [.ref p]∧(SqL K H p ys∨SqT K H p ys)∧Q (.int ys.length) H):=hK ▸ call_len_seq
end
def spPlaces (cs : Cs) : Sp:=fun vs H Q _=>∃ (b : Addr) (A : BkA) (p : Nat) (B : Bk),vs = [.ref b]∧BookAt cs H b A p B∧Good B.P B.ns∧Sz B ∧
 ∀ (D : Addr) (H' : Hp),H' D = some (.lst (nV (plc B.P B.ns)))→Same H H'→Q (.ref D) H'
theorem nsum (l : List Nat) : (l.map fun (i : Nat)=>(i : Int)).sum = ((l.sum : Nat) : Int):=by
 induction l with
 | nil=>rfl
 | cons a r ih=>rw [List.map_cons,List.sum_cons,List.sum_cons,ih]; omega
section
variable {P : Program} {w : World} {K : PySem.W.Frag} {mg : Str→Option Value} {base : Heap} {cs : Cs}
theorem sc_places : FnScope ["book","places","node","person","formula"] ["book"] (defScope st_all_places):=⟨rfl,rfl,rfl,by decide +kernel,rfl,by decide +kernel,by decide +kernel⟩
theorem ok_places (T : FunT K mg "all_places" st_all_places) (clB : Cls K cs.boo) (naB : NoAt K cs.boo ["prime","people","nodes","lets","names"]) (clN : Cls K cs.nod) (naN : NoAt K cs.nod ["asked","within"]) (hsum : mg "sum" = none) :
  DefOk P w K mg base 1 "all_places" ["book"] (spPlaces cs):=by
 obtain ⟨f,fd,F,hm⟩:=T.ex
 refine ⟨f,fd,hm,F.kp,F.binds (fun _ _ _ _ _ _ us hl=>match us,hl with | [_],_=>rfl),okN F sc_places (fun vs H Q E h=>?_) (fun cdv A outer s H vs Q E hr h=>?_)⟩
 ·obtain ⟨b,A,p,B,rfl,_⟩:=h
  rfl
 ·obtain ⟨b,Ad,p,B,rfl,R,good,sz,kq⟩:=h
  obtain ⟨dx,ob⟩:=R.ob
  refine ⟨_,pss_cons (ps_set (i:=1) sc_places.nd rfl (Or.inr rfl) (pe_lc rfl sc_places.nd (pi_list (pe_fld (pv 0) rfl)) (blkOk_by (own:=[("person",3)]) (by show blkC ["book","places","node","person","formula"] (defScope st_all_places) _ [("person",3)] = true; decide +kernel))
    (fun _ _ _ _ _=>pg_name (i:=3) sc_places.nd rfl (Or.inl rfl)) (fun _ _ _ _ _=>pts_nil) (fun _ _ _ _ _=>pe_int)))
   (pss_cons (ps_for PassesOwn.never rfl (pi_list (pe_fld (pv 0) rfl)) (pg_name (i:=2) sc_places.nd rfl (Or.inl rfl))
    (pss_one (ps_expr (pe_bm PySem.F.plainAttrs_list PySem.F.slot_list_append PySem.F.type_list_append mt_append (pv 1) (pa_cons (pe_callB (cr_sum rfl) (by rfl) hsum PyProof.Rows.boot_sum
     (pa_cons (pe_lc rfl sc_places.nd (pi_list (pe_fld (pv 2) rfl)) (blkOk_by (own:=[("formula",4)]) (by show blkC ["book","places","node","person","formula"] (defScope st_all_places) _ [("formula",4)] = true; decide +kernel))
      (fun _ _ _ _ _=>pg_name (i:=4) sc_places.nd rfl (Or.inl rfl)) (fun _ _ _ _ _=>pts_nil) (fun _ _ _ _ _=>pe_ix (ix_listK (K:=K) rfl) (pv 1) (pv 4) (fun _ _=>rfl))) pa_nil)) pa_nil)))))
    (pss_one (ps_ret (pv 1)))),?_⟩
  refine ⟨_,rfl,b,cs.boo,dx,_,_,rfl,ob,clB,naB _ (by simp),bkF_people _ _ _ _ _,Ad.pa,rfl,⟨_,SqL.of R.people⟩,fun D hD=>?_⟩
  refine lc_list (xs:=B.people.map fun x=>V.str (mkS x)) (fun i H'=>H' = upd H D (.lst (nV (List.replicate i 1)))) rfl ?_ ?_ ?_
  ·rintro i H' _ rfl
   exact SqL.of (by rw [upd_ne (ne_of_none R.people hD)]; exact R.people)
  ·rintro i x H' hx rfl
   have hi : i < B.people.length:=by have:=(List.getElem?_eq_some_iff.mp hx).1; rwa [List.length_map] at this
   refine ⟨rfl,_,upd_same,?_,?_⟩
   ·rw [nV_length,List.length_replicate]
    exact Nat.lt_trans (Nat.lt_trans hi sz.pe) (by decide)
   ·rw [upd_upd,List.replicate_succ',nV_snoc]
    rfl
  rintro H1 rfl
  have hpl : (List.replicate (B.people.map fun x=>V.str (mkS x)).length 1) = plc B.P []:=by rw [List.length_map,plc_nil]; rfl
  rw [hpl]
  have s0 : Same H (upd H D (.lst (nV (plc B.P [])))):=fun c o q=>by rw [upd_ne (ne_of_none q hD)]; exact q
  refine ⟨_,rfl,b,cs.boo,dx,_,_,rfl,s0 _ _ ob,clB,naB _ (by simp),bkF_nodes _ _ _ _ _,Ad.na,rfl,⟨_,SqL.of (s0 _ _ R.nodes)⟩,?_⟩
  refine for_list (xs:=Ad.nds.map fun x=>V.ref x.1) (fun i σ H'=>(∃ x y z,σ = [some (.ref b),some (.ref D),x,y,z])∧H' D = some (.lst (nV (plc B.P (B.ns.take i))))∧Same H H') ⟨⟨_,_,_,rfl⟩,by rw [List.take_zero]; exact upd_same,s0⟩ ?_ ?_ ?_
  ·rintro i σ H' _ ⟨_,_,s1⟩
   exact SqL.of (s1 _ _ R.nodes)
  ·rintro i x σ H' hx ⟨⟨x1,y1,z1,rfl⟩,hl,s1⟩
   rw [List.getElem?_map] at hx
   cases hq : Ad.nds[i]? with
   | none=>rw [hq] at hx; cases hx
   | some nd =>
    rw [hq] at hx
    cases hx
    have hi : i < B.ns.length:=by rw [← R.len]; exact (List.getElem?_eq_some_iff.mp hq).1
    have hn : B.ns[i]? = some B.ns[i]:=List.getElem?_eq_getElem hi
    obtain ⟨⟨dn,n1⟩,n2⟩:=R.at_ i nd B.ns[i] hq hn
    have hw:=sz.wi _ (List.getElem_mem hi)
    have hg:=(good i _ hn).1
    have hpll : (plc B.P (B.ns.take i)).length = B.P + i:=by rw [plc_length,List.length_take,Nat.min_eq_left (Nat.le_of_lt hi)]
    refine ⟨_,rfl,.inl ⟨rfl,_,SqL.of hl⟩,_,rfl,nd.1,cs.nod,dn,_,_,rfl,s1 _ _ n1,clN,naN _ (by simp),ndF_within _ _,nd.2,rfl,⟨_,SqL.of (s1 _ _ n2)⟩,fun D2 hD2=>?_⟩
    have hDD : D ≠ D2:=ne_of_none hl hD2
    refine lc_list (xs:=nV B.ns[i].2) (fun j H2=>H2 = upd H' D2 (.lst (nV ((B.ns[i].2.take j).map fun k=>(plc B.P (B.ns.take i)).getD k 0)))) rfl ?_ ?_ ?_
    ·rintro j H2 _ rfl
     exact SqL.of (by rw [upd_ne (ne_of_none (s1 _ _ n2) hD2)]; exact s1 _ _ n2)
    ·rintro j y H2 hy rfl
     unfold nV at hy
     rw [List.getElem?_map] at hy
     cases hk : B.ns[i].2[j]? with
     | none=>rw [hk] at hy; cases hy
     | some k =>
      rw [hk] at hy
      cases hy
      have hkl : k < (plc B.P (B.ns.take i)).length:=by rw [hpll]; exact hg k (List.mem_of_getElem? hk)
      have hj : j < B.ns[i].2.length:=(List.getElem?_eq_some_iff.mp hk).1
      refine ⟨rfl,_,rfl,_,rfl,D,_,_,V.int ((((plc B.P (B.ns.take i)).getD k 0 : Nat)) : Int),rfl,rfl,SqL.of (by rw [upd_ne hDD]; exact hl),at_of (j:=k) rfl ?_,_,upd_same,?_,?_⟩
      ·unfold nV
       rw [List.getElem?_map,List.getElem?_eq_getElem hkl,List.getD_eq_getElem?_getD,List.getElem?_eq_getElem hkl]
       rfl
      ·rw [nV_length,List.length_map,List.length_take]
       exact Nat.lt_of_le_of_lt (Nat.min_le_left _ _) (Nat.lt_of_lt_of_le hj (Nat.le_trans hw (by decide)))
      ·rw [upd_upd,List.take_succ,hk]
       show _ = upd H' D2 (.lst (nV ((B.ns[i].2.take j++[k]).map fun k=>(plc B.P (B.ns.take i)).getD k 0)))
       rw [List.map_append]
       show _ = upd H' D2 (.lst (nV ((B.ns[i].2.take j).map (fun k=>(plc B.P (B.ns.take i)).getD k 0)++[(plc B.P (B.ns.take i)).getD k 0])))
       rw [nV_snoc]
    ·rintro H2 rfl
     rw [nV_length,List.take_length]
     refine ⟨D2,(B.ns[i].2.map fun k=>(plc B.P (B.ns.take i)).getD k 0).map fun (i : Nat)=>(i : Int),rfl,SqL.of (by
      rw [upd_same]
      unfold nV
      simp only [List.map_map]
      rfl),?_⟩
     refine ⟨D,_,_,rfl,rfl,by rw [upd_ne hDD]; exact hl,?_,?_⟩
     ·rw [nV_length,hpll]
      have h1:=sz.pe
      have h2:=sz.nd
      have h3 : B.P = B.people.length:=rfl
      exact Nat.lt_trans (show B.P + i < 100000 by omega) line100000
     ·refine ⟨⟨_,_,_,rfl⟩,?_,fun c o q=>?_⟩
      ·rw [upd_same,List.take_succ,hn]
       show _ = some (HO.lst (nV (plc B.P (B.ns.take i++[B.ns[i]]))))
       rw [plc_snoc,nV_snoc,nsum]
      ·have q1:=s1 c o q
       rw [upd_ne (ne_of_none q hD),upd_ne (ne_of_none q1 hD2)]
       exact q1
  ·rintro σ H' ⟨⟨x1,y1,z1,rfl⟩,hl,s1⟩
   rw [List.length_map,R.len,List.take_length] at hl
   exact ⟨_,rfl,kq D H' hl s1⟩
def spLimits (cs : Cs) : Sp:=fun vs H Q E=>∃ (b : Addr) (A : BkA) (p : Nat) (B : Bk),vs = [.ref b]∧BookAt cs H b A p B∧B.Ok∧Sz B ∧
 (small ⟨p,B.people,B.known.lets⟩ = true→∀ H',Same H H'→Q .non H')∧(¬ small ⟨p,B.people,B.known.lets⟩ = true→Thr E cs.ovl (-5))
theorem sc_limits : FnScope ["book","places","node","formula"] ["book"] (defScope st_keep_limits):=⟨rfl,rfl,rfl,by decide +kernel,rfl,by decide +kernel,by decide +kernel⟩
theorem ok_limits (T : FunT K mg "keep_limits" st_keep_limits) (clB : Cls K cs.boo) (naB : NoAt K cs.boo ["prime","people","nodes","lets","names"]) (clN : Cls K cs.nod) (naN : NoAt K cs.nod ["asked","within"]) (hlen : mg "len" = none) (hany : mg "any" = none)
  (hP : ∃ t,mg "MOST_PEOPLE" = some (.int 10 t)) (hL : ∃ t,mg "MOST_LETS" = some (.int 16 t)) (hM : ∃ t,mg "MOST_PLACES" = some (.int 24 t))
  (AP : DefOk P w K mg base 1 "all_places" ["book"] (spPlaces cs)) (OV : ExcOk P w K mg base 2 "OverLimit" cs.ovl ["self"] (spOwn0 K cs.ovl (-5))) :
  DefOk P w K mg base 4 "keep_limits" ["book"] (spLimits cs):=by
 obtain ⟨f,fd,F,hm⟩:=T.ex
 obtain ⟨fC,fdC,hmC,MC,bC,GC⟩:=OV.ex
 obtain ⟨tp,hP⟩:=hP
 obtain ⟨tl',hL⟩:=hL
 obtain ⟨tm,hM⟩:=hM
 refine ⟨f,fd,hm,F.kp,F.binds (fun _ _ _ _ _ _ us hl=>match us,hl with | [_],_=>rfl),okX F sc_limits (fun vs H Q E h=>?_) (fun cdv A outer s H vs Q E hr h=>?_)⟩
 ·obtain ⟨b,A,p,B,rfl,_⟩:=h
  rfl
 ·obtain ⟨b,Ad,p,B,rfl,R,ok,sz,kq,kx⟩:=h
  obtain ⟨dx,ob⟩:=R.ob
  refine ⟨_,pss_cons (ps_if (pw_or (pt_cmpR op_gt (pe_callB call_len_seq (by rfl) hlen PySem.boot_len (pa_cons (pe_fld (pv 0) rfl) pa_nil)) (pe_glob (v:=.int 10) (by rfl) hP ⟨tp,rfl⟩) (nomark _))
    (pw_or1 (pt_cmpR op_gt (pe_callB call_len_seq (by rfl) hlen PySem.boot_len (pa_cons (pe_fld (pv 0) rfl) pa_nil)) (pe_glob (v:=.int 16) (by rfl) hL ⟨tl',rfl⟩) (nomark _)))).pt (pss_one (ps_raise0 MC GC hr bC rfl hmC)) pss_nil)
   (pss_cons (ps_if (pt_val (pe_callB (cr_any rfl) (by rfl) hany PyProof.Rows.boot_any (pa_cons (pe_lc rfl sc_limits.nd (pi_list (pe_fld (pv 0) rfl)) (blkOk_by (own:=[("node",2)]) (by show blkC ["book","places","node","formula"] (defScope st_keep_limits) _ [("node",2)] = true; decide +kernel))
    (fun _ _ _ _ _=>pg_name (i:=2) sc_limits.nd rfl (Or.inl rfl)) (fun _ _ _ _ _=>pts_nil) (fun _ _ _ _ _=>pe_cmpR op_ge (pe_callB (call_lenK (K:=K) rfl) (by rfl) hlen PySem.boot_len (pa_cons (pe_fldK (K:=K) rfl (pv 2)) pa_nil)) (pe_fldK (K:=K) rfl (pv 0)) (nomark _))) pa_nil))) (pss_one (ps_raise0 MC GC hr bC rfl hmC)) pss_nil)
   (pss_cons (ps_set (i:=1) sc_limits.nd rfl (Or.inr rfl) (pe_def (AP.mono (by decide : 1≤3)) hr rfl pass_no (pa_cons (pv 0) pa_nil)))
   (pss_one (ps_if (pt_val (pe_callB (cr_any rfl) (by rfl) hany PyProof.Rows.boot_any (pa_cons (pe_lc rfl sc_limits.nd (pi_list (pe_fld (pv 0) rfl)) (blkOk_by (own:=[("formula",3)]) (by show blkC ["book","places","node","formula"] (defScope st_keep_limits) _ [("formula",3)] = true; decide +kernel))
    (fun _ _ _ _ _=>pg_name (i:=3) sc_limits.nd rfl (Or.inl rfl)) (fun _ _ _ _ _=>pts_nil) (fun _ _ _ _ _=>pe_cmpR op_gt (pe_ix (ix_listK (K:=K) rfl) (pv 1) (pv 3) (fun _ _=>rfl)) (pe_glob (v:=.int 24) (by rfl) hM ⟨tm,rfl⟩) (nomark _))) pa_nil))) (pss_one (ps_raise0 MC GC hr bC rfl hmC)) pss_nil)))),?_⟩
  have siff:=small_iff ok p
  have thr : ∀ (H1 : Hp),¬ small ⟨p,B.people,B.known.lets⟩ = true→tRaise cs.ovl (spOwn0 K cs.ovl (-5)) E tNil { nx:=fun _ H'=>Q .non H',rt:=Q } [] H1:=fun H1 hn =>
   ⟨Nat.zero_le _,fun x hx=>⟨x,rfl,upd_same,fun dy H' h1 h2 h3 h4=>⟨rfl,x,dy,rfl,h1,by
    have hdx : dy ≠ x:=fun z=>by rw [z,upd_same] at h3; cases h3
    exact kx hn dy _ (by rw [del_ne hdx]; exact h2)⟩⟩⟩
  refine ⟨_,rfl,b,cs.boo,dx,_,_,rfl,ob,clB,naB _ (by simp),bkF_people _ _ _ _ _,_,_,rfl,.inl (SqL.of R.people),_,_,rfl,rfl,_,rfl,ite2 (fun hc=>?_) fun hc=>?_⟩
  ·have h1 : (10 : Int) < ((B.people.map fun x=>V.str (mkS x)).length : Int):=of_decide_eq_true hc
   rw [List.length_map] at h1
   refine iteT ?_
   exact thr _ fun z=>by have:=(siff.mp z).1; omega
  have h1 : ¬ (10 : Int) < ((B.people.map fun x=>V.str (mkS x)).length : Int):=fun z=>hc (decide_eq_true z)
  rw [List.length_map] at h1
  refine ⟨_,rfl,b,cs.boo,dx,_,_,rfl,ob,clB,naB _ (by simp),bkF_lets _ _ _ _ _,_,_,rfl,.inl (SqL.of R.lets),_,_,rfl,rfl,_,rfl,ite2 (fun hc=>?_) fun hc=>?_⟩
  ·have h2 : (16 : Int) < ((nV (B.ls.map (·.2))).length : Int):=of_decide_eq_true hc
   rw [nV_length,List.length_map] at h2
   exact thr _ fun z=>by have:=(siff.mp z).2.1; omega
  have h2 : ¬ (16 : Int) < ((nV (B.ls.map (·.2))).length : Int):=fun z=>hc (decide_eq_true z)
  rw [nV_length,List.length_map] at h2
  refine ⟨_,rfl,b,cs.boo,dx,_,_,rfl,ob,clB,naB _ (by simp),bkF_nodes _ _ _ _ _,Ad.na,rfl,⟨_,SqL.of R.nodes⟩,fun D hD=>?_⟩
  have s0 : ∀ xs,Same H (upd H D (.lst xs)):=fun xs c o q=>by rw [upd_ne (ne_of_none q hD)]; exact q
  refine lc_list (xs:=Ad.nds.map fun x=>V.ref x.1) (fun i H'=>H' = upd H D (.lst (((B.ns.take i).map fun n=>decide ((p : Int)≤(n.2.length : Int))).map V.bl))) rfl ?_ ?_ ?_
  ·rintro i H' _ rfl
   exact SqL.of (s0 _ _ _ R.nodes)
  ·rintro i x H' hx rfl
   rw [List.getElem?_map] at hx
   cases hq : Ad.nds[i]? with
   | none=>rw [hq] at hx; cases hx
   | some nd =>
    rw [hq] at hx
    cases hx
    have hi : i < B.ns.length:=by rw [← R.len]; exact (List.getElem?_eq_some_iff.mp hq).1
    have hn : B.ns[i]? = some B.ns[i]:=List.getElem?_eq_getElem hi
    obtain ⟨⟨dn,n1⟩,n2⟩:=R.at_ i nd B.ns[i] hq hn
    refine ⟨rfl,_,rfl,nd.1,cs.nod,dn,_,_,rfl,s0 _ _ _ n1,clN,naN _ (by simp),ndF_within _ _,_,_,rfl,.inl (SqL.of (s0 _ _ _ n2)),_,rfl,b,cs.boo,dx,_,_,rfl,s0 _ _ _ ob,clB,naB _ (by simp),bkF_prime _ _ _ _ _,_,_,rfl,rfl,_,upd_same,?_,?_⟩
    ·rw [List.length_map,List.length_map,List.length_take]
     exact Nat.lt_of_le_of_lt (Nat.min_le_left _ _) (Nat.lt_trans (Nat.lt_trans hi sz.nd) (by decide))
    ·rw [upd_upd,List.take_succ,hn,nV_length]
     show _ = upd H D (.lst (((B.ns.take i++[B.ns[i]]).map _).map V.bl))
     rw [List.map_append,List.map_append]
     rfl
  rintro H1 rfl
  rw [List.length_map,R.len,List.take_length]
  refine ⟨D,_,rfl,SqL.of upd_same,_,rfl,ite2 (fun hc=>?_) fun hc=>?_⟩
  ·refine thr _ fun z=>?_
   obtain ⟨x,hx,hx2⟩:=List.any_eq_true.mp hc
   obtain ⟨n,hn,rfl⟩:=List.mem_map.mp hx
   have h3 : (p : Int)≤(n.2.length : Int):=of_decide_eq_true hx2
   have:=(siff.mp z).2.2.1 n hn
   omega
  have nar : Narrow p B.ns:=fun n hn=>by
   refine Nat.lt_of_not_le fun z=>hc (List.any_eq_true.mpr ⟨_,List.mem_map.mpr ⟨n,hn,rfl⟩,?_⟩)
   exact decide_eq_true (by omega)
  refine ⟨_,rfl,b,Ad,p,B,rfl,R.keep (Kp.same (s0 _) []) (fun x hx=>by simp at hx),ok.good,sz,fun D1 H2 hD1 s1=>?_⟩
  have s2 : Same H H2:=(s0 _).trans s1
  refine ⟨_,rfl,b,cs.boo,dx,_,_,rfl,s2 _ _ ob,clB,naB _ (by simp),bkF_lets _ _ _ _ _,Ad.la,rfl,⟨_,SqL.of (s2 _ _ R.lets)⟩,fun D2 hD2=>?_⟩
  have s3 : ∀ xs,Same H2 (upd H2 D2 (.lst xs)):=fun xs c o q=>by rw [upd_ne (ne_of_none q hD2)]; exact q
  have atp : ∀ k,k ∈ B.ls.map (·.2)→(plc B.P B.ns)[k]? = some ((leaves (den B.P B.ns k)).length):=fun k hk=>by
   obtain ⟨x,hx,rfl⟩:=List.mem_map.mp hk
   exact plc_at ok.good (ok.lt x hx)
  refine lc_list (xs:=nV (B.ls.map (·.2))) (fun i H'=>H' = upd H2 D2 (.lst ((((B.ls.map (·.2)).take i).map fun k=>decide ((24 : Int) < ((leaves (den B.P B.ns k)).length : Int))).map V.bl))) rfl ?_ ?_ ?_
  ·rintro i H' _ rfl
   exact SqL.of (s3 _ _ _ (s2 _ _ R.lets))
  ·rintro i x H' hx rfl
   unfold nV at hx
   rw [List.getElem?_map] at hx
   cases hk : (B.ls.map (·.2))[i]? with
   | none=>rw [hk] at hx; cases hx
   | some k =>
    rw [hk] at hx
    cases hx
    have hi : i < (B.ls.map (·.2)).length:=(List.getElem?_eq_some_iff.mp hk).1
    refine ⟨rfl,_,rfl,_,rfl,D1,_,_,V.int (((leaves (den B.P B.ns k)).length : Nat) : Int),rfl,rfl,SqL.of (s3 _ _ _ hD1),at_of (j:=k) rfl ?_,_,_,rfl,rfl,_,upd_same,?_,?_⟩
    ·unfold nV
     rw [List.getElem?_map,atp k (List.mem_of_getElem? hk)]
     rfl
    ·rw [List.length_map,List.length_map,List.length_take]
     rw [List.length_map] at hi
     exact Nat.lt_of_le_of_lt (Nat.min_le_left _ _) (Nat.lt_trans (Nat.lt_trans hi sz.le) (by decide))
    ·rw [upd_upd,List.take_succ,hk]
     show _ = upd H2 D2 (.lst ((((B.ls.map (·.2)).take i++[k]).map _).map V.bl))
     rw [List.map_append,List.map_append]
     rfl
  rintro H3 rfl
  rw [nV_length,List.take_length]
  refine ⟨D2,_,rfl,SqL.of upd_same,_,rfl,ite2 (fun hc=>?_) fun hc=>?_⟩
  ·refine thr _ fun z=>?_
   obtain ⟨x,hx,hx2⟩:=List.any_eq_true.mp hc
   obtain ⟨k,hk,rfl⟩:=List.mem_map.mp hx
   obtain ⟨y,hy,rfl⟩:=List.mem_map.mp hk
   have h3 : (24 : Int) < ((leaves (den B.P B.ns y.2)).length : Int):=of_decide_eq_true hx2
   have:=(siff.mp z).2.2.2 y hy
   omega
  ·refine kq (siff.mpr ⟨by omega,by omega,nar,fun x hx=>Nat.le_of_not_lt fun z=>hc (List.any_eq_true.mpr ⟨_,List.mem_map.mpr ⟨x.2,List.mem_map.mpr ⟨x,hx,rfl⟩,rfl⟩,?_⟩)⟩) _ (s2.trans (s3 _))
   exact decide_eq_true (by omega)
end
end Pg
end
section
set_option linter.all false
set_option maxRecDepth 100000
set_option maxHeartbeats 4000000
namespace Pg
open PySem L2 Xc Sp Rb35
theorem lc_str {x : Str} {g : TG} {tt : TT} {te : TE} {vs : List Nat} {σ : L2.St} {H1 : Hp} {D : Addr} {Qd : Hp→Prop} (Pv : Nat→Hp→Prop) (h0 : Pv 0 (upd H1 D (.lst [])))
  (hs : ∀ i c H,x.cps.toList[i]? = some c→Pv i H→g (.str ⟨#[c]⟩) (wipe σ vs) H fun σ2 H2=>wipe σ2 vs = wipe σ vs∧tt σ2 H2 fun b H3 =>
   if b = true then te σ2 H3 fun y H4=>∃ acc,H4 D = some (.lst acc)∧acc.length < sizeLine∧Pv (i + 1) (upd H4 D (.lst (acc++[y]))) else Pv (i + 1) H3) (hd : ∀ H,Pv x.cps.toList.length H→Qd H) :
  ∃ W : Nat→Nat→Hp→Prop,(∃ m,W 0 m (upd H1 D (.lst [])))∧∀ i m H,W i m H →
   ((Its x).stop i H∧Qd H)∨((Its x).go i H∧∃ Nx : Hp→Prop,(∀ H',Nx H'→∃ m',m' < m∧W (i + 1) m' H')∧∀ y H',(Its x).yld i H y H'→g y (wipe σ vs) H' fun σ2 H2=>wipe σ2 vs = wipe σ vs∧tt σ2 H2 fun b H3 =>
    if b = true then te σ2 H3 fun y H4=>∃ acc,H4 D = some (.lst acc)∧acc.length < sizeLine∧Nx (upd H4 D (.lst (acc++[y]))) else Nx H3):=by
 have hl : x.cps.toList.length = x.cps.size:=Array.length_toList
 refine ⟨fun i m H=>m = x.cps.toList.length - i∧i≤x.cps.toList.length∧Pv i H,⟨x.cps.toList.length,by simp,Nat.zero_le _,h0⟩,?_⟩
 rintro i m H ⟨rfl,hi,p⟩
 by_cases hlt : i < x.cps.toList.length
 ·refine .inr ⟨by show i < x.cps.size; omega,Pv (i + 1),fun H' p'=>⟨x.cps.toList.length - (i + 1),by omega,rfl,hlt,p'⟩,fun y H' q=>?_⟩
  obtain ⟨e,c,hc,rfl⟩:=q
  subst e
  exact hs i c _ (by rw [← hc]; simp) p
 ·have e : i = x.cps.toList.length:=by omega
  subst e
  exact .inl ⟨by show x.cps.size≤_; omega,hd H p⟩
def allS : Str:=("abcdefghijklmnopqrstuvwxyz0123456789_" : Str)++("(),;=&|#\n" : Str)
def allL : List Nat:=List.range' 97 26++(List.range' 48 10++[95])++[40,41,44,59,61,38,124,35,10]
theorem allS_tl : allS.cps.toList = allL:=by decide +kernel
def kvOf (c : Nat) : Key × V:=(Sum.inl (c : Int),V.str ⟨#[c]⟩)
def blanks (d : List (Key × V)) (l : List Int) : List (Key × V):=l.foldl (fun d b=>putK d (Sum.inl b) (V.str " ")) d
theorem blanks_nil (d : List (Key × V)) : blanks d [] = d:=rfl
theorem blanks_snoc (d : List (Key × V)) (l : List Int) (b : Int) : blanks d (l++[b]) = putK (blanks d l) (Sum.inl b) (V.str " "):=by
 unfold blanks
 rw [List.foldl_append]
 rfl
theorem blanks_len : ∀ (l : List Int) (d : List (Key × V)),(blanks d l).length≤d.length + l.length
 | [],d=>Nat.le_refl _
 | a::r,d=>by
  have h1:=blanks_len r (putK d (Sum.inl a) (V.str " "))
  have h2:=length_putK d (Sum.inl a) (V.str " ")
  show (blanks (putK d (Sum.inl a) (V.str " ")) r).length≤_
  rw [List.length_cons]
  omega
def rowM : List (Key × V):=mergeK [] (allL.map kvOf)
def rowD : List (Key × V):=blanks rowM [9,13,32]
theorem rowD_val : ∀ b : Nat,b < 256→(valV rowD (Sum.inl (b : Int))).getD (V.str "?") = V.str (mkS [cls b]):=by decide +kernel
theorem mergeK_len : ∀ (l : List (Key × V)) (d : List (Key × V)),(mergeK d l).length≤d.length + l.length
 | [],d=>Nat.le_refl _
 | a::r,d=>by
  have h:=mergeK_len r (putK d a.1 a.2)
  have h2:=length_putK d a.1 a.2
  show (mergeK (putK d a.1 a.2) r).length≤_
  rw [List.length_cons]
  omega
theorem rowM_len : rowM.length≤46:=by
 have h:=mergeK_len (allL.map kvOf) []
 have h4 : (allL.map kvOf).length = 46:=by decide
 rw [h4] at h
 exact h
def spRow (K : PySem.W.Frag) : Sp:=fun vs H Q _=>∃ (la : Addr) (bs : List Nat),vs = [.ref la]∧SqL K H la (nV bs)∧(∀ b ∈ bs,b < 256)∧bs.length≤10000∧∀ H',Same H H'→Q (.str (mkS (bs.map cls))) H'
theorem join_row (bs : List Nat) : Txt.join ("" : Str) (bs.map fun b=>mkS [cls b]) = mkS (bs.map cls):=by
 rw [TL.join_eq]
 refine TL.ext_tl ?_
 rw [TL.tl_join]
 have e0 : TL.tl ("" : Str) = []:=by decide +kernel
 rw [e0,List.map_map]
 show TL.joinL [] (bs.map fun b=>[cls b]) = bs.map cls
 induction bs with
 | nil=>rfl
 | cons a r ih =>
  cases r with
  | nil=>rfl
  | cons b r =>
   show [cls a]++([]++TL.joinL [] ((b::r).map fun b=>[cls b])) = cls a::(b::r).map cls
   rw [ih]
   rfl
section
variable {P : Program} {w : World} {K : PySem.W.Frag} {mg : Str→Option Value} {base : Heap} {cs : Cs}
theorem sc_row : FnScope ["text","signs","byte","sign"] ["text"] (defScope st_row_of):=⟨rfl,rfl,rfl,by decide +kernel,rfl,by decide +kernel,by decide +kernel⟩
theorem ok_row (T : FunT K mg "row_of" st_row_of) (hord : mg "ord" = none) (hdict : mg "dict" = none) (hW : ∃ t,mg "WORD_SIGNS" = some (.str "abcdefghijklmnopqrstuvwxyz0123456789_" t)) (hO : ∃ t,mg "OTHER_SIGNS" = some (.str "(),;=&|#\n" t))
  (hB : ∃ a,mg "BLANK_BYTES" = some (.ref a)∧∀ H,SqT K H a [V.int 9,V.int 13,V.int 32]) : DefOk P w K mg base 1 "row_of" ["text"] (spRow K):=by
 obtain ⟨f,fd,F,hm⟩:=T.ex
 obtain ⟨t1,hW⟩:=hW
 obtain ⟨t2,hO⟩:=hO
 obtain ⟨ba,hB,hsq⟩:=hB
 refine ⟨f,fd,hm,F.kp,F.binds (fun _ _ _ _ _ _ us hl=>match us,hl with | [_],_=>rfl),okN (k:=0) F sc_row (fun vs H Q E h=>?_) (fun cdv A outer s H vs Q E hr h=>?_)⟩
 ·obtain ⟨la,bs,rfl,_⟩:=h
  rfl
 ·obtain ⟨la,bs,rfl,hla,hbs,hlen,kq⟩:=h
  refine ⟨_,pss_cons (ps_set (i:=1) sc_row.nd rfl (Or.inr rfl) (pe_callTy (call_dictP rfl) (by rfl) hdict PyProof.Rows.boot_dict (pa_cons (pe_lc rfl sc_row.nd (pi_str (pe_op op_add_str (pe_glob (v:=.str "abcdefghijklmnopqrstuvwxyz0123456789_") (by rfl) hW ⟨t1,rfl⟩) (pe_glob (v:=.str "(),;=&|#\n") (by rfl) hO ⟨t2,rfl⟩)))
    (blkOk_by (own:=[("sign",3)]) (by show blkC ["text","signs","byte","sign"] (defScope st_row_of) _ [("sign",3)] = true; decide +kernel)) (fun _ _ _ _ _=>pg_name (i:=3) sc_row.nd rfl (Or.inl rfl)) (fun _ _ _ _ _=>pts_nil)
    (fun _ _ _ _ _=>pe_tup (pa_cons (pe_callB call_ord (by rfl) hord PyProof.Rows.boot_ord (pa_cons (pv 3) pa_nil)) (pa_cons (pv 3) pa_nil)))) pa_nil)))
   (pss_cons (ps_for PassesOwn.never rfl (pi_tup (pe_glob (v:=.ref ba) (by rfl) hB rfl)) (pg_name (i:=2) sc_row.nd rfl (Or.inl rfl)) (pss_one (ps_dput (hu_of hr) (pv 1) (pv 2) pe_str rfl)))
   (pss_one (ps_ret (pe_join pe_str (pe_lc rfl sc_row.nd (pi_list (pv 0)) (blkOk_by (own:=[("byte",2)]) (by show blkC ["text","signs","byte","sign"] (defScope st_row_of) _ [("byte",2)] = true; decide +kernel))
    (fun _ _ _ _ _=>pg_name (i:=2) sc_row.nd rfl (Or.inl rfl)) (fun _ _ _ _ _=>pts_nil) (fun _ _ _ _ _=>pe_dget2 (hu_of hr) (pv 1) (pv 2) pe_str ⟨rfl,rfl,rfl,rfl⟩)))))),?_⟩
  refine ⟨_,_,rfl,rfl,by decide +kernel,allS,rfl,fun D hD=>?_⟩
  refine lc_str (x:=allS) (fun i H'=>∃ ps : List Addr,ps.length = i∧H' D = some (.lst (ps.map V.ref))∧Paired (fun q kv=>H' q = some (.tup [kV kv.1,kv.2])) ps ((allL.take i).map kvOf)∧Same H H') ⟨[],rfl,upd_same,.nil,fun c o q=>by rw [upd_ne (ne_of_none q hD)]; exact q⟩ ?_ ?_
  ·rintro i c H' hc ⟨ps,hps,hl,hp,s1⟩
   rw [allS_tl] at hc
   refine ⟨rfl,_,rfl,⟨#[c]⟩,rfl,rfl,_,rfl,by show 2≤sizeLine; decide,fun q hq=>?_⟩
   have hDq : D ≠ q:=ne_of_none hl hq
   have hi : i < allL.length:=(List.getElem?_eq_some_iff.mp hc).1
   refine ⟨_,by rw [upd_ne hDq]; exact hl,?_,ps++[q],by rw [List.length_append,hps]; rfl,?_,?_,fun a o e=>?_⟩
   ·rw [List.length_map,hps]
    exact Nat.lt_trans (Nat.lt_of_lt_of_le hi (show allL.length≤100000 by decide)) line100000
   ·rw [upd_same,List.map_append]
    rfl
   ·rw [List.take_succ,hc]
    show Paired _ (ps++[q]) (((allL.take i)++[c]).map kvOf)
    rw [List.map_append]
    refine Paired.snoc (Paired.mapP hp fun y kv e=>?_) ?_
    ·rw [upd_ne (ne_of e hl (by intro z; cases z)),upd_ne (ne_of_none e hq)]
     exact e
    ·rw [upd_ne hDq.symm,upd_same]
     rfl
   ·have e1:=s1 a o e
    rw [upd_ne (ne_of_none e hD),upd_ne (ne_of_none e1 hq)]
    exact e1
  rintro H1 ⟨ps,hps,hl,hp,s1⟩
  rw [allS_tl,List.take_length] at hp
  refine ⟨D,ps,allL.map kvOf,rfl,SqL.of hl,Paired.mapP hp fun y kv e=>SqT.of e,fun dd hdd=>?_⟩
  have s2 : ∀ o,Same H (upd H1 dd o):=fun o a u e=>by
   have e1:=s1 a u e
   rw [upd_ne (ne_of_none e1 hdd)]
   exact e1
  have nd1 : H dd = none:=s1.free hdd
  show tSeq _ _ _ _ (upd H1 dd (.dK rowM))
  have hM:=rowM_len
  have hD' : rowD = blanks rowM [9,13,32]:=rfl
  generalize rowM = M at hM hD' ⊢
  refine ⟨ba,rfl,⟨_,hsq _⟩,?_⟩
  refine for_tup (xs:=[V.int 9,V.int 13,V.int 32]) (fun j σ H'=>(∃ x y,σ = [some (.ref la),some (.ref dd),x,y])∧H' dd = some (.dK (blanks M (([9,13,32] : List Int).take j)))∧Same H H') ⟨⟨_,_,rfl⟩,by rw [List.take_zero,blanks_nil]; exact upd_same,s2 _⟩ (fun _ _ _ _ _=>hsq _) ?_ ?_
  ·rintro j x σ H' hx ⟨⟨y1,y2,rfl⟩,hd,s3⟩
   have hb : ∃ b : Int,x = V.int b∧([9,13,32] : List Int)[j]? = some b:=by
    match j,hx with
    | 0,hx=>exact ⟨9,by simpa using hx.symm,rfl⟩
    | 1,hx=>exact ⟨13,by simpa using hx.symm,rfl⟩
    | 2,hx=>exact ⟨32,by simpa using hx.symm,rfl⟩
    | j + 3,hx=>simp at hx
   obtain ⟨b,rfl,hb⟩:=hb
   refine ⟨_,rfl,_,rfl,dd,_,rfl,DPut.k (k:=Sum.inl b) hd ?_,⟨_,_,rfl⟩,?_,fun a u e=>?_⟩
   ·have h1:=blanks_len (([9,13,32] : List Int).take j) M
    have h3 : (([9,13,32] : List Int).take j).length≤3:=by rw [List.length_take]; exact Nat.min_le_right _ _
    exact Nat.lt_trans (show _ < 100000 by omega) line100000
   ·rw [upd_same,List.take_succ,hb]
    show _ = some (HO.dK (blanks _ ((([9,13,32] : List Int).take j)++[b])))
    rw [blanks_snoc]
   ·rw [upd_ne (ne_of_none e nd1)]
    exact s3 a u e
  rintro σ H2 ⟨⟨y1,y2,rfl⟩,hd,s3⟩
  have e3 : ([9,13,32] : List Int).take ([V.int 9,V.int 13,V.int 32] : List V).length = [9,13,32]:=rfl
  have hd2 : H2 dd = some (.dK rowD):=by rw [hD',← e3]; exact hd
  have hrv:=rowD_val
  clear hD' hd e3
  generalize rowD = R at hd2 hrv
  refine ⟨⟨_,rfl⟩,_,rfl,la,rfl,⟨_,s3.seq hla⟩,fun D2 hD2=>?_⟩
  have s4 : ∀ xs,Same H2 (upd H2 D2 (.lst xs)):=fun xs a u e=>by rw [upd_ne (ne_of_none e hD2)]; exact e
  refine lc_list (xs:=nV bs) (fun j H'=>H' = upd H2 D2 (.lst (((bs.take j).map fun b=>mkS [cls b]).map V.str))) rfl ?_ ?_ ?_
  ·rintro j H' _ rfl
   exact (s4 _).seq (s3.seq hla)
  ·rintro j x H' hx rfl
   unfold nV at hx
   rw [List.getElem?_map] at hx
   cases hb : bs[j]? with
   | none=>rw [hb] at hx; cases hx
   | some b =>
    rw [hb] at hx
    cases hx
    have hj:=(List.getElem?_eq_some_iff.mp hb).1
    have hd3:=s4 ((((bs.take j).map fun b=>mkS [cls b]).map V.str)) _ _ hd2
    refine ⟨rfl,_,rfl,dd,rfl,.inl ⟨_,.inl hd3⟩,_,rfl,_,DGet.k (k:=Sum.inl (b : Int)) hd3,_,upd_same,?_,?_⟩
    ·rw [List.length_map,List.length_map,List.length_take]
     exact Nat.lt_of_le_of_lt (Nat.min_le_left _ _) (Nat.lt_trans (show j < 100000 by omega) line100000)
    ·rw [upd_upd,List.take_succ,hb,hrv b (hbs b (List.mem_of_getElem? hb))]
     show _ = upd H2 D2 (.lst (((bs.take j++[b]).map _).map V.str))
     rw [List.map_append,List.map_append]
     rfl
  ·rintro H3 rfl
   rw [nV_length,List.take_length]
   refine ⟨_,D2,bs.map fun b=>mkS [cls b],rfl,rfl,.inl (SqL.of upd_same),?_,?_⟩
   ·have e1 : ((bs.map fun b=>mkS [cls b]).map (·.length)).sum = bs.length:=by
     rw [List.map_map]
     clear hla hbs hlen kq hd2 s4
     induction bs with
     | nil=>rfl
     | cons a r ih=>rw [List.map_cons,List.sum_cons,ih,List.length_cons]; show 1 + _ = _; omega
    have e2 : ("" : Str).length = 0:=by decide +kernel
    rw [e1,e2]
    omega
   ·rw [join_row]
    exact kq _ (s3.trans (s4 _))
end
end Pg
end
section
set_option linter.all false
set_option maxRecDepth 100000
set_option maxHeartbeats 4000000
namespace Pg
open PySem L2 Xc Sp Rb35
theorem runLen_pos (c : Nat) (r : List Nat) : 1≤runLen (c::r):=by
 unfold runLen
 dsimp only
 split
 ·rename_i h
  subst h
  rw [List.takeWhile_cons]
  simp
 ·split
  ·rename_i h
   rw [List.takeWhile_cons,show isWord c = true by simp [isWord,h]]
   simp
  ·split
   ·rename_i h
    rw [List.takeWhile_cons,h]
    simp
   ·exact Nat.le_refl _
theorem tw_le {p : Nat→Bool} : ∀ (l : List Nat),(l.takeWhile p).length≤l.length
 | []=>Nat.le_refl _
 | a::r=>by
  rw [List.takeWhile_cons]
  split
  ·rw [List.length_cons,List.length_cons]
   exact Nat.succ_le_succ (tw_le r)
  ·exact Nat.zero_le _
theorem runLen_le (c : Nat) (r : List Nat) : runLen (c::r)≤(c::r).length:=by
 unfold runLen
 dsimp only
 split
 ·exact tw_le _
 ·split
  ·exact tw_le _
  ·split
   ·exact tw_le _
   ·show 1≤r.length + 1; omega
theorem ptoks_end (f at_ : Nat) : ptoks f at_ [] = [([],at_)]:=by cases f <;> rfl
theorem ptoks_last : ∀ (f at_ : Nat) (l : List Nat),∃ xs p,ptoks f at_ l = xs++[([],p)]
 | 0,at_,l=>⟨[],at_,rfl⟩
 | f + 1,at_,[]=>⟨[],at_,rfl⟩
 | f + 1,at_,c::r=>by
  rw [ptoks_cons]
  obtain ⟨xs,p,e⟩:=ptoks_last f (at_ + runLen (c::r)) ((c::r).drop (runLen (c::r)))
  split
  ·exact ⟨xs,p,e⟩
  ·exact ⟨_::xs,p,by rw [e]; rfl⟩
theorem ptoks_len : ∀ (f at_ : Nat) (l : List Nat),(ptoks f at_ l).length≤f + 1
 | 0,at_,l=>Nat.le_refl _
 | f + 1,at_,[]=>by show 1≤_; omega
 | f + 1,at_,c::r=>by
  rw [ptoks_cons]
  have h:=ptoks_len f (at_ + runLen (c::r)) ((c::r).drop (runLen (c::r)))
  split
  ·omega
  ·rw [List.length_cons]; omega
theorem word_dig {c : Nat} {r : List Nat} (h : kindS ((c::r).take (runLen (c::r))) = "number") : ∀ x ∈ (c::r).take (runLen (c::r)),isDigit x = true:=by
 have hp:=runLen_pos c r
 obtain ⟨n,hn⟩ : ∃ n,runLen (c::r) = n + 1:=⟨runLen (c::r) - 1,by omega⟩
 have hd : isDigit c = true:=by
  rw [hn,List.take_succ_cons] at h
  unfold kindS at h
  dsimp only at h
  split at h
  ·exact absurd h (by decide +kernel)
  ·split at h
   ·rename_i q; exact q.1
   ·exact absurd h (by decide +kernel)
 have hs:=small_digit hd
 have e : runLen (c::r) = ((c::r).takeWhile isDigit).length:=by
  unfold runLen
  dsimp only
  rw [if_neg (by intro z; subst z; revert hd; decide),if_neg (by rw [hs]; decide),if_pos hd]
 rw [e,take_len_takeWhile]
 intro x hx
 exact (takeWhile_all hx).1
theorem ptoks_dig : ∀ (f at_ : Nat) (l : List Nat),∀ t ∈ ptoks f at_ l,kindS t.1 = "number"→∀ c ∈ t.1,isDigit c = true
 | 0,at_,l,t,ht,h=>by
  have : t = ([],at_):=by simpa [ptoks] using ht
  subst this
  exact absurd h (by show ¬ kindS [] = "number"; decide +kernel)
 | f + 1,at_,[],t,ht,h=>by
  have : t = ([],at_):=by simpa [ptoks] using ht
  subst this
  exact absurd h (by show ¬ kindS [] = "number"; decide +kernel)
 | f + 1,at_,c::r,t,ht,h=>by
  rw [ptoks_cons] at ht
  split at ht
  ·exact ptoks_dig f _ _ t ht h
  ·rcases List.mem_cons.mp ht with rfl | ht
   ·exact word_dig h
   ·exact ptoks_dig f _ _ t ht h
theorem ptoks_ok (l : List Nat) (hl : l.length≤9000) : TOk (ptoks (l.length + 1) 0 l):=by
 refine ⟨fun i t h hne=>?_,ptoks_dig _ _ _,by have:=ptoks_len (l.length + 1) 0 l; omega⟩
 obtain ⟨xs,p,e⟩:=ptoks_last (l.length + 1) 0 l
 rw [e] at h ⊢
 have hi : i < xs.length:=by
  rcases Nat.lt_or_ge i xs.length with q | q
  ·exact q
  ·exfalso
   rw [List.getElem?_append_right q] at h
   cases q2 : i - xs.length with
   | zero =>
    rw [q2] at h
    simp at h
    subst h
    exact hne rfl
   | succ n=>rw [q2] at h; simp at h
 have : i + 1 < (xs++[(([] : List Nat),p)]).length:=by rw [List.length_append]; simp; omega
 exact ⟨_,List.getElem?_eq_getElem this⟩
def ptk (bs : List Nat) : List PT:=ptoks ((bs.map cls).length + 1) 0 (bs.map cls)
theorem ptk_ok {bs : List Nat} (h : bs.length≤9000) : TOk (ptk bs):=ptoks_ok _ (by rw [List.length_map]; exact h)
theorem ptk_toks {bs : List Nat} (h : ∀ b ∈ bs,b < 256) : tk (ptk bs) 0 = toks bs:=by
 unfold tk ptk toks
 rw [List.drop_zero,List.length_map]
 exact toks_eq _ _ _ h
def spToks (K : PySem.W.Frag) (cs : Cs) : Sp:=fun vs H Q _=>∃ (la : Addr) (bs : List Nat),vs = [.ref la]∧SqL K H la (nV bs)∧(∀ b ∈ bs,b < 256)∧bs.length≤9000∧∀ (lt : Addr) (as : List Addr) (H' : Hp),ToksAt cs H' lt as (ptk bs)→H lt = none→Same H H'→Q (.ref lt) H'
theorem ToksAt.snoc {cs : Cs} {H H1 : Hp} {lt x dx : Addr} {as : List Addr} {T : List PT} {t : PT} (R : ToksAt cs H lt as T) (s : Same H H1) (nx : H x = none) (h : H1 x = some (.ins cs.tok dx (tokG (kindS t.1) (mkS t.1) (t.2 : Int)))) :
  ToksAt cs (upd H1 lt (.lst (as.map V.ref++[V.ref x]))) lt (as++[x]) (T++[t]):=by
 refine ⟨by rw [upd_same,List.map_append]; rfl,by rw [List.length_append,List.length_append,R.len]; rfl,fun j a u e1 e2=>?_⟩
 by_cases hj : j < as.length
 ·rw [List.getElem?_append_left hj] at e1
  rw [List.getElem?_append_left (by rw [← R.len]; exact hj)] at e2
  obtain ⟨dy,ha⟩:=R.at_ j a u e1 e2
  exact ⟨dy,by rw [upd_ne (insNe (s _ _ ha) (s _ _ R.lst))]; exact s _ _ ha⟩
 ·rw [List.getElem?_append_right (by omega)] at e1
  rw [List.getElem?_append_right (by rw [← R.len]; omega)] at e2
  rw [← R.len] at e2
  cases q : j - as.length with
  | zero =>
   rw [q] at e1 e2
   simp at e1 e2
   subst e1 e2
   exact ⟨dx,by rw [upd_ne (insNe h (s _ _ R.lst))]; exact h⟩
  | succ n=>rw [q] at e1; simp at e1
theorem cutS_nat (l : List Nat) (a n : Nat) (h : a + n≤l.length) : cutS (mkS l) (some (a : Int)) (some ((a + n : Nat) : Int)) = mkS ((l.drop a).take n):=by
 unfold cutS
 rw [HT.sIx_nat,HT.sIx_nat,len_mkS,Nat.min_eq_left h,Nat.min_eq_left (show a≤l.length by omega),Nat.add_sub_cancel_left]
 rfl
theorem skip_are (c : Nat) : decide (c ∈ (" \n#" : Str).cps.toList) = skipped c:=by
 have e : (" \n#" : Str).cps.toList = [32,10,35]:=by decide +kernel
 rw [e]
 unfold skipped
 by_cases h1 : c = 32
 ·simp [h1]
 ·by_cases h2 : c = 10
  ·simp [h2]
  ·by_cases h3 : c = 35
   ·simp [h3]
   ·simp [h1,h2,h3]
section
variable {P : Program} {w : World} {K : PySem.W.Frag} {mg : Str→Option Value} {base : Heap} {cs : Cs}
theorem sc_toks : FnScope ["text","row","tokens","place","end","word"] ["text"] (defScope st_tokens_of):=⟨rfl,rfl,rfl,by decide +kernel,rfl,by decide +kernel,by decide +kernel⟩
theorem ok_toks (T : FunT K mg "tokens_of" st_tokens_of) (hlen : mg "len" = none) (hE : ∃ t,mg "END" = some (.str "end" t)) (RO : DefOk P w K mg base 1 "row_of" ["text"] (spRow K)) (RE : DefOk P w K mg base 2 "run_end" ["row","place"] spRunEnd) (KI : DefOk P w K mg base 1 "kind_of" ["word"] spKind)
  (TO : ClaOk P w K mg base 1 "Token" cs.tok ["self","kind","word","place"] (spToken cs)) : DefOk P w K mg base 3 "tokens_of" ["text"] (spToks K cs):=by
 obtain ⟨f,fd,F,hm⟩:=T.ex
 obtain ⟨t1,hE⟩:=hE
 refine ⟨f,fd,hm,F.kp,F.binds (fun _ _ _ _ _ _ us hl=>match us,hl with | [_],_=>rfl),okN F sc_toks (fun vs H Q E h=>?_) (fun cdv A outer s H vs Q E hr h=>?_)⟩
 ·obtain ⟨la,bs,rfl,_⟩:=h
  rfl
 ·obtain ⟨la,bs,rfl,hla,hbs,hlb,kq⟩:=h
  refine ⟨_,pss_cons (ps_set (i:=1) sc_toks.nd rfl (Or.inl rfl) (pe_def (RO.mono (by decide : 1≤2)) hr rfl pass_no (pa_cons (pv 0) pa_nil)))
   (pss_cons (ps_set (i:=2) sc_toks.nd rfl (Or.inl rfl) (pe_lst pa_nil))
   (pss_cons (ps_set (i:=3) sc_toks.nd rfl (Or.inl rfl) pe_int)
   (pss_cons (ps_while PassesOwn.never (pt_cmpR op_lt (pv 3) (pe_callB call_len_str (by rfl) hlen PySem.boot_len (pa_cons (pv 1) pa_nil)) (nomark _))
    (pss_cons (ps_set (i:=4) sc_toks.nd rfl (Or.inl rfl) (pe_def RE hr rfl pass_no (pa_cons (pv 1) (pa_cons (pv 3) pa_nil))))
    (pss_cons (ps_if (pt_cmpR op_notIn_sign (pe_ix ix_str (pv 1) (pv 3) (fun _ _=>rfl)) pe_str (by rfl))
     (pss_cons (ps_set (i:=5) sc_toks.nd rfl (Or.inl rfl) (pe_slice sl_str (pv 1) (po_some (pv 3)) (po_some (pv 4))))
     (pss_one (ps_expr (pe_bm PySem.F.plainAttrs_list PySem.F.slot_list_append PySem.F.type_list_append mt_append (pv 2) (pa_cons (pe_cla TO hr rfl pass_no (pa_cons (pe_def (KI.mono (by decide : 1≤2)) hr rfl pass_no (pa_cons (pv 5) pa_nil)) (pa_cons (pv 5) (pa_cons (pv 3) pa_nil)))) pa_nil))))) pss_nil)
    (pss_one (ps_set (i:=3) sc_toks.nd rfl (Or.inl rfl) (pv 4))))))
   (pss_cons (ps_expr (pe_bm PySem.F.plainAttrs_list PySem.F.slot_list_append PySem.F.type_list_append mt_append (pv 2) (pa_cons (pe_cla TO hr rfl pass_no (pa_cons (pe_glob (v:=.str "end") (by rfl) hE ⟨t1,rfl⟩) (pa_cons pe_str (pa_cons (pe_callB call_len_str (by rfl) hlen PySem.boot_len (pa_cons (pv 1) pa_nil)) pa_nil)))) pa_nil)))
   (pss_one (ps_ret (pv 2))))))),?_⟩
  refine ⟨_,rfl,la,bs,rfl,hla,hbs,by omega,fun H1 s1=>?_⟩
  refine ⟨Nat.zero_le _,fun lt hlt=>?_⟩
  have nlt : H lt = none:=s1.free hlt
  have hll : (bs.map cls).length = bs.length:=List.length_map _
  have hsz : (mkS (bs.map cls)).length≤sizeLine:=by rw [len_mkS,hll]; exact Nat.le_trans (show _≤100000 by omega) (Nat.le_of_lt line100000)
  refine while_go (fun σ H'=>∃ (pl f : Nat) (as : List Addr) (T : List PT) (x y : Option V),σ = [some (.ref la),some (.str (mkS (bs.map cls))),some (.ref lt),some (.int (pl : Int)),x,y]∧pl≤(bs.map cls).length∧(bs.map cls).length - pl < f∧T.length≤pl∧ToksAt cs H' lt as T∧Same H H' ∧
   T++ptoks f pl ((bs.map cls).drop pl) = ptk bs) (fun σ _=>match σ with | [_,_,_,some (.int e),_,_]=>(bs.map cls).length - e.toNat | _=>0)
   ⟨0,(bs.map cls).length + 1,[],[],none,none,rfl,Nat.zero_le _,by omega,Nat.le_refl _,⟨upd_same,rfl,fun j a t h=>by simp at h⟩,fun c o q=>by rw [upd_ne (ne_of_none (s1 _ _ q) hlt)]; exact s1 _ _ q,rfl⟩ ?_
  rintro σ H2 ⟨pl,f,as,T,x1,y1,rfl,hpl,hf,hTl,R,s2,e⟩
  refine ⟨_,rfl,_,rfl,_,rfl,hsz,_,_,rfl,rfl,_,rfl,ite2 (fun hc=>?_) fun hc=>?_⟩
  ·have h1 : ((pl : Nat) : Int) < ((mkS (bs.map cls)).length : Int):=of_decide_eq_true hc
   rw [len_mkS] at h1
   have h2 : pl < (bs.map cls).length:=by omega
   have hd : (bs.map cls).drop pl = (bs.map cls)[pl]::(bs.map cls).drop (pl + 1):=List.drop_eq_getElem_cons h2
   have hrp:=runLen_pos (bs.map cls)[pl] ((bs.map cls).drop (pl + 1))
   have hrl:=runLen_le (bs.map cls)[pl] ((bs.map cls).drop (pl + 1))
   rw [← hd] at hrp hrl
   rw [List.length_drop] at hrl
   obtain ⟨f',rfl⟩ : ∃ f',f = f' + 1:=⟨f - 1,by omega⟩
   have ep : ptoks (f' + 1) pl ((bs.map cls).drop pl) = if skipped (bs.map cls)[pl] = true then ptoks f' (pl + runLen ((bs.map cls).drop pl)) ((bs.map cls).drop (pl + runLen ((bs.map cls).drop pl)))
     else (((bs.map cls).drop pl).take (runLen ((bs.map cls).drop pl)),pl)::ptoks f' (pl + runLen ((bs.map cls).drop pl)) ((bs.map cls).drop (pl + runLen ((bs.map cls).drop pl))):=by
    have:=ptoks_cons f' pl (bs.map cls)[pl] ((bs.map cls).drop (pl + 1))
    rw [← hd,List.drop_drop] at this
    exact this
   refine wgo ?_
   refine ⟨_,rfl,_,rfl,bs.map cls,pl,rfl,h2,by omega,?_⟩
   refine ⟨_,rfl,_,rfl,mkS (bs.map cls),_,(bs.map cls)[pl],rfl,rfl,hsz,atI_nat (List.getElem?_eq_getElem h2),(bs.map cls)[pl],_,rfl,rfl,_,rfl,ite2 (fun hc2=>?_) fun hc2=>?_⟩
   ·rw [skip_are] at hc2
    have hns : ¬ skipped (bs.map cls)[pl] = true:=by simpa using hc2
    rw [if_neg hns] at ep
    refine ⟨_,rfl,_,rfl,_,rfl,_,rfl,_,rfl,mkS (bs.map cls),rfl,hsz,?_⟩
    have hcut:=cutS_nat (bs.map cls) pl (runLen ((bs.map cls).drop pl)) (by omega)
    refine ⟨_,rfl,.inl ⟨rfl,_,SqL.of R.lst⟩,?_⟩
    have hwl : (((bs.map cls).drop pl).take (runLen ((bs.map cls).drop pl))).length = runLen ((bs.map cls).drop pl):=by rw [List.length_take,List.length_drop]; omega
    refine ⟨_,rfl,((bs.map cls).drop pl).take (runLen ((bs.map cls).drop pl)),by rw [← hcut]; rfl,fun z=>by rw [z] at hwl; simp at hwl; omega,by omega,_,rfl,_,rfl,fun x dxn nx ndx nex=>?_⟩
    refine ⟨x,dxn,_,_,_,rfl,upd_same,fun H3 h3 k3=>⟨rfl,?_⟩⟩
    have s3 : Same H2 H3:=Same.made nx ndx fun c o e hc=>k3 c o e (by simpa using hc)
    have hcut' : cutS (mkS (bs.map cls)) (some (pl : Int)) (some ((pl + runLen ((bs.map cls).drop pl) : Nat) : Int)) = mkS (((bs.map cls).drop pl).take (runLen ((bs.map cls).drop pl))):=hcut
    refine ⟨lt,_,_,rfl,rfl,s3 _ _ R.lst,?_,?_⟩
    ·rw [List.length_map,R.len]
     exact Nat.lt_trans (show _ < 100000 by omega) line100000
    have R3:=R.snoc (t:=(((bs.map cls).drop pl).take (runLen ((bs.map cls).drop pl)),pl)) s3 nx (by rw [← hcut']; exact h3)
    refine ⟨_,rfl,⟨pl + runLen ((bs.map cls).drop pl),f',_,_,_,_,rfl,by omega,by omega,?_,R3,fun c o q=>?_,?_⟩,?_⟩
    ·rw [List.length_append,List.length_singleton]; omega
    ·have q2:=s2 c o q
     rw [upd_ne (ne_of_none q nlt)]
     exact s3 _ _ q2
    ·rw [← e,ep,List.append_assoc]
     rfl
    ·show (bs.map cls).length - ((pl + runLen ((bs.map cls).drop pl) : Nat) : Int).toNat < (bs.map cls).length - ((pl : Nat) : Int).toNat
     omega
   ·rw [skip_are] at hc2
    have hs : skipped (bs.map cls)[pl] = true:=by simpa using hc2
    rw [if_pos hs] at ep
    refine ⟨_,rfl,⟨pl + runLen ((bs.map cls).drop pl),f',as,T,_,_,rfl,by omega,by omega,by omega,R,s2,?_⟩,?_⟩
    ·rw [← e,ep]
    ·show (bs.map cls).length - ((pl + runLen ((bs.map cls).drop pl) : Nat) : Int).toNat < (bs.map cls).length - ((pl : Nat) : Int).toNat
     omega
  ·have h1 : ¬ ((pl : Nat) : Int) < ((mkS (bs.map cls)).length : Int):=fun z=>hc (decide_eq_true z)
   rw [len_mkS] at h1
   have hpe : pl = (bs.map cls).length:=by omega
   refine ⟨_,rfl,.inl ⟨rfl,_,SqL.of R.lst⟩,_,rfl,_,rfl,hsz,fun x dxn nx ndx nex=>?_⟩
   refine ⟨x,dxn,_,_,_,rfl,upd_same,fun H3 h3 k3=>⟨rfl,?_⟩⟩
   have s3 : Same H2 H3:=Same.made nx ndx fun c o e hc=>k3 c o e (by simpa using hc)
   refine ⟨lt,_,_,rfl,rfl,s3 _ _ R.lst,?_,?_⟩
   ·rw [List.length_map,R.len]
    exact Nat.lt_trans (show _ < 100000 by omega) line100000
   have lit0 : ("" : Str) = mkS []:=by decide +kernel
   have R3:=R.snoc (t:=([],(bs.map cls).length)) s3 nx (by rw [← lit0,← len_mkS]; exact h3)
   refine ⟨_,rfl,kq lt (as++[x]) _ ?_ nlt fun c o q=>?_⟩
   ·rw [hpe,List.drop_length,ptoks_end] at e
    rw [← e]
    exact R3
   ·rw [upd_ne (ne_of_none q nlt)]
    exact s3 _ _ (s2 c o q)
end
end Pg
end
section
set_option linter.all false
set_option maxRecDepth 100000
set_option maxHeartbeats 4000000
namespace Pg
open PySem L2 Xc Sp Rb35
def letT (e : Known) (t : Toks) : Except Nat (Known × Toks):=(newName e (t.drop 1)).bind fun x=>(take_ 61 x.2).bind fun u=>(formula e u).bind fun y=>(take_ 59 y.2).map fun r=>(⟨e.people,e.lets++[(x.1,y.1)]⟩,r)
section
variable {T : List PT} {i : Nat} {t u v : PT} {e : Known}
theorem lets_let (ht : T[i]? = some t) (h : t.1 = ascii "let") : letsR e (tk T i) = (letT e (tk T i)).bind fun y=>letsR y.1 y.2:=by
 rw [letsR_eq]
 unfold letsBody letT
 rw [tk_atEnd ht,decide_eq_false (by rw [h]; decide),if_neg (by decide),tk_key abs_let ht,decide_eq_true h,if_neg (by decide)]
 simp only [bind_assoc']
 refine bind_congr' fun x _=>bind_congr' fun u _=>bind_congr' fun y _=>?_
 cases take_ 59 y.2 <;> rfl
theorem lets_end (ht : T[i]? = some t) (h : t.1 = []) : letsR e (tk T i) = .ok e:=by
 rw [letsR_eq]
 unfold letsBody
 rw [tk_atEnd ht,decide_eq_true h,if_pos rfl]
theorem lets_bad (ht : T[i]? = some t) (h : ¬ t.1 = []) (h2 : ¬ t.1 = ascii "let") : letsR e (tk T i) = .error t.2:=by
 rw [letsR_eq]
 unfold letsBody
 rw [tk_atEnd ht,decide_eq_false h,if_neg (by decide),tk_key abs_let ht,decide_eq_false h2,if_pos rfl,tk_place ht]
theorem let_drop (ht : T[i]? = some t) (h : t.1 = ascii "let") : letT e (tk T i) = (newName e (tk T (i + 1))).bind fun x=>(take_ 61 x.2).bind fun u=>(formula e u).bind fun y=>(take_ 59 y.2).map fun r=>(⟨e.people,e.lets++[(x.1,y.1)]⟩,r):=by
 unfold letT
 rw [tk_keyT abs_let ht h]
 rfl
end
theorem program_parts (t : Toks) : program t = (Rb35.field t).bind fun x=>(peopleT x.2).bind fun y=>(letsR y.1 y.2).map fun e=>⟨x.1,e.people,e.lets⟩:=by
 rw [program_eq]
 refine bind_congr' fun x _=>?_
 unfold peopleT
 by_cases h : isKey "who" x.2 = false
 ·rw [if_pos h,if_pos h]
  rfl
 ·rw [if_neg h,if_neg h,bind_assoc']
  refine bind_congr' fun y _=>?_
  cases take_ 59 y.2 <;> rfl
def spLet (cs : Cs) : Sp:=fun vs H Q E=>∃ (r lt : Addr) (as : List Addr) (T : List PT) (i : Nat) (b : Addr) (A : BkA) (p : Nat) (B : Bk) (t : PT),vs = [.ref r,.ref b]∧ReadAt cs H r lt as T i∧BookAt cs H b A p B∧lt ≠ A.na∧lt ≠ A.la∧B.Ok∧Fw B.ns [] (4 * i)∧B.names.length≤i∧TOk T∧T[i]? = some t∧t.1 = ascii "let" ∧
 (∀ (H' : Hp) (j : Nat) (A' : BkA) (ns' : List NodeM) (x : Nat) (nm : Bytes) (u : PT),letT B.known (tk T i) = .ok ((⟨B.people,ns',B.ls++[(nm,x)]⟩ : Bk).known,tk T j)→ReadAt cs H' r lt as T j→BookAt cs H' b A' p ⟨B.people,ns',B.ls++[(nm,x)]⟩→Sim A A' →
  (⟨B.people,ns',B.ls++[(nm,x)]⟩ : Bk).Ok→Fw ns' [] (4 * j)→Kp [r,A.na,A.la,A.ma] H H'→T[j]? = some u→i < j→Q .non H')∧(∀ k,letT B.known (tk T i) = .error k→Thr E cs.cst (-100 - (k : Int)))
section
variable {P : Program} {w : World} {K : PySem.W.Frag} {mg : Str→Option Value} {base : Heap} {cs : Cs}
theorem sc_let : FnScope ["reader","book","name","formula"] ["reader","book"] (defScope st_read_let):=⟨rfl,rfl,rfl,by decide +kernel,rfl,by decide +kernel,by decide +kernel⟩
theorem ok_let (co : CsOk cs) (T : FunT K mg "read_let" st_read_let) (cl : Cls K cs.rea) (clB : Cls K cs.boo) (naB : NoAt K cs.boo ["prime","people","nodes","lets","names"])
  (TW : MetOk P w K mg base 5 cs.rea "take_written" ["self","word"] (spWritten cs)) (NN : MetOk P w K mg base 5 cs.rea "take_new_name" ["self","names"] (spName cs false)) (FO : DefOk P w K mg base 8 "read_formula" ["reader","book"] (spFormula cs)) (AL : MetOk P w K mg base 1 cs.boo "add_let" ["self","name","formula"] (spAddLet cs)) :
  DefOk P w K mg base 9 "read_let" ["reader","book"] (spLet cs):=by
 obtain ⟨f,fd,F,hm⟩:=T.ex
 refine ⟨f,fd,hm,F.kp,F.binds (fun _ _ _ _ _ _ us hl=>match us,hl with | [_,_],_=>rfl),okX F sc_let (fun vs H Q E h=>?_) (fun cdv A outer s H vs Q E hr h=>?_)⟩
 ·obtain ⟨r,lt,as,T,i,b,A,p,B,t,rfl,_⟩:=h
  rfl
 ·obtain ⟨r,lt,as,T,i,b,Ad,p,B,t,rfl,R,Rb,hlna,hlla,ok,fw,hnl,tok,ht,hlet,kq,kx⟩:=h
  refine ⟨_,pss_cons (ps_expr (pe_met (pv 0) cl (TW.mono (by decide : 5≤8)) hr pass_on (pa_cons pe_str pa_nil)))
   (pss_cons (ps_set (i:=2) sc_let.nd rfl (Or.inl rfl) (pe_met (pv 0) cl (NN.mono (by decide : 5≤8)) hr pass_on (pa_cons (pe_fld (pv 1) rfl) pa_nil)))
   (pss_cons (ps_expr (pe_met (pv 0) cl (TW.mono (by decide : 5≤8)) hr pass_on (pa_cons pe_str pa_nil)))
   (pss_cons (ps_set (i:=3) sc_let.nd rfl (Or.inl rfl) (pe_def FO hr rfl pass_on (pa_cons (pv 0) (pa_cons (pv 1) pa_nil))))
   (pss_cons (ps_expr (pe_met (pv 0) cl (TW.mono (by decide : 5≤8)) hr pass_on (pa_cons pe_str pa_nil)))
   (pss_one (ps_expr (pe_met (pv 1) clB (AL.mono (by decide : 1≤8)) hr pass_no (pa_cons (pv 2) (pa_cons (pv 3) pa_nil))))))))),?_⟩
  have hTl:=tok.few
  have e0:=let_drop (e:=B.known) ht hlet
  have mono : ∀ {H1 H2 : Hp},Kp [r] H1 H2→Kp [r,Ad.na,Ad.la,Ad.ma] H1 H2:=fun k=>k.mono fun x hx=>by simp at hx; simp [hx]
  obtain ⟨u,hu⟩:=tok.next i t ht (by rw [hlet]; decide)
  refine rd_meth rfl R (by decide +kernel) (by decide +kernel) ?_
  refine ⟨r,lt,as,T,i,t,_,rfl,R,ht,fun _ H1 R1 k1=>?_,fun hq=>absurd ((wlit litLet).mpr hlet) hq⟩
  have Rb1:=Rb.read co R k1
  obtain ⟨db1,ob1⟩:=Rb1.ob
  refine rd_meth rfl R1 (by decide +kernel) (by decide +kernel) ?_
  refine ⟨_,rfl,b,cs.boo,db1,_,_,rfl,ob1,clB,naB _ (by simp),bkF_names _ _ _ _ _,?_⟩
  have hval : (valV (nmK B.names) (Sum.inr (mkS u.1))).isSome = knows B.known u.1:=by
   rw [nmK_val,Bk.knows_eq]
   cases look B.names u.1 <;> rfl
  refine ⟨r,lt,as,T,i + 1,u,Ad.ma,nmK B.names,rfl,R1,hu,Rb1.names,fun hq H2 R2 k2=>?_,fun hq=>?_⟩
  ·rw [hval] at hq
   rw [new_yes hu hq.1 hq.2] at e0
   have e1 : letT B.known (tk T i) = (take_ 61 (tk T (i + 2))).bind fun v=>(formula B.known v).bind fun y=>(take_ 59 y.2).map fun r=>(⟨B.known.people,B.known.lets++[(u.1,y.1)]⟩,r):=e0
   have hlook : look B.names u.1 = none:=by
    have:=hq.2
    rw [Bk.knows_eq] at this
    cases q : look B.names u.1 with
    | none=>rfl
    | some z=>rw [q] at this; cases this
   have Rb2:=Rb1.read co R1 k2
   obtain ⟨v,hv⟩:=tok.next (i + 1) u hu (fun z=>by have:=hq.1; rw [z] at this; exact absurd this (by decide +kernel))
   refine rd_meth rfl R2 (by decide +kernel) (by decide +kernel) ?_
   refine ⟨r,lt,as,T,i + 2,v,_,rfl,R2,hv,fun h3 H3 R3 k3=>?_,fun h3=>kx v.2 ?_⟩
   ·have h61:=(wlit lit61).mp h3
    rw [take_yes (by decide) hv h61] at e1
    have e2 : letT B.known (tk T i) = (formula B.known (tk T (i + 3))).bind fun y=>(take_ 59 y.2).map fun r=>(⟨B.known.people,B.known.lets++[(u.1,y.1)]⟩,r):=e1
    have Rb3:=Rb2.read co R2 k3
    obtain ⟨y,hy⟩:=tok.next (i + 2) v hv (by rw [h61]; simp)
    refine ⟨_,rfl,_,rfl,r,lt,as,T,i + 3,b,Ad,p,B,y,rfl,R3,Rb3,hlna,ok,fw.mono (by omega),tok,hy,fun H4 j A4 ns4 x z R4 Rb4 sim k4 ps4 fw4 hij hz ef=>?_,fun k hk=>kx k (by rw [e2,hk]; rfl)⟩
    rw [ef] at e2
    have e3 : letT B.known (tk T i) = (take_ 59 (tk T j)).map fun r=>(⟨B.known.people,B.known.lets++[(u.1,den B.P ns4 x)]⟩,r):=e2
    refine rd_meth rfl R4 (by decide +kernel) (by decide +kernel) ?_
    refine ⟨r,lt,as,T,j,z,_,rfl,R4,hz,fun h5 H5 R5 k5=>?_,fun h5=>kx z.2 ?_⟩
    ·have h59:=(wlit lit59).mp h5
     rw [take_yes (by decide) hz h59] at e3
     obtain ⟨y5,hy5⟩:=tok.next j z hz (by rw [h59]; simp)
     have Rb5:=Rb4.read co R4 k5
     obtain ⟨db5,ob5⟩:=Rb5.ob
     obtain ⟨okN,knN⟩:=ps4.done ok ⟨rfl,rfl⟩ rfl u.1
     have hjl:=(List.getElem?_eq_some_iff.mp hz).1
     refine ⟨_,rfl,b,db5,_,rfl,ob5,bkF_no _ _ _ _ _ (by decide +kernel) (by decide +kernel) (by decide +kernel) (by decide +kernel) (by decide +kernel),_,rfl,_,rfl,?_⟩
     refine ⟨b,u.1,x,A4,p,{ B with ns:=ns4 },rfl,Rb5,hlook,by show B.names.length < 50000; omega,fun H6 Rb6 k6=>?_⟩
     have R6:=R5.keepL k6 fun q hq=>by
      simp only [List.mem_cons,List.not_mem_nil,or_false] at hq
      rcases hq with rfl | rfl
      ·exact ⟨by rw [sim.2.2.1]; exact hlla.symm,fun C dx fs z=>by rw [Rb5.lets] at z; cases z⟩
      ·exact ⟨dicNe Rb5.names R5.tk.lst,fun C dx fs z=>by rw [Rb5.names] at z; cases z⟩
     refine kq H6 (j + 1) A4 ns4 x u.1 y5 ?_ R6 Rb6 sim okN (fw4.mono (by omega)) ?_ hy5 (by omega)
     ·rw [e3,knN]
      rfl
     ·rw [sim.2.2.1,sim.2.1] at k6
      exact (mono k1).trans ((mono k2).trans ((mono k3).trans ((k4.mono fun x hx=>by simp at hx ⊢; rcases hx with rfl | rfl <;> simp).trans ((mono k5).trans (k6.mono fun x hx=>by simp at hx ⊢; rcases hx with rfl | rfl <;> simp)))))
    ·rw [e3,take_no (by decide) hz fun q=>h5 ((wlit lit59).mpr q)]
     rfl
   ·rw [e1,take_no (by decide) hv fun q=>h3 ((wlit lit61).mpr q)]
    rfl
  ·rw [hval] at hq
   refine kx u.2 ?_
   rw [e0,new_no hu hq]
   rfl
def spBookOf (K : PySem.W.Frag) (cs : Cs) : Sp:=fun vs H Q E=>∃ (la : Addr) (bs : List Nat),vs = [.ref la]∧SqL K H la (nV bs)∧(∀ b ∈ bs,b < 256)∧bs.length≤9000 ∧
 (∀ (G : Prog) (b : Addr) (A : BkA) (B : Bk) (H' : Hp),taken bs = .good G→BookAt cs H' b A G.p B→B.Ok→Sz B→G.people = B.people→G.lets = B.known.lets→small G = true→Same H H'→Q (.ref b) H') ∧
 (∀ v,taken bs = .bad v→Thr E cs.cst v∧Thr E cs.ovl v)
theorem sameStep {F : List Addr} {H H1 H2 : Hp} (s : Same H H1) (k : Kp F H1 H2) (h : ∀ x ∈ F,H x = none) : Same H H2:=fun c o q=>k c o (s c o q) fun z=>by rw [h c z] at q; cases q
def LeI (cs : Cs) (H0 : Hp) (la r lt : Addr) (as : List Addr) (T : List PT) (b : Addr) (A : BkA) (p : Nat) (l : List Bytes) (j0 : Nat) : L2.St→Hp→Prop:=fun σ H' =>
 ∃ (A' : BkA) (B : Bk) (j : Nat) (u : PT),σ = [some (.ref la),some (.ref r),some (.ref b)]∧ReadAt cs H' r lt as T j∧BookAt cs H' b A' p B∧Sim A A'∧B.Ok∧Fw B.ns [] (4 * j)∧B.names.length≤j∧Same H0 H'∧T[j]? = some u∧letsR ⟨l,[]⟩ (tk T j0) = letsR B.known (tk T j)
theorem sc_bookof : FnScope ["text","reader","book"] ["text"] (defScope st_book_of):=⟨rfl,rfl,rfl,by decide +kernel,rfl,by decide +kernel,by decide +kernel⟩
theorem ok_bookof (co : CsOk cs) (T : FunT K mg "book_of" st_book_of) (cl : Cls K cs.rea) (clT : Cls K cs.tok) (naT : NoAt K cs.tok ["kind","word","place"]) (hlen : mg "len" = none) (hLT : ∃ t,mg "LONGEST_TEXT" = some (.int 65536 t)) (hE : ∃ t,mg "END" = some (.str "end" t))
  (OR : ExcOk P w K mg base 2 "OutOfRange" cs.oor ["self"] (spOwn0 K cs.oor (-2))) (TO : DefOk P w K mg base 3 "tokens_of" ["text"] (spToks K cs)) (RD : ClaOk P w K mg base 1 "Reader" cs.rea ["self","tokens"] (spReader cs)) (FR : DefOk P w K mg base 6 "read_field" ["reader"] (spFieldR cs))
  (BK : ClaOk P w K mg base 1 "Book" cs.boo ["self","prime"] (spBook cs)) (PE' : DefOk P w K mg base 6 "read_people" ["reader","book"] (spPeople cs)) (NW : MetOk P w K mg base 1 cs.rea "now" ["self"] (spNow cs)) (LE : DefOk P w K mg base 9 "read_let" ["reader","book"] (spLet cs))
  (TK : MetOk P w K mg base 4 cs.rea "take" ["self","stands"] (spTake cs)) (LM : DefOk P w K mg base 4 "keep_limits" ["book"] (spLimits cs)) : DefOk P w K mg base 10 "book_of" ["text"] (spBookOf K cs):=by
 obtain ⟨f,fd,F,hm⟩:=T.ex
 obtain ⟨fC,fdC,hmC,MC,bC,GC⟩:=OR.ex
 have GC9:=GC.mono (by decide : 2≤8)
 obtain ⟨t1,hLT⟩:=hLT
 obtain ⟨t2,hE⟩:=hE
 refine ⟨f,fd,hm,F.kp,F.binds (fun _ _ _ _ _ _ us hl=>match us,hl with | [_],_=>rfl),okX F sc_bookof (fun vs H Q E h=>?_) (fun cdv A outer s H vs Q E hr h=>?_)⟩
 ·obtain ⟨la,bs,rfl,_⟩:=h
  rfl
 ·obtain ⟨la,bs,rfl,hla,hbs,hlb,kq,kx⟩:=h
  refine ⟨_,pss_cons (ps_if (pt_cmpR op_gt (pe_callB call_len_seq (by rfl) hlen PySem.boot_len (pa_cons (pv 0) pa_nil)) (pe_glob (v:=.int 65536) (by rfl) hLT ⟨t1,rfl⟩) (nomark _)) (pss_one (ps_raise0 MC GC9 hr bC rfl hmC)) pss_nil)
   (pss_cons (ps_set (i:=1) sc_bookof.nd rfl (Or.inl rfl) (pe_cla (RD.mono (by decide : 1≤8)) hr rfl pass_no (pa_cons (pe_def (TO.mono (by decide : 3≤9)) hr rfl pass_no (pa_cons (pv 0) pa_nil)) pa_nil)))
   (pss_cons (ps_set (i:=2) sc_bookof.nd rfl (Or.inl rfl) (pe_cla (BK.mono (by decide : 1≤8)) hr rfl pass_no (pa_cons (pe_def (FR.mono (by decide : 6≤9)) hr rfl pass_on (pa_cons (pv 1) pa_nil)) pa_nil)))
   (pss_cons (ps_expr (pe_def (PE'.mono (by decide : 6≤9)) hr rfl pass_on (pa_cons (pv 1) (pa_cons (pv 2) pa_nil))))
   (pss_cons (ps_while PassesOwn.leaving (pt_cmpR op_eq (pe_fld (pe_met0 (pv 1) cl (NW.mono (by decide : 1≤9)) hr pass_no) rfl) pe_str (nomark _)) (pss_one (ps_expr (pe_def LE hr rfl pass_on (pa_cons (pv 1) (pa_cons (pv 2) pa_nil))))))
   (pss_cons (ps_expr (pe_met (pv 1) cl (TK.mono (by decide : 4≤9)) hr pass_on (pa_cons (pe_cmpR op_eq (pe_fld (pe_met0 (pv 1) cl (NW.mono (by decide : 1≤9)) hr pass_no) rfl) (pe_glob (v:=.str "end") (by rfl) hE ⟨t2,rfl⟩) (nomark _)) pa_nil)))
   (pss_cons (ps_expr (pe_def (LM.mono (by decide : 4≤9)) hr rfl pass_on (pa_cons (pv 2) pa_nil)))
   (pss_one (ps_ret (pv 2))))))))),?_⟩
  have tok : TOk (ptk bs):=ptk_ok hlb
  have etk:=ptk_toks hbs
  have hT0 : ∃ t,(ptk bs)[0]? = some t:=by
   obtain ⟨xs,p,e⟩:=ptoks_last ((bs.map cls).length + 1) 0 (bs.map cls)
   have e' : ptk bs = xs++[([],p)]:=e
   exact ⟨_,List.getElem?_eq_getElem (show 0 < (ptk bs).length by rw [e',List.length_append]; simp)⟩
  obtain ⟨t0,ht0⟩:=hT0
  obtain ⟨T,hT⟩ : ∃ T,T = ptk bs:=⟨_,rfl⟩
  rw [← hT] at tok etk ht0
  have hTl:=tok.few
  have err : ∀ k,program (toks bs) = .error k→Thr E cs.cst (-100 - (k : Int)):=fun k hk=>by
   refine (kx _ ?_).1
   unfold taken
   rw [hk]
  have ep : program (toks bs) = (Rb35.field (tk T 0)).bind fun x=>(peopleT x.2).bind fun y=>(letsR y.1 y.2).map fun e=>⟨x.1,e.people,e.lets⟩:=by
   rw [etk]
   exact program_parts _
  refine ⟨_,rfl,_,_,rfl,.inl hla,_,_,rfl,rfl,_,rfl,ite2 (fun hc=>?_) fun _=>?_⟩
  ·exfalso
   have h1 : (65536 : Int) < ((nV bs).length : Int):=of_decide_eq_true hc
   rw [nV_length] at h1
   omega
  refine ⟨_,rfl,la,bs,rfl,hla,hbs,hlb,fun lt as H1 RT nlt s1=>?_⟩
  rw [← hT] at RT
  intro r dr nr ndr ner
  refine ⟨r,dr,lt,rfl,upd_same,fun H2 h2 k2=>⟨rfl,?_⟩⟩
  have s12 : Same H1 H2:=Same.made nr ndr fun c o e hc=>k2 c o e (by simpa using hc)
  have s2:=s1.trans s12
  have nr0 : H r = none:=s1.free nr
  have R2 : ReadAt cs H2 r lt as T 0:=⟨⟨dr,h2⟩,s12 _ _ RT.lst,RT.len,fun j a t e1 e2=>by
   obtain ⟨dy,h⟩:=RT.at_ j a t e1 e2
   exact ⟨dy,s12 _ _ h⟩⟩
  refine ⟨_,rfl,r,lt,as,T,0,t0,rfl,R2,tok,ht0,fun H3 p j3 u3 ef R3 k3 hu3 _=>?_,fun k hk=>err k (by rw [ep,hk]; rfl)⟩
  have s3 : Same H H3:=sameStep s2 k3 fun x hx=>by simp at hx; rw [hx]; exact nr0
  rw [ef] at ep
  have ep1 : program (toks bs) = (peopleT (tk T j3)).bind fun y=>(letsR y.1 y.2).map fun e=>⟨p,e.people,e.lets⟩:=ep
  intro b db nb ndb neb
  refine ⟨b,db,(p : Int),rfl,upd_same,fun pa na la' ma H4 h4 hpa hna hla4 hma npa nna nla nma nd4 k4=>⟨rfl,?_⟩⟩
  have s34 : Same H3 H4:=Same.made nb ndb fun c o e hc=>k4 c o e (by simpa using hc)
  have npa3:=upd2_none npa
  have nna3:=upd2_none nna
  have nla3:=upd2_none nla
  have nma3:=upd2_none nma
  have s4:=s3.trans s34
  have R4:=R3.same s34
  have Rb4 : BookAt cs H4 b ⟨pa,na,la',ma,[]⟩ p ⟨[],[],[]⟩:=⟨⟨db,h4⟩,hpa,hna,hla4,hma,rfl,fun j x n e1 e2=>by simp at e1,by show [pa,na,la'].Nodup; exact nd4⟩
  have ltne : ∀ {x : Addr},H3 x = none→lt ≠ x:=fun hx=>ne_of_none R3.tk.lst hx
  refine ⟨_,rfl,_,rfl,r,lt,as,T,j3,b,⟨pa,na,la',ma,[]⟩,p,u3,rfl,R4,Rb4,ltne npa3,tok,hu3,fun H5 l j5 u5 e5 R5 Rb5 k5 hu5 _ hl5=>?_,fun k hk=>err k (by rw [ep1,hk]; rfl)⟩
  have s5 : Same H H5:=sameStep s4 k5 fun x hx=>by
   simp only [List.mem_cons,List.not_mem_nil,or_false] at hx
   rcases hx with rfl | rfl | rfl
   ·exact nr0
   ·exact s3.free npa3
   ·exact s3.free nma3
  rw [e5] at ep1
  have ep2 : program (toks bs) = (letsR ⟨l,[]⟩ (tk T j5)).map fun e=>⟨p,e.people,e.lets⟩:=ep1
  have ok5 : (⟨l,[],[]⟩ : Bk).Ok:=⟨Good.nil,fun x hx=>by simp at hx,Cov.nil⟩
  have hnames5 : (⟨l,[],[]⟩ : Bk).names.length≤j5:=by
   show (l.zipIdx++[]).length≤_
   rw [List.append_nil,List.length_zipIdx]
   exact hl5
  refine while_go (LeI cs H la r lt as T b ⟨pa,na,la',ma,[]⟩ p l j5) (fun _ H'=>rdm T r H') ⟨⟨pa,na,la',ma,[]⟩,⟨l,[],[]⟩,j5,u5,rfl,R5,Rb5,⟨rfl,rfl,rfl,rfl⟩,ok5,⟨by simp,fun x hx=>by simp at hx,by simp⟩,hnames5,s5,hu5,rfl⟩ ?_
  rintro σ H6 ⟨A6,B,j6,u6,rfl,R6,Rb6,sim6,ok6,fw6,hn6,s6,hu6,e6⟩
  obtain ⟨d6,ob6⟩:=R6.ob
  have hjl6:=(List.getElem?_eq_some_iff.mp hu6).1
  have lna : lt ≠ A6.na:=by rw [sim6.1]; exact ltne nna3
  have lla : lt ≠ A6.la:=by rw [sim6.2.2.1]; exact ltne nla3
  refine now_word clT naT rfl R6 hu6 ⟨rfl,_,rfl,ite2 (fun hc=>?_) fun hc=>?_⟩
  ·rw [vlit litLet] at hc
   have hlet:=of_decide_eq_true hc
   have e7:=e6.trans (lets_let hu6 hlet)
   refine wgo ?_
   refine ⟨_,rfl,_,rfl,r,lt,as,T,j6,b,A6,p,B,u6,rfl,R6,Rb6,lna,lla,ok6,fw6,hn6,tok,hu6,hlet,fun H7 j7 A7 ns7 x nm u7 el R7 Rb7 sim7 ok7 fw7 k7 hu7 hij=>?_,fun k hk=>err k (by rw [ep2,e7,hk]; rfl)⟩
   rw [el] at e7
   obtain ⟨d7,ob7⟩:=R7.ob
   refine ⟨⟨A7,_,j7,u7,rfl,R7,Rb7,⟨sim7.1.trans sim6.1,sim7.2.1.trans sim6.2.1,sim7.2.2.1.trans sim6.2.2.1,sim7.2.2.2.trans sim6.2.2.2⟩,ok7,fw7,?_,sameStep s6 k7 (fun y hy=>?_),hu7,e7⟩,?_⟩
   ·show (B.people.zipIdx++(B.ls++[(nm,x)])).length≤j7
    have : (B.people.zipIdx++B.ls).length≤j6:=hn6
    rw [List.length_append] at this
    rw [List.length_append,List.length_append,List.length_singleton]
    omega
   ·simp only [List.mem_cons,List.not_mem_nil,or_false] at hy
    rcases hy with rfl | rfl | rfl | rfl
    ·exact nr0
    ·rw [sim6.1]; exact s3.free nna3
    ·rw [sim6.2.2.1]; exact s3.free nla3
    ·rw [sim6.2.1]; exact s3.free nma3
   ·rw [rdm_eq ob6,rdm_eq ob7]
    omega
  ·rw [vlit litLet] at hc
   have hlet : ¬ u6.1 = ascii "let":=fun z=>hc (decide_eq_true z)
   refine rd_meth rfl R6 (by decide +kernel) (by decide +kernel) ?_
   refine now_kind clT naT rfl R6 hu6 ⟨rfl,?_⟩
   refine ⟨r,lt,as,T,j6,u6,_,rfl,R6,hu6,fun hq H7 R7 k7=>?_,fun hq=>?_⟩
   ·rw [kvlit] at hq
    have hend:=kind_end.mp (of_decide_eq_true hq)
    have e7:=e6.trans (lets_end hu6 hend)
    rw [e7] at ep2
    have ep3 : program (toks bs) = .ok ⟨p,B.known.people,B.known.lets⟩:=ep2
    have s7 : Same H H7:=sameStep s6 k7 fun y hy=>by simp at hy; rw [hy]; exact nr0
    have fle:=fw6.le
    have hnn : B.people.length + B.ls.length≤j6:=by
     have : (B.people.zipIdx++B.ls).length≤j6:=hn6
     rwa [List.length_append,List.length_zipIdx] at this
    have sz : Sz B:=⟨by omega,by simp at fle; omega,fw6.wi,by omega⟩
    have etaken : taken bs = if small ⟨p,B.known.people,B.known.lets⟩ = true then .good ⟨p,B.known.people,B.known.lets⟩ else .bad (-5):=by
     unfold taken
     rw [ep3]
    refine ⟨_,rfl,b,A6,p,B,rfl,Rb6.read co R6 k7,ok6,sz,fun hs H8 s8=>?_,fun hs=>?_⟩
    ·rw [show (⟨p,B.people,B.known.lets⟩ : Prog) = ⟨p,B.known.people,B.known.lets⟩ from rfl] at hs
     rw [if_pos hs] at etaken
     refine ⟨_,rfl,kq _ b A6 B H8 etaken ((Rb6.read co R6 k7).keep (Kp.same s8 []) (fun y hy=>by simp at hy)) ok6 sz rfl rfl hs (s7.trans s8)⟩
    ·rw [show (⟨p,B.people,B.known.lets⟩ : Prog) = ⟨p,B.known.people,B.known.lets⟩ from rfl] at hs
     rw [if_neg hs] at etaken
     exact (kx _ etaken).2
   ·rw [kvlit] at hq
    have hend : ¬ u6.1 = []:=fun z=>absurd (kind_end.mpr z) (of_decide_eq_false hq)
    exact err _ (by rw [ep2,e6,lets_bad hu6 hend hlet]; rfl)
end
end Pg
end
section
set_option linter.all false
set_option maxRecDepth 100000
set_option maxHeartbeats 4000000
namespace Xc
open PySem PySem.W PySem.Builtin PySem.Builtin.ObjectAttr
section
variable {prog : Program} {w : World} {A : Around} {E : Value→Shared→Prop} {s : Shared} {K : Frag} {x C : Addr} {ox : Obj} {od : Option Obj} {name : Str} {expr : Bool} {Q : Value→Shared→Prop}
theorem oga_run {v : Value} {tk : Tok} {Q : Fin→Shared→Prop} (X : K.In s.heap) (I : InstAt s.heap x ox C od) (hf : findObj K C od name = some (.value v)) (h : Q (.done (.ret v)) s) :
  wpAny (model prog w) A (Builtin.«object.__getattribute__» ⟨[.ref x,.str name tk],[]⟩) Q E s:=by
 have l0:=I.type (M:=model prog w)
 have l1:=looks_find (M:=model prog w) X I hf
 refine wpAny_bind (wpAny_pure (wpAny_bind (wpAny_pure (wpAny_bind (l0.here (wpAny_bind (l1.here ?_)))))))
 exact wpAny_pure h
theorem getX {v : Value} (X : K.In s.heap) (I : InstAt s.heap x ox C od) (hga : findIn K (.ref C) "__getattribute__" = some (some (.builtin "BaseException.__getattribute__"))) (hgr : findIn K (.ref C) "__getattr__" = some none)
  (hsub : subIn K (.ref C) (.type "BaseException") = some true) (hf : findObj K C od name = some (.value v)) (hh : handedIn v = true) (h : Q v { s with toks:=s.toks + 1 }) : wpAny (model prog w) A (getAttr (.ref x) name expr) Q E s:=by
 obtain ⟨hp,g,d,t,os⟩:=s
 have l0:=I.type (M:=model prog w)
 have l1:=looks_findIn (M:=model prog w) X hga
 have l2:=looks_hook (M:=model prog w) (mc:=.ref C) X (r:=none) (by rw [if_pos (show onTheHeap (Value.ref C) = true from rfl)]; exact hgr)
 have l3 : Looks (model prog w) hp (isInstance (.ref x) (.type "BaseException")) true:=l0.andThen (looks_subIn X hsub)
 have ne : (Value.builtin "BaseException.__getattribute__" == Value.builtin "object.__getattribute__") = false:=by decide +kernel
 unfold getAttr getAttrBy
 refine wpAny_bind (wpAny_mkText (wpAny_holding (wpAny_bind (l0.at (wpAny_bind (l1.at ?_))))))
 dsimp only
 rw [ne,Bool.and_false,if_neg Bool.false_ne_true]
 unfold getAttrByItsOwn
 refine wpAny_bind (l2.at (wpAny_bind (wpAny_attempt (wpAny_holding ?_))))
 unfold callGetattribute
 rw [if_neg (show ¬ (expr && onTheHeap (Value.builtin "BaseException.__getattribute__")) = true from by cases expr <;> exact Bool.false_ne_true)]
 unfold boundAndCalled
 rw [PySem.F.attr_Exception.ga.bind]
 refine wpAny_bind (wpAny_pure (wpAny_call (codeAny_call_builtin PySem.F.attr_Exception.ga.plain PySem.F.entry_bexc_ga ?_)))
 refine @check_slot (model prog w) _ _ ⟨hp,g,d,t + 1,os⟩ "BaseException.__getattribute__" "BaseException" "__getattribute__" (.ref x) [.str name t] [] _ (by decide +kernel) (by decide +kernel) l3 (PySem.F.args_bexc_ga (.ref x) (.str name t)) ?_
 refine oga_run (s:=⟨hp,g,d,t + 1,os⟩) X I hf ?_
 show wpAny _ _ (handedOut v) _ _ _
 rw [handedOut_of hh]
 exact wpAny_pure h
end
end Xc
end
section
set_option linter.all false
set_option maxRecDepth 100000
set_option maxHeartbeats 4000000
namespace Xc
open PySem PySem.W PySem.Builtin
structure CatchC (K : Frag) (R : Addr) : Prop where
 notTup : instIn K (.ref R) (.type "tuple") = some false
 isTy : (clsIn K R).isSome = true
 isExc : subIn K (.ref R) (.type "BaseException") = some true
section
variable {M : Model} {A : Around} {E : Value→Shared→Prop} {s : Shared} {K : Frag} {a C R : Addr} {oe : Obj} {Q : Bool→Shared→Prop}
theorem matches_own (X : K.In s.heap) (c : CatchC K R) (he : s.heap.get? a = some oe) (hc : oe.cls = .ref C) (hs : subIn K (.ref C) (.ref R) = some true) (h : Q true s) : wpAny M A (excMatches (.ref a) (.ref R)) Q E s:=by
 obtain ⟨hp,g,d,t,os⟩:=s
 have l1:=looks_instIn (M:=M) X c.notTup
 have l2 : Looks M hp (isType (.ref R)) true:=by
  have e:=c.isTy
  unfold clsIn at e
  split at e
  ·rename_i ho
   exact (Looks.ld (X _ _ ho)).andThen .now
  ·cases e
 have l3:=looks_subIn (M:=M) X c.isExc
 have l4 : Looks M hp (typeOf (.ref a)) (.ref C):=hc ▸ (Looks.ld he).andThen .now
 have l5:=looks_subIn (M:=M) X hs
 unfold excMatches isExcClass
 repeat (first | simp only [Bool.not_true,Bool.false_eq_true,if_false,if_true,List.forIn_cons,List.forIn_nil] | lk)
 exact h
end
end Xc
end
section
set_option linter.all false
set_option maxRecDepth 100000
namespace Xc
open PySem PySem.Spec PyProof.Rows L2
def heldX (C dx a : Addr) : Heap→Prop:=fun h=>∃ o vs,h.get? a = some o∧o.cls = .ref C∧o.dict = some dx∧o.data = .fields vs
structure GetX (K : PySem.W.Frag) (C : Addr) : Prop where
 ga : PySem.W.findIn K (.ref C) "__getattribute__" = some (some (.builtin "BaseException.__getattribute__"))
 gr : PySem.W.findIn K (.ref C) "__getattr__" = some none
 sub : PySem.W.subIn K (.ref C) (.type "BaseException") = some true
 dct : PySem.W.hasDictIn K C = true
def tFldX (K : PySem.W.Frag) (ta : TE) (f : Str) : TE:=fun σ H Q=>ta σ H fun x H1=>∃ a C dx fs v,x = .ref a∧H1 a = some (.ext (heldX C dx a))∧H1 dx = some (.xd fs)∧GetX K C∧PySem.W.findIn K (.ref C) f = some none∧fs.lookup f = some v∧Q v H1
section
variable {X : Cx} {e : Expr} {f : Str} {pos : Pos} {ta : TE}
theorem pe_fldX (he : PE X e ta) (hb : attributeBase e f X.env (eval e X.env) = eval e X.env) : PE X (.Attribute e f pos) (tFldX X.K ta f):=by
 intro pins s σ H Q I h
 refine attr_of hb (thn (he pins s σ H _ I h) fun u s1 ⟨x,H1,I1,rx,a,C,dx,fs,v,ex,ea,ed,c,n,l,q⟩=>?_)
 subst ex
 obtain rfl : u = Value.ref a:=rx
 obtain ⟨⟨o,vs,ho,hc,hd,hv⟩,_,_⟩:=I1.hok a _ ea
 obtain ⟨mA,hns,hr⟩:=I1.hok dx _ ed
 obtain ⟨od,hod,hl⟩:=lookIn_ns hns
 have r:=hr f
 rw [l] at r
 obtain ⟨u',e',r'⟩:=r.some_of
 have J : PySem.W.InstAt s1.heap a o C (some od):=⟨ho,hc,by unfold PySem.W.notCls; rw [hv],by rw [hd]; exact hod⟩
 refine getX I1.kIn J c.ga c.gr c.sub (PySem.W.findObj_own c.dct n rfl (by rw [hl,e'])) (handed_of r') ?_
 exact ⟨v,H1,I1.tok _,r',q⟩
end
section
variable {X : Cx} {pins : List (Addr × Obj)} {σ : L2.St} {H : Hp} {s : Shared} {h' : Heap}
theorem replicate_none {n i : Nat} {v : V} (h : (List.replicate n (none : Option V))[i]? = some (some v)) : False:=by
 rw [List.getElem?_replicate] at h
 split at h <;> cases h
theorem frameTurned {m' : Str→Option Value} {t' : Nat} (I : Inv X pins σ H s) (hs : Heap.SameBut X.env.locals s.heap h') (hn : h'.Ns X.env.locals m') : Inv X pins (List.replicate X.N.length none) H { s with heap:=h',toks:=t' }:=by
 have nl : ∀ b u,H b = some u→b ≠ X.env.locals:=fun b u e z=>by rw [z,I.free] at e; cases e
 have n0 : ∀ b o,X.s_0.heap.get? b = some o→b ≠ X.env.locals:=fun b o e=>Nat.ne_of_lt (Nat.lt_of_lt_of_le (Heap.lt_size e) I.ok.above)
 refine ⟨I.ok,I.os,I.bare,⟨fun b o e n hb hx=>?_,fun b o e n hb hx=>?_,I.base.free,fun b o e hx=>?_,I.base.tups,I.base.frzs,I.base.tbls⟩,⟨m',hn,fun i x v e1 e2 e3=>(replicate_none e2).elim⟩,fun x c e=>?_,I.free,I.freeC,fun p hp=>?_,fun b o e=>?_,List.length_replicate⟩
 ·exact (hs.2 b (n0 b o e)).trans (I.base.keep b o e n hb hx)
 ·obtain ⟨sl,q⟩:=I.base.slot b o e n hb hx
  exact ⟨sl,(hs.2 b (n0 b o e)).trans q⟩
 ·obtain ⟨o',q⟩:=I.base.there b o e hx
  exact ⟨o',(hs.2 b (n0 b o e)).trans q⟩
 ·obtain ⟨v,z⟩:=I.cell x c e
  exact ⟨v,z.sameBut hs (I.cne x c e)⟩
 ·obtain ⟨e,n,ne,nf,d⟩:=I.pin p hp
  exact ⟨(hs.2 p.1 ne).trans e,n,ne,nf,d⟩
 ·refine (I.hok b o e).stay (fun c v hc q=>(hs.2 c ?_).trans q) (fun _ q=>q) fun _ _ q=>q
  rcases hc with rfl | hc
  ·exact nl _ _ e
  ·exact nl _ _ hc
theorem trackX {a C dx : Addr} (I : Inv X pins σ H s) (hx : heldX C dx a s.heap) (hn : H a = none) (hl : a ≠ X.env.locals) (hc : ∀ x c,X.env.cells.lookup x = some c→c ≠ a) (hp : ∀ p ∈ X.pn++pins,p.1 ≠ a)
  (h0 : ∀ o,X.s_0.heap.get? a = some o→X.H_0 a = none→a ∉ X.ex→False) : Inv X pins σ (upd H a (.ext (heldX C dx a))) s:=by
 have tr : ∀ b u,H b = some u→b ≠ a:=fun b u e=>ne_of_none e hn
 obtain ⟨o,vs,ho,c1,c2,c3⟩:=id hx
 refine ⟨I.ok,I.os,I.bare,⟨I.base.keep,I.base.slot,fun b ob e n hb=>?_,I.base.there,fun b xs e=>?_,fun b ob u e=>?_,fun b ps e=>?_⟩,I.loc,I.cell,by rw [upd_ne hl.symm]; exact I.free,fun x c e=>by rw [upd_ne (hc x c e)]; exact I.freeC x c e,fun p q=>?_,fun b u e=>?_,I.len⟩
 ·by_cases hba : b = a
  ·subst hba; exact (h0 ob e n hb).elim
  ·rw [upd_ne hba]; exact I.base.free b ob e n hb
 ·have q:=I.base.tups b xs e
  rw [upd_ne (tr b _ q)]; exact q
 ·have q:=I.base.frzs b ob u e
  rw [upd_ne (tr b _ q)]; exact q
 ·obtain ⟨m,q⟩:=I.base.tbls b ps e
  exact ⟨m,by rw [upd_ne (tr b _ q)]; exact q⟩
 ·obtain ⟨e,n,ne,nf,d⟩:=I.pin p q
  exact ⟨e,by rw [upd_ne (hp p q)]; exact n,ne,nf,d⟩
 ·by_cases hba : b = a
  ·subst hba
   rw [upd_same] at e
   obtain rfl:=Option.some.inj e
   exact ⟨hx,⟨o,ho⟩,fun h1 h2 ⟨o',vs',z,r⟩ k=>⟨o',vs',k _ z,r⟩⟩
  ·rw [upd_ne hba] at e
   exact (I.hok b u e).stay (fun c v _ q=>q) (fun c q=>by rw [upd_ne (tr c _ q)]; exact q) fun c xs q=>by rw [upd_ne (tr c _ q)]; exact q
end
end Xc
end
section
set_option linter.all false
set_option maxRecDepth 100000
set_option maxHeartbeats 2000000
namespace Xc
open PySem PySem.Spec PyProof.Rows L2
abbrev suite (X : Cx) (a : Addr) : Cx:={ X with A:=X.A.mark (some (.ref a)),calm:=false }
section
variable {X : Cx} {pins : List (Addr × Obj)} {σ : L2.St} {H : Hp} {s : Shared} {a : Addr}
theorem Ok_suite (ok : X.Ok) : (suite X a).Ok:=⟨ok.mod,ok.kind,ok.glob,ok.blt,ok.above,ok.inj,ok.has,ok.cab,fun z=>absurd (show false = true from z) Bool.false_ne_true,ok.frames,ok.stk,ok.exf,ok.bs,ok.bsz,ok.noex,ok.exfs,ok.funs,ok.frf⟩
theorem Inv_suite (I : Inv X pins σ H s) : Inv (suite X a) pins σ H s:=⟨Ok_suite I.ok,I.os,I.bare,I.base,I.loc,I.cell,I.free,I.freeC,I.pin,I.hok,I.len⟩
theorem Inv_unsuite (ok : X.Ok) (I : Inv (suite X a) pins σ H s) : Inv X pins σ H s:=⟨ok,I.os,I.bare,I.base,I.loc,I.cell,I.free,I.freeC,I.pin,I.hok,I.len⟩
end
section
variable {P : Program} {w : World} {K : PySem.W.Frag} {mg : Str→Option Value} {base : Heap} {N : List Str} {qual : Str} {scope : Scope} {f : Addr} {cd : Value} {A : Around} {outer : List Env} {s : Shared} {H : Hp} {E : XK}
theorem ObjOk_there {P : Program} {w : World} {H : Hp} {h : Heap} {a : Addr} {o : HO} (x : ObjOk P w H h a o) : ∃ ob,h.get? a = some ob:=by
 cases o with
 | lst xs=>obtain ⟨_,_,_,_,e⟩:=x; exact ⟨_,e⟩
 | tup xs=>obtain ⟨_,_,_,ob,e,_⟩:=x; exact ⟨_,e⟩
 | dK kvs=>obtain ⟨_,_,_,_,o,_,_,e,_⟩:=x; exact ⟨_,e⟩
 | dT kvs=>obtain ⟨_,_,_,_,o,_,_,e,_⟩:=x; exact ⟨_,e⟩
 | set S n=>obtain ⟨o,_,_,_,e,_⟩:=x; exact ⟨_,e⟩
 | ins C dx fs=>obtain ⟨_,_,_,e,_⟩:=x; exact ⟨_,e⟩
 | own y=>exact x
 | xd fs=>obtain ⟨_,⟨_,_,_,e,_⟩,_⟩:=x; exact ⟨_,e⟩
 | rng lo hi=>obtain ⟨_,_,_,e⟩:=x; exact ⟨_,e⟩
 | frz ob u=>obtain ⟨e,_⟩:=x; exact ⟨_,e⟩
 | tbl ps=>exact ⟨_,(show h.get? a = some _ from x)⟩
 | met f y=>exact ⟨_,(show h.get? a = some _ from x)⟩
 | ext φ=>obtain ⟨_,e,_⟩:=x; exact e
structure Flown0 (P : Program) (w : World) (outer : List Env) (H : Hp) (s : Shared) (E : XK) (a : Addr) (s' : Shared) (B : Heap) (C dx : Addr) (H' : Hp) : Prop where
 os : s'.os = s.os
 bare : AllBare s'.gens
 fr : s'.heap.FunFrames B outer
 dict : ∃ o,s'.heap.get? a = some o∧o.dict = some dx
 keep : ∀ b o,s.heap.get? b = some o→H b = none→b ∉ frs outer→B.get? b = some o
 un : Un (frs outer) [] H H' s.heap s'.heap
 hok : HOk P w H' B
 wish : E (.ref C) (some dx) H'
theorem landed {σ : L2.St} {H1 : Hp} {s1 s' : Shared} {E' : XK} {a C dx : Addr} {B : Heap} {H' : Hp} {h : Heap} {tk : Nat} (I : Inv (cxOf (CXX P w) P w K mg base N qual scope f cd A outer s H E) [] σ H1 s1)
  (F : Flown0 P w (cxOf (CXX P w) P w K mg base N qual scope f cd A outer s H E).stack H1 s1 E' a s' B C dx H') (st : B.StaysIn h) (up : s'.heap.UpToSlots h) (dk : DK s'.heap h)
  (hc : (cxOf (CXX P w) P w K mg base N qual scope f cd A outer s H E).env.cells = []) :
  Inv (cxOf (CXX P w) P w K mg base N qual scope f cd A outer s H E) [] (List.replicate N.length none) H' { s' with heap:=h,toks:=tk }:=by
 have noE : ∀ b : Addr,b ∉ (cxOf (CXX P w) P w K mg base N qual scope f cd A outer s H E).ex:=fun b z=>absurd (show b ∈ ([] : List Addr) from z) (by simp)
 have inS : ∀ b,b ∈ frs outer→b ∈ frs (cxOf (CXX P w) P w K mg base N qual scope f cd A outer s H E).stack:=fun b hb=>by
  show b ∈ List.filterMap _ (_::outer)
  rw [List.filterMap_cons]
  exact List.mem_cons_of_mem _ hb
 have keep : ∀ b o,s.heap.get? b = some o→H b = none→b ∉ frs outer→B.get? b = some o:=fun b o q n hb=>by
  refine F.keep b o (I.base.keep b o q n hb (noE b)) (I.base.free b o q n (noE b)) fun z=>?_
  rcases List.mem_cons.mp (I.stkSub b z) with e1 | e1
  ·have l1:=Heap.lt_size q
   have l2 : s.heap.objs.size≤b:=by rw [e1]; exact I.ok.above
   exact absurd (Nat.lt_of_lt_of_le l1 l2) (Nat.lt_irrefl _)
  ·exact hb e1
 have frame : ∀ b o,s1.heap.get? b = some o→H1 b = none→b ∈ frs (cxOf (CXX P w) P w K mg base N qual scope f cd A outer s H E).stack→∃ sl,h.get? b = some { o with slots:=sl }:=fun b o q n hb=>by
  obtain ⟨sl2,e2⟩:=F.un.slot b o q n hb (by simp)
  obtain ⟨_,o3,e3,d3⟩:=F.fr.mem hb
  rw [e2] at e3
  obtain rfl:=Option.some.inj e3
  obtain ⟨sl4,e4⟩:=up b _ e2 d3
  exact ⟨sl4,e4⟩
 have inL : (cxOf (CXX P w) P w K mg base N qual scope f cd A outer s H E).env.locals ∈ frs (cxOf (CXX P w) P w K mg base N qual scope f cd A outer s H E).stack:=by
  show _ ∈ List.filterMap _ (_::outer)
  rw [List.filterMap_cons]
  exact List.mem_cons_self
 obtain ⟨m,hn,_⟩:=I.loc
 obtain ⟨oL,es,ep,hL,dL,rL⟩:=hn
 obtain ⟨slL,eL⟩:=frame _ oL hL I.free inL
 refine ⟨I.ok,F.os.trans I.os,F.bare,⟨fun b ob q n hb _=>st b ob (keep b ob q n hb),fun b ob q n hb _=>?_,fun b ob q n _=>?_,fun b ob q _=>?_,fun b xs q=>F.un.tups b xs (I.base.tups b xs q),fun b ob u q=>F.un.frzs b ob u (I.base.frzs b ob u q),fun b ps q=>?_⟩,
  ⟨m,⟨_,es,ep,eL,dL,rL⟩,fun i x v e1 e2 e3=>(replicate_none e2).elim⟩,fun x c e=>?_,F.un.free _ oL hL I.free (by simp),fun x c e=>?_,fun p hp=>absurd (show p ∈ ([] : List (Addr × Obj)) from hp) (by simp),F.hok.kept st,List.length_replicate⟩
 ·obtain ⟨sl,e1⟩:=I.base.slot b ob q n hb (noE b)
  obtain ⟨sl2,e2⟩:=frame b _ e1 (I.base.free b ob q n (noE b)) (inS b hb)
  exact ⟨sl2,e2⟩
 ·obtain ⟨o1,e1⟩:=I.base.there b ob q (noE b)
  exact F.un.free b o1 e1 (I.base.free b ob q n (noE b)) (by simp)
 ·obtain ⟨o1,e1⟩:=I.base.there b ob q (noE b)
  obtain ⟨o2,e2⟩:=F.un.there b o1 e1 (by simp)
  obtain ⟨o3,e3,_⟩:=dk b o2 e2
  exact ⟨o3,e3⟩
 ·obtain ⟨m1,e1⟩:=I.base.tbls b ps q
  obtain ⟨m2,e2⟩:=F.un.tbls b _ e1
  exact ⟨m1++m2,by rw [e2,Array.append_assoc]⟩
 ·rw [hc] at e; cases e
 ·rw [hc] at e; cases e
def CatchE (K : PySem.W.Frag) (R : Addr) (Q : VK) : XK:=fun cl d H'=>∃ C dx fs num,cl = .ref C∧d = some dx∧PySem.W.subIn K (.ref C) (.ref R) = some true∧GetX K C∧PySem.W.findIn K (.ref C) "number" = some none ∧
 H' dx = some (.xd fs)∧fs.lookup ("number" : Str) = some (.int num)∧∀ p,H' p = none→∀ a,p ≠ a→Q (.ref p) (upd (upd H' a (.ext (heldX C dx a))) p (.lst [.int num]))
variable {R : Addr} {x n : Str} {np p1 p2 p3 p4 hpos : Pos}
theorem handled_held {σ : L2.St} {H1 : Hp} {s1 s' : Shared} {a C dx : Addr} {B h2 : Heap} {a0 : Value} {H' : Hp} {D : Ends} {i : Nat} (I : Inv (cxOf (CXX P w) P w K mg base N qual scope f cd A outer s H E) [] σ H1 s1) (cc : CatchC K R) (hm : mg x = some (.ref R))
  (F : Flown0 P w (cxOf (CXX P w) P w K mg base N qual scope f cd A outer s H E).stack H1 s1 (CatchE K R D.rt) a s' B C dx H') (held : Heap.HeldW B (cxOf (CXX P w) P w K mg base N qual scope f cd A outer s H E).stack a (.ref C) a0 (cxOf (CXX P w) P w K mg base N qual scope f cd A outer s H E).env.locals h2)
  (up2 : s'.heap.UpToSlots h2) (dk2 : DK s'.heap h2) (hc : (cxOf (CXX P w) P w K mg base N qual scope f cd A outer s H E).env.cells = [])
  (hg : Gl (cxOf (CXX P w) P w K mg base N qual scope f cd A outer s H E) x) (hN : N.Nodup) (hi : N[i]? = some n) (hl : scope.names.lookup n = some .local)
  (hdb : (x == ("__debug__" : Str)) = false) (hdb2 : (n == ("__debug__" : Str)) = false) (hcd2 : (n == ("__classdict__" : Str)) = false) :
  wpAny (model P w) (cxOf (CXX P w) P w K mg base N qual scope f cd A outer s H E).A (setFlight (.ref a) none)
   (fun _ s3=>wpAny (model P w) (cxOf (CXX P w) P w K mg base N qual scope f cd A outer s H E).A
    (handleBy (.ref a) (cxOf (CXX P w) P w K mg base N qual scope f cd A outer s H E).env [.ExceptHandler (some (.Name x np)) (some n) [.Return (some (.List [.Attribute (.Name n p1) "number" p2] p3)) p4] hpos])
    (SP (cxOf (CXX P w) P w K mg base N qual scope f cd A outer s H E) [] D) (cxOf (CXX P w) P w K mg base N qual scope f cd A outer s H E).xe s3) (cxOf (CXX P w) P w K mg base N qual scope f cd A outer s H E).xe { s' with heap:=h2 }:=by
 obtain ⟨C',dx',fs,num,e2,e3,hsub,gx,nn,hxd,hnum,hQ⟩:=F.wish
 obtain rfl : C = C':=by injection e2
 obtain rfl : dx = dx':=by injection e3
 refine wpAny_mono (Kd.any (kd_flight _ _) (wpAny_landsW (s:={ s' with heap:=h2 }) (Q:=fun _ s''=>∃ h,s'' = { s' with heap:=h }∧Heap.FlyingW B (cxOf (CXX P w) P w K mg base N qual scope f cd A outer s H E).stack a (.ref C) a0 h∧h2.UpToSlots h) held fun h f1 f2=>⟨h,rfl,f1,f2⟩)) ?_ fun e' s'' z=>z
 rintro _ s3 ⟨⟨h3,rfl,fly3,up3⟩,dk3⟩
 have I3 : Inv _ [] _ H' { s' with heap:=h3,toks:=s'.toks }:=landed I F fly3.1 (up2.trans up3) (dk2.trans dk3) hc
 obtain ⟨o,ho,hd⟩:=F.dict
 obtain ⟨o3,ho3,hd3,_⟩:=(dk2.trans dk3) a o ho
 obtain ⟨oc3,hoc3,hcls3⟩:=fly3.there
 obtain rfl : o3 = oc3:=Option.some.inj (ho3.symm.trans hoc3)
 refine wpAny_handleBy_cons (codeAny_handlers_test ?_) (by intro q; cases q)
 refine ld_glob (X:=suite (cxOf (CXX P w) P w K mg base N qual scope f cd A outer s H E) a) (Inv_suite I3) hg hm ?_ hdb
 refine matches_own I3.kIn cc ho3 hcls3 hsub ?_
 refine codeAny_handlers_suite_as ?_
 refine wpAny_mono (Kd.any (kd_flight _ _) (lands_againW (s:={ s' with heap:=h3 }) (Q:=fun _ s''=>∃ h,s'' = { s' with heap:=h }∧Heap.FlyingW B (cxOf (CXX P w) P w K mg base N qual scope f cd A outer s H E).stack a (.ref C) a0 h∧h3.UpToSlots h) fly3 fun h f1 f2=>⟨h,rfl,f1,f2⟩)) ?_ fun e' s'' z=>z
 rintro _ s4 ⟨⟨h4,rfl,fly4,up4⟩,dk4⟩
 have I4 : Inv _ [] _ H' { s' with heap:=h4,toks:=s'.toks }:=landed I F fly4.1 (up2.trans (up3.trans up4)) (dk2.trans (dk3.trans dk4)) hc
 obtain ⟨o4,ho4,hd4,_⟩:=(dk2.trans (dk3.trans dk4)) a o ho
 obtain ⟨oe,vs,T,oT,ts,he,⟨hcl,_⟩,hdat,_⟩:=fly4.2.2.2
 obtain rfl : o4 = oe:=Option.some.inj (ho4.symm.trans he)
 have nofr : a ∉ frs (cxOf (CXX P w) P w K mg base N qual scope f cd A outer s H E).stack:=fun hb=>by
  obtain ⟨_,o5,e5,d5⟩:=fly4.2.2.1.mem hb
  rw [ho4] at e5
  obtain rfl:=Option.some.inj e5
  exact d5 vs hdat
 have hna : H' a = none:=by
  cases q : H' a with
  | none=>rfl
  | some u =>
   obtain ⟨ob,e5⟩:=ObjOk_there (F.hok a u q)
   rw [fly4.2.1] at e5; cases e5
 have inL : (cxOf (CXX P w) P w K mg base N qual scope f cd A outer s H E).env.locals ∈ frs (cxOf (CXX P w) P w K mg base N qual scope f cd A outer s H E).stack:=by
  show _ ∈ List.filterMap _ (_::outer)
  rw [List.filterMap_cons]
  exact List.mem_cons_self
 have hal : a ≠ (cxOf (CXX P w) P w K mg base N qual scope f cd A outer s H E).env.locals:=fun z=>nofr (z ▸ inL)
 have I5:=trackX (X:=suite (cxOf (CXX P w) P w K mg base N qual scope f cd A outer s H E) a) (C:=C) (dx:=dx) (Inv_suite I4) ⟨o4,vs,ho4,hcl,hd4.trans hd,hdat⟩ hna hal (fun y c e=>by rw [hc] at e; cases e) (fun p hp=>absurd (show p ∈ ([] : List (Addr × Obj)) from hp) (by simp)) (fun ob q n0 _=>by
  have hb : a ∉ frs outer:=fun hb=>nofr (by
   show _ ∈ List.filterMap _ (_::outer)
   rw [List.filterMap_cons]
   exact List.mem_cons_of_mem _ hb)
  have noE : a ∉ (cxOf (CXX P w) P w K mg base N qual scope f cd A outer s H E).ex:=fun z=>absurd (show a ∈ ([] : List Addr) from z) (by simp)
  have k1:=I.base.keep a ob q n0 hb noE
  have k2:=F.keep a ob k1 (I.base.free a ob q n0 noE) nofr
  rw [fly4.2.1] at k2; cases k2)
 have hxa : dx ≠ a:=fun z=>by rw [z,hna] at hxd; cases hxd
 refine store_ok (X:=suite (cxOf (CXX P w) P w K mg base N qual scope f cd A outer s H E) a) (v:=V.ref a) I5 hN hi (.inl hl) rfl (fun s5 I6=>?_) (.inl rfl)
 have hiN : i < N.length:=(List.getElem?_eq_some_iff.mp hi).1
 have run : PSs (suite (cxOf (CXX P w) P w K mg base N qual scope f cd A outer s H E) a).nox [.Return (some (.List [.Attribute (.Name n p1) "number" p2] p3)) p4] _ :=
  pss_one (ps_ret (pe_lst (pa_cons (pe_fldX (pe_var hi (.inl hl) hdb2 hcd2) rfl) pa_nil)))
 refine wpAny_mono (run [] s5 _ _ { nx:=fun _ _=>False,rt:=D.rt } (I6.wish _) ?_) ?_ fun e' s'' z=>False.elim z
 ·refine ⟨V.ref a,?_,a,C,dx,fs,.int num,rfl,upd_same,by rw [upd_ne hxa]; exact hxd,gx,nn,hnum,(by show 1≤sizeLine; decide),fun p hp=>?_⟩
  ·rw [List.getElem?_set_self (by rw [List.length_replicate]; exact hiN)]
  ·have hpa : p ≠ a:=fun z=>by rw [z,upd_same] at hp; cases hp
   exact hQ p (by rw [upd_ne hpa] at hp; exact hp) a hpa
 ·intro fl s6 h6
  replace h6:=h6.unwish
  cases fl with
  | next=>obtain ⟨_,_,_,z⟩:=h6; exact z.elim
  | brk=>obtain ⟨_,_,_,z⟩:=h6; exact z.elim
  | cont=>obtain ⟨_,_,_,z⟩:=h6; exact z.elim
  | ret u =>
   obtain ⟨v,σ6,H6,I6',rv,q6⟩:=h6
   obtain ⟨m6,n6,_⟩:=I6'.loc
   refine wpAny_nameGoes (m:=m6) hl n6 (by rw [I.ok.kind]; rfl) fun h7 m7 n7 sb7=>?_
   exact ⟨v,_,H6,frameTurned (Inv_unsuite I.ok I6') sb7 n7,rv,q6⟩
theorem handled_as {σ : L2.St} {H1 : Hp} {s1 s' : Shared} {a : Addr} {Q : VK} {D : Ends} {i : Nat} (I : Inv (cxOf (CXX P w) P w K mg base N qual scope f cd A outer s H E) [] σ H1 s1) (cc : CatchC K R) (hm : mg x = some (.ref R))
  (hF : CXX P w (cxOf (CXX P w) P w K mg base N qual scope f cd A outer s H E).stack H1 s1 (CatchE K R D.rt) (.ref a) s') (hc : (cxOf (CXX P w) P w K mg base N qual scope f cd A outer s H E).env.cells = [])
  (hg : Gl (cxOf (CXX P w) P w K mg base N qual scope f cd A outer s H E) x) (hN : N.Nodup) (hi : N[i]? = some n) (hl : scope.names.lookup n = some .local)
  (hdb : (x == ("__debug__" : Str)) = false:=by decide) (hdb2 : (n == ("__debug__" : Str)) = false:=by decide) (hcd2 : (n == ("__classdict__" : Str)) = false:=by decide) :
  wpAny (model P w) (cxOf (CXX P w) P w K mg base N qual scope f cd A outer s H E).A (noteFrame (.ref a) (cxOf (CXX P w) P w K mg base N qual scope f cd A outer s H E).env)
   (fun _ s2=>wpAny (model P w) (cxOf (CXX P w) P w K mg base N qual scope f cd A outer s H E).A (setFlight (.ref a) none)
    (fun _ s3=>wpAny (model P w) (cxOf (CXX P w) P w K mg base N qual scope f cd A outer s H E).A
     (handleBy (.ref a) (cxOf (CXX P w) P w K mg base N qual scope f cd A outer s H E).env [.ExceptHandler (some (.Name x np)) (some n) [.Return (some (.List [.Attribute (.Name n p1) "number" p2] p3)) p4] hpos])
     (SP (cxOf (CXX P w) P w K mg base N qual scope f cd A outer s H E) [] D) (cxOf (CXX P w) P w K mg base N qual scope f cd A outer s H E).xe s3) (cxOf (CXX P w) P w K mg base N qual scope f cd A outer s H E).xe s2)
   (cxOf (CXX P w) P w K mg base N qual scope f cd A outer s H E).xe s':=by
 obtain ⟨a',B,C,dx,a0,H',e1,F⟩:=hF
 obtain rfl : a = a':=by injection e1
 refine wpAny_mono (Kd.any (kd_note _ _) (wpAny_looks_onW (Q:=fun _ s''=>∃ h,s'' = { s' with heap:=h }∧Heap.HeldW B (cxOf (CXX P w) P w K mg base N qual scope f cd A outer s H E).stack a (.ref C) a0 (cxOf (CXX P w) P w K mg base N qual scope f cd A outer s H E).env.locals h∧s'.heap.UpToSlots h) I.ok.frames rfl F.fly fun h f1 f2=>⟨h,rfl,f1,f2⟩)) ?_ fun e' s'' z=>z
 rintro _ s2 ⟨⟨h2,rfl,held,up2⟩,dk2⟩
 exact handled_held I cc hm ⟨F.os,F.bare,F.fly.2.2.1,F.dict,F.keep,F.un,F.hok,F.wish⟩ held up2 dk2 hc hg hN hi hl hdb hdb2 hcd2
theorem note_first {M : Model} {A : Around} {E : Value→Shared→Prop} {s : Shared} {base : Heap} {env : Env} {outer : List Env} {L e : Addr} {oe : Obj} {vs : Array Value} {a0 : Value} {Q : Unit→Shared→Prop} (hfr : A.frames = some (env::outer)) (hl : s.heap.FunFrames base (env::outer)) (hf : env.frame = some L)
  (he : s.heap.get? e = some oe) (hkb : base.StaysIn s.heap) (hen : base.get? e = none) (hd : oe.data = .fields vs) (h1 : vs[1]? = some .none) (h0 : vs[0]? = some a0) (h : ∀ h',Heap.HeldW base (env::outer) e oe.cls a0 L h'→s.heap.UpToSlots h'→Q () { s with heap:=h' }) : wpAny M A (noteFrame (.ref e) env) Q E s:=by
 unfold noteFrame
 simp only [hf]
 refine wpAny_bind (wpAny_field he hd h1 ?_)
 rw [if_neg (by decide)]
 exact wpAny_entryW hfr hl hf he hkb hen hd (Array.getElem?_eq_some_iff.mp h1).1 h0 fun h' ⟨k1,k2,k3,k4⟩=>h h' ⟨k1,hen,k2,k3⟩ k4
theorem handled_own {pins : List (Addr × Obj)} {σ : L2.St} {H2 : Hp} {s2 : Shared} {a C dx : Addr} {D : Ends} {i : Nat} (I' : Inv (cxOf (CXX P w) P w K mg base N qual scope f cd A outer s H E) pins σ H2 s2) (cc : CatchC K R) (hm : mg x = some (.ref R)) (ha : H2 a = some (.ext (fullX C dx a))) (hE : CatchE K R D.rt (.ref C) (some dx) (del H2 a))
  (hc : (cxOf (CXX P w) P w K mg base N qual scope f cd A outer s H E).env.cells = []) (hg : Gl (cxOf (CXX P w) P w K mg base N qual scope f cd A outer s H E) x) (hN : N.Nodup) (hi : N[i]? = some n) (hl : scope.names.lookup n = some .local)
  (hdb : (x == ("__debug__" : Str)) = false:=by decide) (hdb2 : (n == ("__debug__" : Str)) = false:=by decide) (hcd2 : (n == ("__classdict__" : Str)) = false:=by decide) :
  wpAny (model P w) (cxOf (CXX P w) P w K mg base N qual scope f cd A outer s H E).A (noteFrame (.ref a) (cxOf (CXX P w) P w K mg base N qual scope f cd A outer s H E).env)
   (fun _ s2=>wpAny (model P w) (cxOf (CXX P w) P w K mg base N qual scope f cd A outer s H E).A (setFlight (.ref a) none)
    (fun _ s3=>wpAny (model P w) (cxOf (CXX P w) P w K mg base N qual scope f cd A outer s H E).A
     (handleBy (.ref a) (cxOf (CXX P w) P w K mg base N qual scope f cd A outer s H E).env [.ExceptHandler (some (.Name x np)) (some n) [.Return (some (.List [.Attribute (.Name n p1) "number" p2] p3)) p4] hpos])
     (SP (cxOf (CXX P w) P w K mg base N qual scope f cd A outer s H E) [] D) (cxOf (CXX P w) P w K mg base N qual scope f cd A outer s H E).xe s3) (cxOf (CXX P w) P w K mg base N qual scope f cd A outer s H E).xe s2)
   (cxOf (CXX P w) P w K mg base N qual scope f cd A outer s H E).xe s2:=by
 have I:=I'.pins_of (pins':=[]) (fun p hp=>by simp at hp)
 obtain ⟨⟨T,hx⟩,_,_⟩:=I.hok a _ ha
 have hin : ∀ env ∈ (cxOf (CXX P w) P w K mg base N qual scope f cd A outer s H E).stack,∀ b,env.frame = some b→b ∈ a::frs (cxOf (CXX P w) P w K mg base N qual scope f cd A outer s H E).stack:=fun env he b hb =>
  List.mem_cons_of_mem _ (List.mem_filterMap.mpr ⟨env,he,hb⟩)
 have hfr:=PySem.W.funFrames_hide I.stack hin
 have hst : (PySem.W.hideAll s2.heap (a::frs (cxOf (CXX P w) P w K mg base N qual scope f cd A outer s H E).stack)).StaysIn s2.heap:=fun b o q=>PySem.W.of_hideAll _ q
 have hno : (PySem.W.hideAll s2.heap (a::frs (cxOf (CXX P w) P w K mg base N qual scope f cd A outer s H E).stack)).get? a = none:=PySem.W.hideAll_none _ List.mem_cons_self
 have toB : ∀ b o,s2.heap.get? b = some o→b ≠ a→b ∉ frs (cxOf (CXX P w) P w K mg base N qual scope f cd A outer s H E).stack→(PySem.W.hideAll s2.heap (a::frs (cxOf (CXX P w) P w K mg base N qual scope f cd A outer s H E).stack)).get? b = some o :=
  fun b o q h1 h2=>PySem.W.hideAll_get _ q fun z=>(List.mem_cons.mp z).elim h1 h2
 have tr : ∀ b o,H2 b = some o→(∀ φ,o ≠ .ext φ)→b ≠ a:=fun b o e ne z=>by rw [z,ha] at e; exact ne _ (Option.some.inj e).symm
 have nt : ∀ b,H2 b = none→b ≠ a:=fun b n z=>by rw [z,ha] at n; cases n
 have F0 : Flown0 P w (cxOf (CXX P w) P w K mg base N qual scope f cd A outer s H E).stack H2 s2 (CatchE K R D.rt) a s2 (PySem.W.hideAll s2.heap (a::frs (cxOf (CXX P w) P w K mg base N qual scope f cd A outer s H E).stack)) C dx (del H2 a):=by
  refine ⟨rfl,I.bare,hfr,⟨_,hx,rfl⟩,fun b o q n hb=>toB b o q (nt b n) hb,⟨fun b o q n _ _=>q,fun b o q n _ _=>⟨o.slots,q⟩,fun b o q n _=>by rw [del_ne (nt b n)]; exact n,fun b o q _=>⟨o,q⟩,fun b xs q=>?_,fun b ob u q=>?_,fun b ps q=>⟨#[],?_⟩⟩,fun b o e=>?_,hE⟩
  ·rw [del_ne (tr b _ q fun φ z=>by cases z)]; exact q
  ·rw [del_ne (tr b _ q fun φ z=>by cases z)]; exact q
  ·rw [del_ne (tr b _ q fun φ z=>by cases z),q]; simp
  ·have hb : b ≠ a:=fun z=>by rw [z,del_same] at e; cases e
   rw [del_ne hb] at e
   refine (I.hok b o e).stay (fun c u hc q=>toB c u q ?_ fun z=>?_) (fun c q=>?_) fun c xs q=>?_
   ·rcases hc with rfl | hc
    ·exact hb
    ·exact tr c _ hc fun φ z=>by cases z
   ·have nf:=I.stkFree c z
    rcases hc with rfl | hc
    ·rw [e] at nf; cases nf
    ·rw [hc] at nf; cases nf
   ·rw [del_ne (tr c _ q fun φ z=>by cases z)]; exact q
   ·rw [del_ne (tr c _ q fun φ z=>by cases z)]; exact q
 refine wpAny_mono (Kd.any (kd_note _ _) (?_ : wpAny (model P w) (cxOf (CXX P w) P w K mg base N qual scope f cd A outer s H E).A (noteFrame (.ref a) (cxOf (CXX P w) P w K mg base N qual scope f cd A outer s H E).env) (fun _ s''=>∃ h,s'' = { s2 with heap:=h }∧Heap.HeldW (PySem.W.hideAll s2.heap (a::frs (cxOf (CXX P w) P w K mg base N qual scope f cd A outer s H E).stack)) (cxOf (CXX P w) P w K mg base N qual scope f cd A outer s H E).stack a (.ref C) (.ref T) (cxOf (CXX P w) P w K mg base N qual scope f cd A outer s H E).env.locals h∧s2.heap.UpToSlots h) _ s2)) ?_ fun e' s'' z=>z
 ·exact note_first I.ok.frames hfr rfl hx hst hno rfl rfl rfl fun h' k1 k2=>⟨h',rfl,k1,k2⟩
 ·rintro _ s3 ⟨⟨h2,rfl,held,up2⟩,dk2⟩
  exact handled_held I cc hm F0 held up2 dk2 hc hg hN hi hl hdb hdb2 hcd2
end
end Xc
end
section
set_option linter.all false
set_option maxRecDepth 100000
set_option maxHeartbeats 4000000
namespace Xc
open PySem PySem.Spec PyProof.Rows L2
def BMain (mg : Str→Option Value) (base : Heap) : Prop:=∃ bm ob,mg "__builtins__" = some (.ref bm)∧bm ≠ builtinsNs∧base.get? bm = some ob∧ob.cls = .type "module"∧ob.dict = some builtinsNs∧ob.data = .plain
def LamAt (h : Heap) (f : Addr) (qual : Str) (params : Arguments) (body : Expr) (scope : Scope) (cl : List (Str × Addr)) : Prop :=
 ∃ pm c' ctv,h.get? f = some (PySem.W.kla_obj "<lambda>" qual params body scope cl pm c' ctv)∧h.CodeRec (.ref c') qual
def hidF (h : Heap) (H : Hp) (fs : List Addr) : Heap:=PySem.W.hideAll h (trk h H++fs)
section
variable {h : Heap} {H : Hp} {fs : List Addr} {b : Addr} {o : Obj}
theorem hidF_size : (hidF h H fs).objs.size = h.objs.size:=PySem.W.hideAll_size _ _
theorem hidF_get (e : h.get? b = some o) (n : H b = none) (nf : b ∉ fs) : (hidF h H fs).get? b = some o :=
 PySem.W.hideAll_get _ e fun hm=>by
  rcases List.mem_append.mp hm with hm | hm
  ·have q : (H b).isSome = true:=(List.mem_filter.mp hm).2
   rw [n] at q; simp at q
  ·exact nf hm
theorem of_hidF (e : (hidF h H fs).get? b = some o) : h.get? b = some o∧H b = none:=by
 have e' : h.get? b = some o:=PySem.W.of_hideAll _ e
 refine ⟨e',?_⟩
 cases q : H b with
 | none=>rfl
 | some x =>
  have hm : b ∈ trk h H++fs:=List.mem_append_left _ (List.mem_filter.mpr ⟨List.mem_range.mpr (Heap.lt_size e'),by simp [q]⟩)
  have z : (hidF h H fs).get? b = none:=PySem.W.hideAll_none _ hm
  rw [z] at e; cases e
theorem hidF_frame (hb : b ∈ fs) : (hidF h H fs).get? b = none:=PySem.W.hideAll_none _ (List.mem_append_right _ hb)
end
section
variable {X : Cx} {pins : List (Addr × Obj)} {σ : L2.St} {H : Hp} {s : Shared}
theorem base_hidF (I : Inv X pins σ H s) : ∀ b o,X.base.get? b = some o→(hidF s.heap H (frs X.stack)).get? b = some o:=fun b o e=>by
 obtain ⟨e1,n1⟩:=I.bs b o e
 refine hidF_get e1 n1 fun z=>?_
 rcases List.mem_cons.mp (I.stkSub b z) with q | q
 ·have l1:=Heap.lt_size e
  have l2 : X.base.objs.size≤b:=by rw [q]; exact Nat.le_trans I.ok.bsz I.ok.above
  exact absurd (Nat.lt_of_lt_of_le l1 l2) (Nat.lt_irrefl _)
 ·exact I.ok.nofr e q
theorem Mod.keeps {K : PySem.W.Frag} {mg : Str→Option Value} {base base' : Heap} (M : Mod K mg base) (k : ∀ b o,base.get? b = some o→base'.get? b = some o) : Mod K mg base' :=
 ⟨M.kin.keeps k,M.glob.keeps k,let ⟨mb,h1,h2⟩:=M.blt; ⟨mb,h1.keeps k,h2⟩,M.nolimit.keeps k⟩
theorem frames_base {h base base' : Heap} : ∀ {l : List Env},h.FunFrames base l→(∀ b ∈ frs l,base'.get? b = none)→h.FunFrames base' l
 | [],_,_=>trivial
 | env::r,hl,hn=>by
  obtain ⟨hk,⟨L,o,hf,_,ho,hd⟩,hr⟩:=hl
  refine ⟨hk,⟨L,o,hf,hn L (by unfold frs; rw [List.filterMap_cons,hf]; exact List.mem_cons_self),ho,hd⟩,frames_base hr fun b hb=>hn b ?_⟩
  unfold frs
  rw [List.filterMap_cons,hf]
  exact List.mem_cons_of_mem _ hb
theorem env0F (I : Inv X pins σ H s) : Env0 X.prog X.w X.K X.mg (hidF s.heap H (frs X.stack)) X.A X.stack s H :=
 ⟨I.ok.frames,Mod.keeps I.ok.mod (base_hidF I),fun b o e=>of_hidF e,Nat.le_of_eq hidF_size,frames_base I.stack fun b hb=>hidF_frame hb,I.stkFree,I.hok,I.bare⟩
structure CellsIn (env : Env) (N : List Str) (σ : L2.St) (base : Heap) : Prop where
 cell : ∀ x c,env.cells.lookup x = some c→∃ v,base.IsCell c v
 val : ∀ (i : Nat) (x : Str) (v : V),N[i]? = some x→σ[i]? = some (some v)→env.scope.names.lookup x = some .cell→∃ c u,env.cells.lookup x = some c∧base.IsCell c (some u)∧RelV v u
theorem cells_in (I : Inv X pins σ H s) (hfn : ∀ x,X.fn x = true) : CellsIn X.env X.N σ (hidF s.heap H (frs X.stack)):=by
 have up : ∀ x c v,X.env.cells.lookup x = some c→s.heap.IsCell c v→(hidF s.heap H (frs X.stack)).IsCell c v:=fun x c v e ⟨o,ho,hd⟩=>by
  refine ⟨o,hidF_get ho (I.freeC x c e) fun z=>?_,hd⟩
  rcases List.mem_cons.mp (I.stkSub c z) with q | q
  ·exact I.cne x c e q
  ·obtain ⟨_,ob,hb,_⟩:=I.ok.funs.mem q
   exact absurd (Nat.lt_of_lt_of_le (Heap.lt_size hb) (I.ok.cab x c (hfn x) e)) (Nat.lt_irrefl _)
 refine ⟨fun x c e=>?_,fun i x v h1 h2 h3=>?_⟩
 ·obtain ⟨v,z⟩:=I.cell x c e
  exact ⟨v,up x c v e z⟩
 ·obtain ⟨m,_,hl⟩:=I.loc
  obtain ⟨u,r,l⟩:=hl i x v h1 h2 (.inr (.inl h3))
  rcases l with ⟨k,_⟩ | ⟨_,c,hc,z⟩
  ·have k' : X.env.scope.names.lookup x = some .local:=k
   rw [h3] at k'; cases k'
  ·exact ⟨c,u,hc,up x c _ hc z,r⟩
theorem lam_make {params : Arguments} {body : Expr} {scope : Scope} {pos : Pos} {ps : Array Value} {clos : List (Str × Addr)} {c P : Addr} {Q : Value→Shared→Prop} {E : Value→Shared→Prop} (I : Inv X pins σ H s) (hcode : X.env.code = .ref c) (C : PySem.W.CodeHd X.base c P) (hP : H P = some (.tbl ps))
  (ht : TriplesOk ps.toList) (hnf : codeAmong pos ps.toList = none) (hb : BMain X.mg X.base) (hcl : closureFor scope X.env = pure clos) (hdef : defaultsOf params X.env = ([],[]))
  (h : ∀ f s2 more,Inv X pins σ (upd H P (.tbl (ps++more))) s2→LamAt (hidF s2.heap (upd H P (.tbl (ps++more))) (frs X.stack)) f (X.env.qual++"<lambda>") params body scope clos→Q (.ref f) s2) :
  wpAny (model X.prog X.w) X.A (eval (.Lambda params body scope pos) X.env) Q E s:=by
 refine PySem.W.kla_eval hdef ?_
 have hPo : s.heap.get? P = some (PySem.W.tabObj ps):=I.hok P _ hP
 have hgs:=I.ok.mod.glob.keeps I.bk
 obtain ⟨bm,ob,b1,b2,b3,b4,b5,b6⟩:=hb
 have hgP : mainGlobals ≠ P:=fun q=>by
  obtain ⟨o,es,ep,e,hd,_⟩:=hgs
  rw [q,hPo] at e; cases e; cases hd
 have hbP : bm ≠ P:=fun q=>by
  have e:=I.bk _ _ b3
  rw [q,hPo] at e; cases e; cases b4
 have hbG : bm ≠ mainGlobals:=fun q=>by
  obtain ⟨o,es,ep,e,hd,_⟩:=I.ok.mod.glob
  rw [q,e] at b3; cases b3; rw [hd] at b6; cases b6
 refine PySem.W.kla_makeFunction (mg:=X.mg) hcl I.ok.glob hgs hcode (C.keeps I.bk) hPo ht hnf hgP ⟨bm,ob,b1,b2,hbG,hbP,I.bk _ _ b3,b4,b5,b6⟩ fun c' ctv h' tk hx hge hlt hrec htb=>?_
 have old : ∀ b o,b ≠ P→s.heap.get? b = some o→(h'.push (PySem.W.kla_obj "<lambda>" (X.env.qual++"<lambda>") params body scope clos ((X.mg "__name__").getD .none) c' ctv)).get? b = some o:=fun b o hb e=>Heap.get?_push_of_some _ (hx b o hb e)
 have newP : (h'.push (PySem.W.kla_obj "<lambda>" (X.env.qual++"<lambda>") params body scope clos ((X.mg "__name__").getD .none) c' ctv)).get? P = some (PySem.W.tabObj (ps++#[rawInt pos.line,rawInt pos.col,.ref c'])):=Heap.get?_push_of_some _ htb
 have trP : ∀ b u,H b = some u→(∀ qs,u ≠ .tbl qs)→b ≠ P:=fun b u e n z=>by rw [z,hP] at e; exact n ps (Option.some.inj e).symm
 have un : Un X.fs [] H (upd H P (.tbl (ps++#[rawInt pos.line,rawInt pos.col,.ref c']))) s.heap (h'.push (PySem.W.kla_obj "<lambda>" (X.env.qual++"<lambda>") params body scope clos ((X.mg "__name__").getD .none) c' ctv)):=by
  have nP : ∀ b,H b = none→b ≠ P:=fun b n z=>by rw [z,hP] at n; cases n
  refine ⟨fun b o e n _ _=>old b o (nP b n) e,fun b o e n _ _=>⟨o.slots,old b o (nP b n) e⟩,fun b o e n _=>by rw [upd_ne (nP b n)]; exact n,fun b o e _=>?_,fun b xs e=>?_,fun b o u e=>?_,fun b qs e=>?_⟩
  ·by_cases hb : b = P
   ·rw [hb]; exact ⟨_,newP⟩
   ·exact ⟨o,old b o hb e⟩
  ·rw [upd_ne (trP b _ e fun qs z=>by cases z)]; exact e
  ·rw [upd_ne (trP b _ e fun qs z=>by cases z)]; exact e
  ·by_cases hb : b = P
   ·rw [hb,hP] at e
    cases e
    exact ⟨_,by rw [hb]; exact upd_same⟩
   ·exact ⟨#[],by rw [upd_ne hb,e]; simp⟩
 have hok : HOk X.prog X.w (upd H P (.tbl (ps++#[rawInt pos.line,rawInt pos.col,.ref c']))) (h'.push (PySem.W.kla_obj "<lambda>" (X.env.qual++"<lambda>") params body scope clos ((X.mg "__name__").getD .none) c' ctv)):=fun b u e=>by
  by_cases hb : b = P
  ·subst hb
   rw [upd_same] at e
   cases e
   exact newP
  ·rw [upd_ne hb] at e
   refine (I.hok b u e).stay (fun d v hd q=>old d v ?_ q) (fun d q=>?_) fun d xs q=>?_
   ·rcases hd with rfl | hd
    ·exact hb
    ·exact trP d _ hd fun qs z=>by cases z
   ·rw [upd_ne (trP d _ q fun qs z=>by cases z)]; exact q
   ·rw [upd_ne (trP d _ q fun qs z=>by cases z)]; exact q
 have I2:=I.un (t':=tk) un hok
 have szle : s.heap.objs.size≤h'.objs.size:=Nat.le_trans hge (Nat.le_of_lt hlt)
 have fresh : ∀ b o,s.heap.objs.size≤b→(h'.push (PySem.W.kla_obj "<lambda>" (X.env.qual++"<lambda>") params body scope clos ((X.mg "__name__").getD .none) c' ctv)).get? b = some o→(hidF (h'.push (PySem.W.kla_obj "<lambda>" (X.env.qual++"<lambda>") params body scope clos ((X.mg "__name__").getD .none) c' ctv)) (upd H P (.tbl (ps++#[rawInt pos.line,rawInt pos.col,.ref c']))) (frs X.stack)).get? b = some o:=fun b o hb e=>by
  have bP : b ≠ P:=fun z=>absurd (Nat.lt_of_lt_of_le (Heap.lt_size hPo) (z ▸ hb)) (Nat.lt_irrefl _)
  refine hidF_get e (by rw [upd_ne bP]; exact I.hok.fresh hb) fun z=>?_
  rcases List.mem_cons.mp (I.stkSub b z) with q | q
  ·exact absurd (Nat.lt_of_lt_of_le I.lt (q ▸ hb)) (Nat.lt_irrefl _)
  ·exact I.nofs hb q
 refine h _ _ _ I2 ⟨_,c',ctv,fresh _ _ szle (Heap.get?_push_size _ rfl),?_⟩
 obtain ⟨c2,oc,vs,t,e2,hoc,hd,hv⟩:=hrec
 cases e2
 exact ⟨c',oc,vs,t,rfl,fresh _ _ hge (Heap.get?_push_of_some _ hoc),hd,hv⟩
end
def AskOk (P : Program) (w : World) (K : PySem.W.Frag) (mg : Str→Option Value) (base : Heap) (k : Nat) (f : Addr) (sp : Sp) : Prop :=
 (∃ oc od fd sl,base.get? f = some ⟨oc,od,.func fd,sl⟩)∧∀ (A : Around) (outer : List Env) (s : Shared) (H : Hp) (u : Value) (v : V) (Q : VK) (E : XK),Room k A→Env0 P w K mg base A outer s H→RelV v u→sp [v] H Q E →
  codeAny (model P w) A (.call (.ref f) ⟨[u],[]⟩) (CR (CXX P w) outer P w H s Q E) s
def lamCx (P : Program) (w : World) (K : PySem.W.Frag) (mg : Str→Option Value) (base : Heap) (N : List Str) (qual : Str) (scope : Scope) (f : Addr) (cd : Value) (cl : List (Str × Addr)) (A : Around) (outer : List Env) (s : Shared) (H : Hp) (E : XK) : Cx where
 prog:=P
 w:=w
 K:=K
 mg:=mg
 base:=base
 A:=A.deeper (PySem.W.envX qual scope s.heap.objs.size f cd cl)
 N:=N
 s_0:=s
 H_0:=H
 env:=PySem.W.envX qual scope s.heap.objs.size f cd cl
 outer:=outer
 stack:=PySem.W.envX qual scope s.heap.objs.size f cd cl::outer
 ex:=[]
 calm:=true
 fn:=fun _=>false
 pn:=[]
 xe:=fun e s'=>wpAny (model P w) (A.deeper (PySem.W.envX qual scope s.heap.objs.size f cd cl)) (leaving (PySem.W.envX qual scope s.heap.objs.size f cd cl) e) (fun _ s''=>CXX P w outer H s E e s'') (fun e' s''=>CXX P w outer H s E e' s'') s'
section
variable {P : Program} {w : World} {K : PySem.W.Frag} {mg : Str→Option Value} {base : Heap} {N : List Str} {qual : Str} {scope : Scope} {f : Addr} {cd : Value} {cl : List (Str × Addr)} {A : Around} {outer : List Env} {s : Shared} {H : Hp} {E : XK}
theorem pass_lam : Passes (CXX P w) (lamCx P w K mg base N qual scope f cd cl A outer s H E) E:=by
 intro pins σ H1 s1 e s' I h
 obtain ⟨a,B,C,dx,a0,H',rfl,F⟩:=h
 have fl:=F.fly
 refine wpAny_mono (Kd.any (kd_leaving _ _) (wpAny_leaves_onW (Q:=fun _ s''=>∃ h',s'' = { s' with heap:=h' }∧Heap.FlyingW B outer a (.ref C) a0 h'∧s'.heap.UpToSlots h') I.ok.frames rfl fl fun h' f1 f2=>⟨h',rfl,f1,f2⟩)) ?_ fun e' s'' z=>z
 rintro _ s'' ⟨⟨h',rfl,f1,f2⟩,dk⟩
 obtain ⟨o,ho,hd⟩:=F.dict
 obtain ⟨o',ho',hd',_⟩:=dk a o ho
 have noE : ∀ b : Addr,b ∉ (lamCx P w K mg base N qual scope f cd cl A outer s H E).ex:=fun b z=>absurd (show b ∈ ([] : List Addr) from z) (by simp)
 have keep : ∀ b o,s.heap.get? b = some o→H b = none→b ∉ frs outer→B.get? b = some o:=fun b o q n hb=>by
  refine F.keep b o (I.base.keep b o q n hb (noE b)) (I.base.free b o q n (noE b)) fun z=>?_
  rcases List.mem_cons.mp (I.stkSub b z) with e1 | e1
  ·have l1:=Heap.lt_size q
   have l2 : s.heap.objs.size≤b:=by rw [e1]; exact I.ok.above
   exact absurd (Nat.lt_of_lt_of_le l1 l2) (Nat.lt_irrefl _)
  ·exact hb e1
 refine ⟨a,B,C,dx,a0,H',rfl,F.os.trans I.os,F.bare,f1,⟨o',ho',hd'.trans hd⟩,keep,?_,F.hok,F.wish⟩
 refine ⟨fun b ob q n hb _=>f1.1 b ob (keep b ob q n hb),fun b ob q n hb _=>?_,fun b ob q n _=>?_,fun b ob q _=>?_,fun b xs q=>F.un.tups b xs (I.base.tups b xs q),fun b ob u q=>F.un.frzs b ob u (I.base.frzs b ob u q),fun b ps q=>?_⟩
 ·obtain ⟨sl,e1⟩:=I.base.slot b ob q n hb (noE b)
  have hb2 : b ∈ frs (lamCx P w K mg base N qual scope f cd cl A outer s H E).stack:=by
   show b ∈ List.filterMap _ (_::outer)
   rw [List.filterMap_cons]
   exact List.mem_cons_of_mem _ hb
  obtain ⟨sl2,e2⟩:=F.un.slot b _ e1 (I.base.free b ob q n (noE b)) hb2 (by simp)
  obtain ⟨_,o3,e3,d3⟩:=fl.2.2.1.mem hb2
  rw [e2] at e3
  obtain rfl:=Option.some.inj e3
  obtain ⟨sl4,e4⟩:=f2 b _ e2 d3
  exact ⟨sl4,e4⟩
 ·obtain ⟨o1,e1⟩:=I.base.there b ob q (noE b)
  exact F.un.free b o1 e1 (I.base.free b ob q n (noE b)) (by simp)
 ·obtain ⟨o1,e1⟩:=I.base.there b ob q (noE b)
  obtain ⟨o2,e2⟩:=F.un.there b o1 e1 (by simp)
  obtain ⟨o3,e3,_⟩:=dk b o2 e2
  exact ⟨o3,e3⟩
 ·obtain ⟨m1,e1⟩:=I.base.tbls b ps q
  obtain ⟨m2,e2⟩:=F.un.tbls b _ e1
  exact ⟨m1++m2,by rw [e2,Array.append_assoc]⟩
theorem ask_of {k : Nat} {params : Arguments} {body : Expr} {x0 : Str} {fr : List Str} {vals : List V} {sp : Sp} (L : LamAt base f qual params body scope cl) (hco : scope.isCoroutine = false) (hgen : scope.isGenerator = false) (hk : scope.kind = .function)
  (hcell : ∀ x ∈ scope.names,x.2 ≠ .cell) (hx0 : scope.names.lookup x0 = some .local) (hbind : ∀ (pm ctv u : Value) (c' : Addr),bindArgs (PySem.W.kla_fn "<lambda>" qual params body scope cl pm (.ref c') ctv) ⟨[u],[]⟩ = pure [(x0,u)])
  (hinj : ∀ x y c,cl.lookup x = some c→cl.lookup y = some c→x = y) (hhas : ∀ x,scope.names.lookup x = some .free→∃ c,cl.lookup x = some c) (hcl : ∀ x c,cl.lookup x = some c→∃ v,base.IsCell c v)
  (hlen : fr.length = vals.length) (hfr : ∀ (i : Nat) (x : Str) (v : V),fr[i]? = some x→vals[i]? = some v→scope.names.lookup x = some .free∧∃ c u,cl.lookup x = some c∧base.IsCell c (some u)∧RelV v u)
  (hbody : ∀ (A : Around) (outer : List Env) (s : Shared) (H : Hp) (cd : Value) (v : V) (Q : VK) (E : XK),Room k (A.deeper (PySem.W.envX qual scope s.heap.objs.size f cd cl))→sp [v] H Q E →
   ∃ t,PE (lamCx P w K mg base (x0::fr) qual scope f cd cl A outer s H E) body t∧t (some v::vals.map some) H Q) : AskOk P w K mg base (k + 1) f sp:=by
 obtain ⟨pm,c',ctv,hf,hcr⟩:=L
 refine ⟨⟨_,_,_,_,hf⟩,fun A outer s H u v Q E hr e0 rv hsp=>?_⟩
 have bk : ∀ b o,base.get? b = some o→s.heap.get? b = some o:=fun b o e=>(e0.bs b o e).1
 refine PySem.W.kla_callFunE hr.depth (bk _ _ hf) rfl hco hgen rfl (hcr.keeps bk) ?_
 rw [hbind]
 refine wpAny_pure (wpAny_newFunctionEnv hcell (fun y hy=>by
  obtain rfl : y = (x0,u):=List.mem_singleton.mp hy
  exact hx0) (fun h₁ hns hsb=>⟨(e0.mod.nolimit.keeps bk).fresh _ hsb,?_⟩) hk)
 show codeAny _ _ (.expr body (PySem.W.envX qual scope s.heap.objs.size f (.ref c') cl)) _ _
 have hk₁ : ∀ b o,s.heap.get? b = some o→h₁.get? b = some o:=fun b o e=>hsb.extBut b o (Nat.ne_of_lt (Heap.lt_size e)) (Heap.get?_push_of_some _ e)
 obtain ⟨t,pe,ht⟩:=hbody A outer s H (.ref c') v Q E (hr.deeper _) hsp
 have noA : ∀ b : Addr,b ∉ (lamCx P w K mg base (x0::fr) qual scope f (.ref c') cl A outer s H E).ex:=fun b z=>absurd (show b ∈ ([] : List Addr) from z) (by simp)
 have cellUp : ∀ c v,base.IsCell c v→h₁.IsCell c v:=fun c v ⟨o,ho,hd⟩=>⟨o,hk₁ _ _ (bk _ _ ho),hd⟩
 have I : Inv (lamCx P w K mg base (x0::fr) qual scope f (.ref c') cl A outer s H E) [] (some v::vals.map some) H { s with heap:=h₁,toks:=s.toks + 1 }:=by
  refine ⟨⟨e0.mod,hk,rfl,rfl,Nat.le_refl _,hinj,fun y hy=>?_,fun y c z _=>absurd (show false = true from z) Bool.false_ne_true,fun _=>hr.hd,Around.frames_deeper e0.frames,.inr ⟨rfl,rfl⟩,fun b z=>absurd z (noA b),e0.bs,e0.bsz,fun b _ _=>noA b,fun b z=>absurd z (noA b),e0.funs,e0.frf⟩,
   rfl,e0.bare,Un.kept hk₁,⟨_,hns,fun i y z h1 h2 h3=>?_⟩,fun y c h=>?_,e0.hok.fresh (Nat.le_refl _),fun y c h=>?_,fun p hp=>absurd (show p ∈ ([] : List (Addr × Obj)) from hp) (by simp),e0.hok.kept hk₁,?_⟩
  ·rcases hy with hy | hy
   ·have hy' : scope.names.lookup y = some .cell:=hy
    exact absurd rfl (hcell _ (PySem.mem_of_lookup hy'))
   ·exact hhas y hy
  ·cases i with
   | zero =>
    have h1' : (x0::fr)[0]? = some y:=h1
    have e1 : x0 = y:=by simpa using h1'
    have e2 : v = z:=by simpa using h2
    subst e1 e2
    refine ⟨u,rv,.inl ⟨hx0,?_⟩⟩
    show List.lookup x0 [(x0,u)] = some u
    rw [List.lookup_cons,beq_self_eq_true]
   | succ i =>
    have h1' : (x0::fr)[i + 1]? = some y:=h1
    have e1 : fr[i]? = some y:=by simpa using h1'
    have e2 : vals[i]? = some z:=by
     have h2' : (vals.map some)[i]? = some (some z):=by simpa using h2
     rw [List.getElem?_map] at h2'
     cases q : vals[i]? with
     | none=>rw [q] at h2'; cases h2'
     | some a=>rw [q] at h2'; cases h2'; rfl
    obtain ⟨k1,c,u1,hc,hz,r1⟩:=hfr i y z e1 e2
    exact ⟨u1,r1,.inr ⟨.inr k1,c,hc,cellUp _ _ hz⟩⟩
  ·obtain ⟨z,hz⟩:=hcl y c h
   exact ⟨z,cellUp _ _ hz⟩
  ·obtain ⟨z,o,ho,_⟩:=hcl y c h
   exact (e0.bs _ _ ho).2
  ·show (some v::vals.map some).length = (x0::fr).length
   rw [List.length_cons,List.length_cons,List.length_map,hlen]
 refine PySem.W.kla_codeExpr (wpAny_mono (pe [] _ _ H Q I ht) (fun r s' q=>?_) fun _ _ y=>y)
 obtain ⟨v',H',I',r',q'⟩:=q
 exact ⟨v',H',I'.os,I'.bare,I'.base,I'.hok,r',q'⟩
end
def tAsk (sp : Sp) (E : XK) (f : Addr) (j : Nat) (te : TE) : TE:=fun σ H Q=>σ[j]? = some (some (.ref f))∧te σ H fun v H1=>sp [v] H1 Q E
theorem pe_ask {X : Cx} {k j : Nat} {x : Str} {f : Addr} {sp : Sp} {E : XK} {e : Expr} {te : TE} {p pos : Pos} (hN : X.N[j]? = some x) (hv : Vis X.env.scope x) (hr : Room k X.A) (F : AskOk X.prog X.w X.K X.mg X.base k f sp) (hx : Passes (CXX X.prog X.w) X E) (he : PE X e te)
  (hs : starEach [e] X.env = [(false,eval e X.env)]:=by rfl) (hd : (x == ("__debug__" : Str)) = false:=by decide) (hcd : (x == ("__classdict__" : Str)) = false:=by decide) : PE X (.Call (.Name x p) [e] [] pos) (tAsk sp E f j te):=by
 intro pins s σ H Q I h
 obtain ⟨hf,h⟩:=h
 obtain ⟨⟨oc,od,fd,sl,ho⟩,run⟩:=F
 refine wpAny_Call_Name_kw (thn (pe_var hN hv hd hcd pins s σ H (fun v H1=>v = .ref f∧te σ H1 fun v H1=>sp [v] H1 Q E) I ⟨_,hf,rfl,h⟩) fun u s1 ⟨v,H1,I1,r1,ev,q⟩=>?_)
 subst ev
 obtain rfl : u = Value.ref f:=r1
 show wpAny _ _ (callWith pos (.ref f) [] (backTo pos (starEach [e] X.env)) []) _ _ _
 have sp1:=pa_cons he pa_nil hs pos pins s1 σ H1 (fun vs H2=>match vs with | [v]=>sp [v] H2 Q E | _=>False) I1 q
 rw [hs] at sp1 ⊢
 refine PySem.W.callWith_of (P:=fun h=>h.get? f = some ⟨oc,od,.func fd,sl⟩) (first:=[]) rfl (fun h e=>⟨.frame,.inl rfl,(PySem.W.Looks.ld (part:=none) e).andThen .now⟩) (PySem.Calls.evalArgs_plain ?_)
 refine thn sp1 fun us s2 ⟨vs,H2,I2,r2,q2⟩=>⟨I2.bk _ _ ho,?_⟩
 match vs,us,r2,q2 with
 | [],_,_,q2=>exact q2.elim
 | _::_::_,_,_,q2=>exact q2.elim
 | [v],_,.cons r .nil,q2 =>
 refine wpAny_call (codeAny_mono (run X.A X.stack s2 H2 _ v Q E hr I2.env0 r q2) fun rr s' hq=>?_)
 cases rr with
 | error e=>exact hx pins σ H2 s2 e s' I2 hq
 | ok fl =>
  cases fl with
  | ret u=>exact I2.after hq
  | next=>exact False.elim hq
  | brk=>exact False.elim hq
  | cont=>exact False.elim hq
def tHand (sp : Heap→Sp) (qual : Str) (env : Env) (N : List Str) (params : Arguments) (body : Expr) (scope : Scope) (clos : List (Str × Addr)) (lpos : Pos) (P : Addr) (t1 t2 : TE) : TE:=fun σ H Q=>t1 σ H fun v1 H1=>t2 σ H1 fun v2 H2 =>
 ∃ ps,H2 P = some (.tbl ps)∧TriplesOk ps.toList∧codeAmong lpos ps.toList = none∧∀ more base' f,LamAt base' f qual params body scope clos→CellsIn env N σ base'→sp base' [v1,v2,.ref f] (upd H2 P (.tbl (ps++more))) Q E0
theorem pe_hand {X : Cx} {k : Nat} {x : Str} {ps : List Str} {sp : Heap→Sp} {c P : Addr} {e1 e2 : Expr} {t1 t2 : TE} {params : Arguments} {body : Expr} {scope : Scope} {clos : List (Str × Addr)} {p pos lpos : Pos} {g : Addr} {fd : FuncData}
  (F : ∀ base : Heap,FnOk X.prog X.w X.K X.mg base (CXX X.prog X.w) k g fd ps (sp base)) (hb : Binds X.K fd ps []) (hr : Room k X.A) (hg : Gl X x) (hm : X.mg x = some (.ref g)) (hk : PySem.W.keepIn X.K (.ref g) = true) (h1 : PE X e1 t1) (h2 : PE X e2 t2)
  (hfn : ∀ x,X.fn x = true) (hcode : X.env.code = .ref c) (C : PySem.W.CodeHd X.base c P) (hbm : BMain X.mg X.base) (hcl : closureFor scope X.env = pure clos) (hdef : defaultsOf params X.env = ([],[]))
  (hdb : (x == ("__debug__" : Str)) = false:=by decide) (he1 : starEach [e1,e2,.Lambda params body scope lpos] X.env = (false,eval e1 X.env)::starEach [e2,.Lambda params body scope lpos] X.env:=by rfl)
  (he2 : starEach [e2,.Lambda params body scope lpos] X.env = (false,eval e2 X.env)::starEach [.Lambda params body scope lpos] X.env:=by rfl) (he3 : starEach [.Lambda params body scope lpos] X.env = [(false,eval (.Lambda params body scope lpos) X.env)]:=by rfl) :
  PE X (.Call (.Name x p) [e1,e2,.Lambda params body scope lpos] [] pos) (tHand sp (X.env.qual++"<lambda>") X.env X.N params body scope clos lpos P t1 t2):=by
 intro pins s σ H Q I h
 refine wpAny_Call_Name_kw (ld_glob I hg hm ?_ hdb)
 refine PySem.W.callWith_K (K:=X.K) (h₀:=X.base) I.ok.mod.kin hk ?_ he1 (by rw [he2,he3]; rfl)
 rw [he1,he2,he3]
 refine Calls.spliced_cons (thn (h1 pins s σ H _ I h) fun u1 s1 ⟨v1,H1,I1,r1,q1⟩=>?_)
 refine Calls.spliced_cons (thn (h2 pins s1 σ H1 _ I1 q1) fun u2 s2 ⟨v2,H2,I2,r2,q2⟩=>?_)
 obtain ⟨qs,hP,ht,hnf,q2⟩:=q2
 refine Calls.spliced_cons (lam_make I2 hcode C hP ht hnf hbm hcl hdef fun f s3 more I3 L=>?_)
 refine Calls.spliced_nil ⟨I3.kIn,?_⟩
 have F':=F (hidF s3.heap (upd H2 P (.tbl (qs++more))) (frs X.stack))
 have hsp:=q2 more _ f L (cells_in I3 hfn)
 have rv : Vals [v1,v2,.ref f] [u1,u2,.ref f]:=.cons r1 (.cons r2 (.cons rfl .nil))
 have hl : ([u1,u2,Value.ref f]++[]).length = ps.length:=by
  rw [List.append_nil,← rv.length]
  exact F'.len _ _ _ _ hsp
 have hbd:=hb s3 [u1,u2,.ref f] I3.kIn hl
 rw [List.append_nil] at hbd
 refine wpAny_call (codeAny_mono (F'.run X.A X.stack s3 _ ⟨[u1,u2,.ref f],[]⟩ [u1,u2,.ref f] [v1,v2,.ref f] Q E0 hr (env0F I3) hbd rv hsp) fun r s' hq=>?_)
 cases r with
 | error e=>exact pass_no pins σ _ s3 e s' I3 hq
 | ok fl =>
  cases fl with
  | ret u=>exact I3.after hq
  | next=>exact False.elim hq
  | brk=>exact False.elim hq
  | cont=>exact False.elim hq
end Xc
end
section
set_option linter.all false
set_option maxRecDepth 100000
namespace Xc
open PySem PySem.Spec PyProof.Rows L2
section
variable {P : Program} {w : World} {K : PySem.W.Frag} {mg : Str→Option Value} {base : Heap} {N : List Str} {qual : Str} {scope : Scope} {f : Addr} {cd : Value} {A : Around} {outer : List Env} {s : Shared} {H : Hp} {E E' : XK} {W : Value→Shared→Prop}
variable {k : Nat} {C fI : Addr} {fd : FuncData} {ps : List Str} {sp : Sp} {x : Str} {p pos cpos : Pos}
theorem ps_raise0W (M : ExcC K C fI) (F : FnOk P w K mg base (CXX P w) k fI fd ps sp) (hr : Room (k + 1) (cxOf (CXX P w) P w K mg base N qual scope f cd A outer s H E).A) (hb : Binds K fd ps [])
  (hg : Gl (cxOf (CXX P w) P w K mg base N qual scope f cd A outer s H E) x) (hm : mg x = some (.ref C))
  (hthr : ∀ pins σ H2 s2 a dx,Inv (cxOf (CXX P w) P w K mg base N qual scope f cd A outer s H E) pins σ H2 s2→H2 a = some (.ext (fullX C dx a))→E' (.ref C) (some dx) (del H2 a)→W (.ref a) s2) (hdb : (x == ("__debug__" : Str)) = false:=by decide) :
  PS ((cxOf (CXX P w) P w K mg base N qual scope f cd A outer s H E).wish W) (.Raise (some (.Call (.Name x p) [] [] cpos)) none pos) (tRaise C sp E' tNil):=by
 intro pins s1 σ H1 D I h
 obtain ⟨hz,q⟩ : ([] : List V).length≤sizeLine∧_:=h
 obtain ⟨nm,q',N',bs,bm,hd,sn,sub,ab,col,dd,k0,k1,k2,k3,k5,lk,b1,b2,b3,b4⟩:=M.cls
 refine exec_raise (raise_made (C:=C) (nm:=nm) (q:=q') (N:=N') (bs:=bs) (bm:=bm) (hd:=hd) (sn:=sn) (sub:=sub) (ab:=ab) (col:=col) (dd:=dd) (k0:=k0) (k1:=k1) (k2:=k2) (k3:=k3) (k5:=k5) (nw:="Exception.__new__") b4 hr.hd ?_)
 refine wpAny_bind (wpAny_mono (Q:=EP ((cxOf (CXX P w) P w K mg base N qual scope f cd A outer s H E).wish W) pins σ fun v H2=>∃ a dx,v = .ref a∧H2 a = some (.ext (fullX C dx a))∧E' (.ref C) (some dx) (del H2 a)) ?_ (fun v s2 h2=>wpAny_bind (wpAny_standAt (wpAny_pure ?_))) fun _ _ z=>z)
 ·refine wpAny_Call_Name_kw (ld_glob I hg hm ?_ hdb)
  exact PySem.W.callWith_K0 I.kIn M.kp (run_exc (X:=(cxOf (CXX P w) P w K mg base N qual scope f cd A outer s H E).wish W) (us:=[]) M F hr hb pass_no I .nil (Nat.zero_le _) fun a hn=>q a hn)
 obtain ⟨vv,H2,I2,rv,a,dx,rfl,ha,hE⟩:=h2
 obtain rfl : v = Value.ref a:=rv
 obtain ⟨⟨T,hx⟩,_,_⟩:=I2.hok a _ ha
 exact ⟨a,T,some dx,#[],rfl,I2.kIn _ _ lk,hx,hthr _ _ _ _ _ _ I2.unwish ha hE⟩
end
end Xc
end
section
set_option linter.all false
set_option maxRecDepth 100000
set_option maxHeartbeats 4000000
namespace Pg
open PySem PySem.Spec PyProof.Rows L2 Xc Sp
structure CatT (K : PySem.W.Frag) (cs : Cs) : Prop where
 cc : CatchC K cs.ref
 soor : PySem.W.subIn K (.ref cs.oor) (.ref cs.ref) = some true
 sovl : PySem.W.subIn K (.ref cs.ovl) (.ref cs.ref) = some true
 scst : PySem.W.subIn K (.ref cs.cst) (.ref cs.ref) = some true
 goor : GetX K cs.oor
 govl : GetX K cs.ovl
 gcst : GetX K cs.cst
section
variable {P : Program} {w : World} {K : PySem.W.Frag} {mg : Str→Option Value} {base : Heap} {cs : Cs}
theorem thr_catch {R C : Addr} {n : Int} {Q : VK} (hs : PySem.W.subIn K (.ref C) (.ref R) = some true) (g : GetX K C) (nn : PySem.W.findIn K (.ref C) "number" = some none) (h : ∀ l H',H' l = some (.lst [.int n])→Q (.ref l) H') : Thr (CatchE K R Q) C n:=fun dx H' hd =>
 ⟨C,dx,numF n,n,rfl,rfl,hs,g,nn,hd,rfl,fun p _ a _=>h p _ upd_same⟩
theorem thr_raise {C : Addr} {n : Int} {E : XK} {D : Ends} {σ : L2.St} (h : Thr E C n) (H1 : Hp) : tRaise C (spOwn0 K C n) E tNil D σ H1 :=
 ⟨Nat.zero_le _,fun x hx=>⟨x,rfl,upd_same,fun dy H' h1 h2 h3 h4=>⟨rfl,x,dy,rfl,h1,by
  have hdx : dy ≠ x:=fun z=>by rw [z,upd_same] at h3; cases h3
  exact h dy _ (by rw [del_ne hdx]; exact h2)⟩⟩⟩
theorem okW {x qual : Str} {st : Stmt} {f : Addr} {fd : FuncData} {N ps : List Str} {k : Nat} {sp : Sp} (F : Fun K x qual st f fd) (S : FnScope N ps (defScope st)) (len : ∀ vs H Q E,sp vs H Q E→vs.length = ps.length)
  (hbody : ∀ (cdv : Value) (A : Around) (outer : List Env) (s : Shared) (H : Hp) (vs : List V) (Q : VK) (E : XK),Room k (A.deeper (envOfC qual (defScope st) s.heap.objs.size f cdv))→sp vs H Q E→∀ s1,Inv (cxOf (CXX P w) P w K mg base N qual (defScope st) f cdv A outer s H E) [] (start N vs) H s1 →
   wpAny (model P w) (cxOf (CXX P w) P w K mg base N qual (defScope st) f cdv A outer s H E).A (execs (defBody st) (cxOf (CXX P w) P w K mg base N qual (defScope st) f cdv A outer s H E).env) (SP (cxOf (CXX P w) P w K mg base N qual (defScope st) f cdv A outer s H E) [] { nx:=fun _ H'=>Q .non H',rt:=Q })
    (cxOf (CXX P w) P w K mg base N qual (defScope st) f cdv A outer s H E).xe s1) : FnOk P w K mg base (CXX P w) (k + 1) f fd ps sp:=by
 obtain ⟨oc,od,kV,doc,pm,an,cdv,ct,osl,rfl,lk,hcd⟩:=F.ex
 refine ⟨len,fun A outer s H args us vs Q E hr e0 hb r hsp=>?_⟩
 have hl:=len _ _ _ _ hsp
 have KX : K.In s.heap:=e0.mod.kin.keeps fun b o e=>(e0.bs b o e).1
 have lim : s.heap.NoLimit:=e0.mod.nolimit.keeps fun b o e=>(e0.bs b o e).1
 have hkind : ∀ y ∈ ps.zip us,(defScope st).names.lookup y.1 = some .local∨((defScope st).names.lookup y.1 = some .cell∧((cellsFrom (s.heap.objs.size + 1) (defScope st).names []).lookup y.1).isSome = true):=fun ⟨n,v⟩ hy=>by
  rcases S.par n (List.of_mem_zip hy).1 with q | q
  ·exact .inl q
  ·exact .inr ⟨q,PySem.W.cellsFrom_some _ _ _ (.inl q)⟩
 refine codeAny_call_function hr.depth (KX _ _ lk) rfl S.co S.gen rfl (PySem.W.codeRec_of KX hcd) (hb _ _ _ _ ?_)
 refine wpAny_newFunctionEnv_cells S.kind hkind fun env he s1 x=>?_
 subst he
 refine ⟨lim.keeps x.toInCall.keep,codeAny_func ?_⟩
 have I : Inv (cxOf (CXX P w) P w K mg base N qual (defScope st) f cdv A outer s H E) [] (start N vs) H s1:=inv_start S hr.hd e0 hl r x
 refine wpAny_mono (hbody cdv A outer s H vs Q E (hr.deeper _) hsp s1 I) (fun fl s' hs=>?_) fun e s' hs=>hs
 have fin : ∀ {σ' : L2.St} {H' : Hp} {v : V} {u : Value},Inv (cxOf (CXX P w) P w K mg base N qual (defScope st) f cdv A outer s H E) [] σ' H' s'→RelV v u→Q v H'→CE outer P w H s Q u s' :=
  fun {σ' H' v u} J rv q=>⟨v,H',J.os,J.bare,J.base,J.hok,rv,q⟩
 cases fl with
 | ret u =>
  obtain ⟨v,σ',H',J,rv,q⟩:=hs
  exact fin J rv q
 | next =>
  obtain ⟨σ',H',J,q⟩:=hs
  exact fin (v:=V.non) (u:=Value.none) J rfl q
 | brk =>
  obtain ⟨_,_,_,q⟩:=hs
  exact False.elim q
 | cont =>
  obtain ⟨_,_,_,q⟩:=hs
  exact False.elim q
def spAnswered (P : Program) (w : World) (K : PySem.W.Frag) (mg : Str→Option Value) (cs : Cs) (j : Nat) (base : Heap) : Sp:=fun vs H Q _=>∃ (ir : Bool) (la f : Addr) (sp : Sp) (bs : List Nat),vs = [.bl ir,.ref la,.ref f]∧AskOk P w K mg base j f sp∧SqL K H la (nV bs)∧(∀ b ∈ bs,b < 256)∧bs.length≤9000 ∧
 (ir = false→∀ l H',H' l = some (.lst [.int (-2)])→Q (.ref l) H')∧(ir = true→∀ v,Rb35.taken bs = .bad v→∀ l H',H' l = some (.lst [.int v])→Q (.ref l) H') ∧
 (ir = true→∀ (G : Rb35.Prog) (b : Addr) (A : BkA) (B : Bk) (H' : Hp),Rb35.taken bs = .good G→BookAt cs H' b A G.p B→B.Ok→Sz B→G.people = B.people→G.lets = B.known.lets→Rb35.small G = true→Same H H'→sp [.ref b] H' Q (CatchE K cs.ref Q))
theorem sc_answered : FnScope ["in_range","text","ask","refusal"] ["in_range","text","ask"] (defScope st_answered):=⟨rfl,rfl,rfl,by decide +kernel,rfl,by decide +kernel,by decide +kernel⟩
theorem ok_answered {f : Addr} {fd : FuncData} {j : Nat} (hj : 10≤j) (F : Fun K "answered" "answered" st_answered f fd) (hR : mg "Refusal" = some (.ref cs.ref)) (X : ExcsT K mg cs) (ct : CatT K cs) (BO : DefOk P w K mg base 10 "book_of" ["text"] (spBookOf K cs)) :
  FnOk P w K mg base (CXX P w) (j + 1) f fd ["in_range","text","ask"] (spAnswered P w K mg cs j base):=by
 refine okW F sc_answered (fun vs H Q E h=>?_) (fun cdv A outer s H vs Q E hr h s1 I=>?_)
 ·obtain ⟨ir,la,f,sp,bs,rfl,_⟩:=h
  rfl
 ·obtain ⟨ir,la,g,sp,bs,rfl,AO,hla,hbs,hlb,kno,kbad,kgood⟩:=h
  obtain ⟨fC,fdC,hmC,MC,bC,GC⟩:=(ok_OutOfRange (P:=P) (w:=w) (base:=base) X).ex
  have passT : Passes (CXX P w) ((cxOf (CXX P w) P w K mg base ["in_range","text","ask","refusal"] "answered" (defScope st_answered) f cdv A outer s H E).wish
    (fun e s1=>wpAny (model P w) (cxOf (CXX P w) P w K mg base ["in_range","text","ask","refusal"] "answered" (defScope st_answered) f cdv A outer s H E).A (noteFrame e (cxOf (CXX P w) P w K mg base ["in_range","text","ask","refusal"] "answered" (defScope st_answered) f cdv A outer s H E).env)
     (fun _ s2=>wpAny (model P w) (cxOf (CXX P w) P w K mg base ["in_range","text","ask","refusal"] "answered" (defScope st_answered) f cdv A outer s H E).A (setFlight e none)
      (fun _ s3=>wpAny (model P w) (cxOf (CXX P w) P w K mg base ["in_range","text","ask","refusal"] "answered" (defScope st_answered) f cdv A outer s H E).A (handleBy e (cxOf (CXX P w) P w K mg base ["in_range","text","ask","refusal"] "answered" (defScope st_answered) f cdv A outer s H E).env
       (match defBody st_answered with | [.Try _ hs _ _ _]=>hs | _=>[]))
       (SP (cxOf (CXX P w) P w K mg base ["in_range","text","ask","refusal"] "answered" (defScope st_answered) f cdv A outer s H E) [] { nx:=fun _ H'=>Q .non H',rt:=Q }) (cxOf (CXX P w) P w K mg base ["in_range","text","ask","refusal"] "answered" (defScope st_answered) f cdv A outer s H E).xe s3) (cxOf (CXX P w) P w K mg base ["in_range","text","ask","refusal"] "answered" (defScope st_answered) f cdv A outer s H E).xe s2) (cxOf (CXX P w) P w K mg base ["in_range","text","ask","refusal"] "answered" (defScope st_answered) f cdv A outer s H E).xe s1)) (CatchE K cs.ref Q):=by
   intro pins σ H1 s1 e s' I1 hF
   obtain ⟨a,B',C,dx,a0,H',rfl,Fl⟩:=id hF
   exact handled_as (Q:=Q) (D:={ nx:=fun _ H'=>Q .non H',rt:=Q }) (i:=3) ((I1.unwish).pins_of (pins':=[]) (fun p hp=>by simp at hp)) ct.cc hR hF rfl rfl sc_answered.nd rfl rfl
  refine wpAny_execs_cons (thn (Q:=SP (cxOf (CXX P w) P w K mg base ["in_range","text","ask","refusal"] "answered" (defScope st_answered) f cdv A outer s H E) [] { nx:=fun _ H'=>Q .non H',rt:=Q }) (wpAny_Try_except ?_) fun fl s2 q=>?_)
  ·have body : PSs ((cxOf (CXX P w) P w K mg base ["in_range","text","ask","refusal"] "answered" (defScope st_answered) f cdv A outer s H E).wish _) (match defBody st_answered with | [.Try b _ _ _ _]=>b | _=>[]) _ :=
    pss_cons (ps_if (pt_not (pt_val (pv 0))) (pss_one (ps_raise0W (E':=CatchE K cs.ref Q) MC (GC.mono (Nat.le_trans (by decide : 2≤9) (Nat.sub_le_sub_right hj 1))) (by rw [Nat.sub_add_cancel (Nat.le_trans (by decide) hj)]; exact hr) bC rfl hmC fun pins' σ' H2 s2 a dx I2 ha hE=>handled_own (D:={ nx:=fun _ H'=>Q .non H',rt:=Q }) (i:=3) I2 ct.cc hR ha hE rfl rfl sc_answered.nd rfl rfl)) pss_nil) (pss_one (ps_ret (pe_ask (j:=2) rfl (Or.inl rfl) hr AO passT (pe_def (BO.mono hj) hr rfl passT (pa_cons (pv 1) pa_nil)))))
   refine wpAny_mono (body [] s1 _ H { nx:=fun _ _=>False,rt:=Q } (I.wish _) ?_) (fun fl s2 q=>?_) fun e s2 q=>q
   ·refine ⟨_,rfl,ir,rfl,?_⟩
    cases ir with
    | false=>exact iteT (thr_raise (thr_catch ct.soor ct.goor X.noor (kno rfl)) _)
    | true =>
     refine iteF ⟨rfl,_,rfl,la,bs,rfl,hla,hbs,hlb,fun G b Ab B H' e1 e2 e3 e4 e5 e6 e7 e8=>?_,fun v hv=>?_⟩
     ·exact kgood rfl G b Ab B H' e1 e2 e3 e4 e5 e6 e7 e8
     ·exact ⟨thr_catch ct.scst ct.gcst X.ncst (kbad rfl v hv),thr_catch ct.sovl ct.govl X.novl (kbad rfl v hv)⟩
   ·replace q:=q.unwish
    cases fl with
    | next=>obtain ⟨_,_,_,z⟩:=q; exact z.elim
    | brk=>obtain ⟨_,_,_,z⟩:=q; exact z.elim
    | cont=>obtain ⟨_,_,_,z⟩:=q; exact z.elim
    | ret u=>exact q
  ·cases fl with
   | next=>exact wpAny_execs_nil q
   | ret v=>exact q
   | brk=>exact q
   | cont=>exact q
end
end Pg
end
section
set_option linter.all false
set_option maxRecDepth 100000
set_option maxHeartbeats 4000000
namespace Pg
open PySem L2 Xc Sp Rb35
def spForm (cs : Cs) : Sp:=fun vs H Q E=>∃ (b : Addr) (A : BkA) (p : Nat) (B : Bk) (i : Int),vs = [.ref b,.int i]∧BookAt cs H b A p B ∧
 (∀ k : Nat,0≤i→(B.ls.map (·.2))[i.toNat]? = some k→Q (.int (k : Int)) H)∧(¬ (0≤i∧i.toNat < B.ls.length)→Thr E cs.oor (-2))
section
variable {P : Program} {w : World} {K : PySem.W.Frag} {mg : Str→Option Value} {base : Heap} {cs : Cs}
theorem sc_form : FnScope ["book","form"] ["book","form"] (defScope st_formula_of):=⟨rfl,rfl,rfl,by decide +kernel,rfl,by decide +kernel,by decide +kernel⟩
theorem ok_form (T : FunT K mg "formula_of" st_formula_of) (clB : Cls K cs.boo) (naB : NoAt K cs.boo ["prime","people","nodes","lets","names"]) (hlen : mg "len" = none) (OR : ExcOk P w K mg base 2 "OutOfRange" cs.oor ["self"] (spOwn0 K cs.oor (-2))) :
  DefOk P w K mg base 4 "formula_of" ["book","form"] (spForm cs):=by
 obtain ⟨f,fd,F,hm⟩:=T.ex
 obtain ⟨fC,fdC,hmC,MC,bC,GC⟩:=OR.ex
 refine ⟨f,fd,hm,F.kp,F.binds (fun _ _ _ _ _ _ us hl=>match us,hl with | [_,_],_=>rfl),okX F sc_form (fun vs H Q E h=>?_) (fun cdv A outer s H vs Q E hr h=>?_)⟩
 ·obtain ⟨b,A,p,B,i,rfl,_⟩:=h
  rfl
 ·obtain ⟨b,Ad,p,B,i,rfl,R,kq,kx⟩:=h
  obtain ⟨dx,ob⟩:=R.ob
  refine ⟨_,pss_cons (ps_if (pw_or (pt_cmpR op_lt (pv 1) pe_int (nomark _)) (pw_or1 (pt_cmpR op_ge (pv 1) (pe_callB call_len_seq (by rfl) hlen PySem.boot_len (pa_cons (pe_fld (pv 0) rfl) pa_nil)) (nomark _)))).pt (pss_one (ps_raise0 MC GC hr bC rfl hmC)) pss_nil)
   (pss_one (ps_ret (pe_ix ix_list (pe_fld (pv 0) rfl) (pv 1) (fun _ _=>rfl)))),?_⟩
  refine ⟨_,rfl,_,_,rfl,rfl,_,rfl,ite2 (fun hc=>?_) fun hc=>?_⟩
  ·have h1:=of_decide_eq_true hc
   refine iteT (thr_raise (kx fun z=>?_) _)
   omega
  have h1 : ¬ i < 0:=fun z=>hc (decide_eq_true z)
  refine ⟨_,rfl,_,rfl,b,cs.boo,dx,_,_,rfl,ob,clB,naB _ (by simp),bkF_lets _ _ _ _ _,_,_,rfl,.inl (SqL.of R.lets),_,_,rfl,rfl,_,rfl,ite2 (fun hc=>?_) fun hc=>?_⟩
  ·have h2:=of_decide_eq_true hc
   rw [nV_length,List.length_map] at h2
   exact thr_raise (kx fun z=>by omega) _
  have h2 : ¬ ((nV (B.ls.map (·.2))).length : Int)≤i:=fun z=>hc (decide_eq_true z)
  rw [nV_length,List.length_map] at h2
  have hi : i.toNat < (B.ls.map (·.2)).length:=by rw [List.length_map]; omega
  have hk:=List.getElem?_eq_getElem hi
  refine ⟨_,rfl,b,cs.boo,dx,_,_,rfl,ob,clB,naB _ (by simp),bkF_lets _ _ _ _ _,_,rfl,Ad.la,_,_,V.int (((B.ls.map (·.2))[i.toNat] : Nat) : Int),rfl,rfl,SqL.of R.lets,at_of (j:=i.toNat) (by omega) ?_,kq _ (by omega) hk⟩
  unfold nV
  rw [List.getElem?_map,hk]
  rfl
end
end Pg
end
section
set_option linter.all false
set_option maxRecDepth 100000
set_option maxHeartbeats 4000000
namespace Pg
open PySem PySem.Spec PyProof.Rows L2 Xc Sp
structure OwnT (K : PySem.W.Frag) (mg : Str→Option Value) (x qual : Str) (st : Stmt) (tm : Addr) : Prop where
 exc : ExcT K mg x tm qual st
 nn : PySem.W.findIn K (.ref tm) "number" = some none
 su : ∃ r,mg "Refusal" = some (.ref r)∧PySem.W.subIn K (.ref tm) (.ref r) = some true
 gx : GetX K tm
theorem OwnT.sub {K : PySem.W.Frag} {mg : Str→Option Value} {x qual : Str} {st : Stmt} {tm : Addr} {cs : Cs} (X : OwnT K mg x qual st tm) (T : ExcsT K mg cs) : PySem.W.subIn K (.ref tm) (.ref cs.ref) = some true:=by
 obtain ⟨r,h1,h2⟩:=X.su
 rw [T.mref] at h1
 cases h1
 exact h2
def spCounted : Sp:=fun vs H Q _=>∃ (n : Addr) (xs : List Nat),vs = [.ref n]∧H n = some (.lst (nV xs))∧xs.length + 1≤sizeLine∧∀ l H',H' l = some (.lst (nV (xs.length::xs)))→Same H H'→Q (.ref l) H'
section
variable {P : Program} {w : World} {K : PySem.W.Frag} {mg : Str→Option Value} {base : Heap} {cs : Cs} {tm : Addr}
theorem sc_counted : FnScope ["numbers"] ["numbers"] (defScope st_counted):=⟨rfl,rfl,rfl,by decide +kernel,rfl,by decide +kernel,by decide +kernel⟩
theorem ok_counted (T : FunT K mg "counted" st_counted) (hlen : mg "len" = none) : DefOk P w K mg base 1 "counted" ["numbers"] spCounted:=by
 obtain ⟨f,fd,F,hm⟩:=T.ex
 refine ⟨f,fd,hm,F.kp,F.binds (fun _ _ _ _ _ _ us hl=>match us,hl with | [_],_=>rfl),okN F sc_counted (fun vs H Q E h=>?_) (fun cdv A outer s H vs Q E hr h=>?_)⟩
 ·obtain ⟨n,xs,rfl,_⟩:=h
  rfl
 ·obtain ⟨n,xs,rfl,hn,hz,kq⟩:=h
  refine ⟨_,pss_one (ps_ret (pe_op op_cat (pe_lst (pa_cons (pe_callB call_len_seq (by rfl) hlen PySem.boot_len (pa_cons (pv 0) pa_nil)) pa_nil)) (pv 0))),?_⟩
  refine ⟨_,rfl,_,_,rfl,.inl (SqL.of hn),by show 1≤sizeLine; decide,fun a ha=>?_⟩
  have na : n ≠ a:=ne_of_none hn ha
  refine ⟨_,rfl,a,n,_,_,rfl,rfl,upd_same,by rw [upd_ne na]; exact hn,by rw [nV_length]; show 1 + _≤_; omega,fun p hp=>kq p _ ?_ fun c o q=>?_⟩
  ·rw [upd_same,nV_length]
   rfl
  ·have ca:=ne_of_none q ha
   have cp : c ≠ p:=fun z=>by rw [← z,upd_ne ca,q] at hp; cases hp
   rw [upd_ne cp,upd_ne ca]
   exact q
end
end Pg
end
section
set_option linter.all false
namespace Sp
open Rb35
def fsz : Form→Nat
 | .one _=>1
 | .some_ _ l=>1 + fszIn l
where fszIn : Forms→Nat
 | .nil=>0
 | .cons f l=>fsz f + fszIn l
theorem fszIn_ofL : ∀ l : List Form,fsz.fszIn (ofL l) = (l.map fsz).sum
 | []=>rfl
 | f::l=>by rw [ofL,fsz.fszIn,fszIn_ofL l]; rfl
theorem leaves_pos {P : Nat} (ns : List NodeM) (ok : Good P ns) : ∀ i,i < P + ns.length→1≤(leaves (den P ns i)).length:=by
 induction ns using snocInd with
 | h0 =>
  intro i hi
  rw [den_person [] (by simpa using hi)]
  exact Nat.le_refl _
 | h1 l a ih =>
  obtain ⟨g1,g2,g3,g4⟩:=ok.init
  intro i hi
  by_cases hl : i < P + l.length
  ·rw [den_ext [a] hl]; exact ih g1 i hl
  ·have e : i = P + l.length:=by rw [List.length_append] at hi; simp at hi; omega
   subst e
   rw [den_new]
   show 1≤(leavesIn (ofL _)).length
   rw [leavesIn_ofL,List.map_map]
   cases h : a.2 with
   | nil=>rw [h] at g4; simp at g4; omega
   | cons x t =>
    rw [List.map_cons,List.sum_cons]
    have:=ih g1 x (g2 x (by rw [h]; simp))
    show 1≤(leaves (den P l x)).length + _
    omega
end Sp
end
section
set_option linter.all false
namespace Sp
open Rb35
def glue (S : List Nat) : List (List Nat)→List Nat
 | []=>[]
 | [p]=>p
 | p::q::r=>p++(S++glue S (q::r))
def turn (tu : Bool) (f : Form) : Form:=if tu = true then dual f else f
theorem duals_ofL : ∀ l : List Form,duals (ofL l) = ofL (l.map dual)
 | []=>rfl
 | f::l=>by rw [ofL,duals,duals_ofL l]; rfl
def askd (tu : Bool) (k n : Nat) : Nat:=if tu = true then n + 1 - k else k
theorem turn_one (tu : Bool) (i : Nat) : turn tu (.one i) = .one i:=by
 unfold turn
 cases tu <;> rfl
theorem turn_some (tu : Bool) (k : Nat) (l : List Form) : turn tu (.some_ k (ofL l)) = .some_ (askd tu k l.length) (ofL (l.map (turn tu))):=by
 unfold turn askd
 cases tu with
 | true =>
  simp only [if_true]
  rw [dual,duals_ofL,countOf_ofL]
 | false=>simp
theorem askd_in {tu : Bool} {k n : Nat} (h1 : 1≤k) (h2 : k≤n) : 1≤askd tu k n∧askd tu k n≤n:=by
 unfold askd
 cases tu with
 | true=>simp only [if_true]; omega
 | false=>simp only [Bool.false_eq_true,if_false]; omega
def sgB (a n : Nat) : Nat:=if n = 1∨(1 < a∧a < n) then 0 else if a = 1 then 2 else 1
theorem kind_sg {a : Nat} {l : List Form} (h1 : 1≤a) (h2 : a≤l.length) : kindOf (.some_ a (ofL l)) = sgB a l.length:=by
 rw [kindOf,countOf_ofL]
 unfold sgB
 by_cases c1 : l.length = 1
 ·rw [if_pos (by omega),if_pos (.inl c1)]
 ·rw [if_neg (by omega)]
  by_cases c2 : a = l.length
  ·rw [if_pos c2,if_neg (by omega),if_neg (by omega)]
  ·rw [if_neg c2]
   by_cases c3 : a = 1
   ·rw [if_pos c3,if_neg (by omega),if_pos c3]
   ·rw [if_neg c3,if_pos (.inr (by omega))]
def apB (s k : Nat) : Bool:=(s == 1 && (k == 1 || k == 2)) || (s == 2 && k == 2)
def apT (s k : Nat) (t : List Nat) : List Nat:=if apB s k = true then 40::(t++[41]) else t
def sepB (s : Nat) : List Nat:=if s = 1 then [32,38,32] else if s = 2 then [32,124,32] else [44,32]
def chB (s : Nat) : Nat:=if s = 1 then 38 else if s = 2 then 124 else 44
theorem kind_le (f : Form) : kindOf f≤2:=by
 cases f with
 | one i=>show 0≤2; omega
 | some_ k l=>rw [kindOf]; split; omega; split; omega; split <;> omega
theorem between_ch {s : Nat} (h : s≤2) : between (chB s) = sepB s:=by
 match s,h with
 | 0,_=>rfl
 | 1,_=>rfl
 | 2,_=>rfl
theorem ap_iff {s : Nat} (h : s≤2) (f : Form) : ((chB s = 38∧kindOf f ≠ 0)∨(chB s = 124∧kindOf f = 2))↔apB s (kindOf f) = true:=by
 have:=kind_le f
 match s,h with
 | 0,_=>simp [chB,apB]
 | 1,_ =>
  simp [chB,apB]
  omega
 | 2,_=>simp [chB,apB]
theorem toldIn_glue (names : List Bytes) {s : Nat} (h : s≤2) : ∀ l : List Form,toldIn names (ofL l) (chB s) = glue (sepB s) (l.map fun f=>apT s (kindOf f) (told names f))
 | []=>rfl
 | [f]=>by
  rw [ofL,toldIn]
  have h0 : countOf (ofL []) = 0:=rfl
  show _++(if countOf (ofL []) = 0 then _ else _) = apT s (kindOf f) (told names f)
  rw [if_pos h0,List.append_nil]
  unfold apT
  by_cases c : apB s (kindOf f) = true
  ·rw [if_pos c,if_pos ((ap_iff h f).mpr c)]
  ·rw [if_neg c,if_neg (fun z=>c ((ap_iff h f).mp z))]
 | f::g::l=>by
  rw [ofL,toldIn,toldIn_glue names h (g::l)]
  show _++(if countOf (ofL (g::l)) = 0 then _ else _) = apT s (kindOf f) (told names f)++_
  have h0 : ¬ countOf (ofL (g::l)) = 0:=by rw [countOf_ofL]; simp
  rw [if_neg h0,between_ch h]
  congr 1
  unfold apT
  by_cases c : apB s (kindOf f) = true
  ·rw [if_pos c,if_pos ((ap_iff h f).mpr c)]
  ·rw [if_neg c,if_neg (fun z=>c ((ap_iff h f).mp z))]
def toldB (s a : Nat) (inner : List (List Nat)) : List Nat:=if s = 0 then digits a++([32,111,102,32,40]++(glue (sepB 0) inner++[41])) else glue (sepB s) inner
theorem told_node (names : List Bytes) {a : Nat} {l : List Form} (h1 : 1≤a) (h2 : a≤l.length) :
  told names (.some_ a (ofL l)) = toldB (sgB a l.length) a (l.map fun f=>apT (sgB a l.length) (kindOf f) (told names f)):=by
 rw [told,countOf_ofL]
 unfold toldB sgB
 have e44 : toldIn names (ofL l) 44 = glue (sepB 0) (l.map fun f=>apT 0 (kindOf f) (told names f)):=toldIn_glue names (by omega : 0≤2) l
 have e38 : toldIn names (ofL l) 38 = glue (sepB 1) (l.map fun f=>apT 1 (kindOf f) (told names f)):=toldIn_glue names (by omega : 1≤2) l
 have e124 : toldIn names (ofL l) 124 = glue (sepB 2) (l.map fun f=>apT 2 (kindOf f) (told names f)):=toldIn_glue names (by omega : 2≤2) l
 have eo : ascii " of (" = [32,111,102,32,40]:=by decide
 by_cases c1 : l.length = 1
 ·simp only [if_pos (show l.length < 2 by omega),if_pos (show l.length = 1∨(1 < a∧a < l.length) from .inl c1),if_true]
  rw [e44,eo]
 ·rw [if_neg (by omega)]
  by_cases c2 : a = l.length
  ·rw [if_pos c2]
   simp only [if_neg (show ¬ (l.length = 1∨(1 < a∧a < l.length)) by omega),if_neg (show ¬ a = 1 by omega)]
   rw [e38,if_neg (by omega)]
  ·rw [if_neg c2]
   by_cases c3 : a = 1
   ·rw [if_pos c3]
    simp only [if_neg (show ¬ (l.length = 1∨(1 < a∧a < l.length)) by omega),if_pos c3]
    rw [e124,if_neg (by omega)]
   ·rw [if_neg c3]
    simp only [if_pos (show l.length = 1∨(1 < a∧a < l.length) by omega),if_true]
    rw [e44,eo]
theorem glue_len (S : List Nat) : ∀ l : List (List Nat),(glue S l).length≤(l.map fun x=>x.length).sum + l.length * S.length
 | []=>by simp [glue]
 | [p]=>by simp [glue]
 | p::q::r=>by
  have:=glue_len S (q::r)
  rw [glue,List.length_append,List.length_append,List.map_cons,List.sum_cons,List.length_cons,Nat.succ_mul]
  omega
theorem apT_len (s k : Nat) (t : List Nat) : (apT s k t).length≤t.length + 2:=by
 unfold apT
 split
 ·simp
 ·omega
theorem sepB_len (s : Nat) : (sepB s).length≤3:=by
 unfold sepB
 split
 ·exact Nat.le_refl _
 ·split
  ·exact Nat.le_refl _
  ·show 2≤3; omega
theorem digits_len {a : Nat} (h : a < 100) : (digits a).length≤2:=by
 have : ∀ a : Fin 100,(digits a.1).length≤2:=by decide +kernel
 exact this ⟨a,h⟩
theorem sum_mono {α : Type} (f g : α→Nat) : ∀ l : List α,(∀ x ∈ l,f x≤g x)→(l.map f).sum≤(l.map g).sum
 | [],_=>Nat.le_refl _
 | a::l,h=>by
  rw [List.map_cons,List.map_cons,List.sum_cons,List.sum_cons]
  have h1:=h a (by simp)
  have h2:=sum_mono f g l fun x hx=>h x (by simp [hx])
  omega
theorem sum_lin {α : Type} (f g : α→Nat) (a b : Nat) : ∀ l : List α,(l.map fun x=>a * f x + b * g x).sum = a * (l.map f).sum + b * (l.map g).sum
 | []=>by simp
 | x::l=>by
  rw [List.map_cons,List.map_cons,List.map_cons,List.sum_cons,List.sum_cons,List.sum_cons,sum_lin f g a b l,Nat.mul_add,Nat.mul_add]
  omega
theorem sum_add {α : Type} (f : α→Nat) (c : Nat) : ∀ l : List α,(l.map fun x=>f x + c).sum = (l.map f).sum + l.length * c
 | []=>by simp
 | x::l=>by
  rw [List.map_cons,List.map_cons,List.sum_cons,List.sum_cons,sum_add f c l,List.length_cons,Nat.succ_mul]
  omega
theorem inner_len (names : List Bytes) (tu : Bool) (s k : Nat) (l : List Form) (h : ∀ f ∈ l,(told names (turn tu f)).length + 5≤13 * fsz f + 7 * (leaves f).length) :
  ((l.map fun f=>apT s (kindOf (turn tu f)) (told names (turn tu f))).map fun x=>x.length).sum + l.length * 3 + 13≤13 * fsz (.some_ k (ofL l)) + 7 * (leaves (.some_ k (ofL l))).length:=by
 have h1:=sum_mono (fun f=>(apT s (kindOf (turn tu f)) (told names (turn tu f))).length + 3) (fun f=>13 * fsz f + 7 * (leaves f).length) l fun f hf=>by
  have:=apT_len s (kindOf (turn tu f)) (told names (turn tu f))
  have:=h f hf
  show (apT s (kindOf (turn tu f)) (told names (turn tu f))).length + 3≤_
  omega
 rw [sum_lin,sum_add] at h1
 have e1 : fsz (.some_ k (ofL l)) = 1 + (l.map fsz).sum:=by rw [fsz,fszIn_ofL]
 have e2 : (leaves (.some_ k (ofL l))).length = (l.map fun f=>(leaves f).length).sum:=leavesIn_ofL l
 rw [e1,e2,List.map_map]
 show (l.map fun f=>(apT s (kindOf (turn tu f)) (told names (turn tu f))).length).sum + _ + _≤_
 omega
section
variable {P : Nat} (names : List Bytes) (tu : Bool)
theorem told_len (hP : P = names.length) (hn : ∀ x ∈ names,x.length≤15) (ns : List NodeM) (ok : Good P ns) (hw : ∀ n ∈ ns,n.2.length < 100) : ∀ i,i < P + ns.length→(told names (turn tu (den P ns i))).length + 5≤13 * fsz (den P ns i) + 7 * (leaves (den P ns i)).length:=by
 induction ns using snocInd with
 | h0 =>
  intro i hi
  have hi' : i < P:=by simpa using hi
  rw [den_person [] hi',turn_one]
  show (names.getD i []).length + 5≤13 * 1 + 7 * 1
  have hl : i < names.length:=by omega
  rw [List.getD_eq_getElem?_getD,List.getElem?_eq_getElem hl]
  have:=hn _ (List.getElem_mem hl)
  show names[i].length + 5≤_
  omega
 | h1 l a ih =>
  obtain ⟨g1,g2,g3,g4⟩:=ok.init
  have ih':=ih g1 fun n hn=>hw n (List.mem_append_left _ hn)
  intro i hi
  by_cases hl : i < P + l.length
  ·rw [den_ext [a] hl]; exact ih' i hl
  ·have e : i = P + l.length:=by rw [List.length_append] at hi; simp at hi; omega
   subst e
   have hwa:=hw a (by simp)
   have hin:=askd_in (tu:=tu) g3 g4
   rw [den_new,turn_some,List.length_map,told_node names hin.1 (by rw [List.length_map,List.length_map]; exact hin.2)]
   have hL:=inner_len names tu (sgB (askd tu a.1 a.2.length) a.2.length) a.1 (a.2.map (den P l)) fun f hf=>by
    obtain ⟨j,hj,rfl⟩:=List.mem_map.mp hf
    exact ih' j (g2 j hj)
   rw [List.length_map] at hL
   rw [List.length_map,List.length_map,List.map_map (f:=turn tu)]
   have hd:=digits_len (a:=askd tu a.1 a.2.length) (by omega)
   have hs:=sepB_len (sgB (askd tu a.1 a.2.length) a.2.length)
   have hg:=glue_len (sepB (sgB (askd tu a.1 a.2.length) a.2.length)) (((a.2.map (den P l)).map fun f=>apT (sgB (askd tu a.1 a.2.length) a.2.length) (kindOf (turn tu f)) (told names (turn tu f))))
   rw [List.length_map,List.length_map] at hg
   have hm:=Nat.mul_le_mul_left a.2.length hs
   unfold toldB
   split
   ·rename_i h0
    have h0' : sepB 0 = sepB (sgB (askd tu a.1 a.2.length) a.2.length):=by rw [h0]
    show (digits _++([32,111,102,32,40]++(glue (sepB 0) ((a.2.map (den P l)).map fun f=>apT (sgB (askd tu a.1 a.2.length) a.2.length) (kindOf (turn tu f)) (told names (turn tu f)))++[41]))).length + 5≤_
    rw [h0',List.length_append,List.length_append,List.length_append]
    show _ + (5 + (_ + 1)) + 5≤_
    omega
   ·show (glue (sepB _) ((a.2.map (den P l)).map fun f=>apT _ (kindOf (turn tu f)) (told names (turn tu f)))).length + 5≤_
    omega
theorem fsz_le (ns : List NodeM) (ok : Good P ns) : ∀ i,i < P + ns.length→fsz (den P ns i)≤(leaves (den P ns i)).length * (ns.length + 1):=by
 induction ns using snocInd with
 | h0 =>
  intro i hi
  rw [den_person [] (by simpa using hi)]
  exact Nat.le_refl _
 | h1 l a ih =>
  obtain ⟨g1,g2,g3,g4⟩:=ok.init
  intro i hi
  have hle : (l++[a]).length + 1 = (l.length + 1) + 1:=by simp
  by_cases hl : i < P + l.length
  ·rw [den_ext [a] hl,hle]
   exact Nat.le_trans (ih g1 i hl) (Nat.mul_le_mul_left _ (Nat.le_succ _))
  ·have e : i = P + l.length:=by rw [List.length_append] at hi; simp at hi; omega
   subst e
   have hp:=leaves_pos _ ok (P + l.length) hi
   rw [hle,Nat.mul_succ]
   rw [den_new] at hp ⊢
   have e1 : fsz (.some_ a.1 (ofL (a.2.map (den P l)))) = 1 + ((a.2.map (den P l)).map fsz).sum:=by rw [fsz,fszIn_ofL]
   have e2 : (leaves (.some_ a.1 (ofL (a.2.map (den P l))))).length = ((a.2.map (den P l)).map fun f=>(leaves f).length).sum:=leavesIn_ofL _
   have h1:=sum_mono fsz (fun f=>(l.length + 1) * (leaves f).length + 0 * 0) (a.2.map (den P l)) fun f hf=>by
    obtain ⟨j,hj,rfl⟩:=List.mem_map.mp hf
    have:=ih g1 j (g2 j hj)
    rw [Nat.mul_comm] at this
    show _≤(l.length + 1) * (leaves (den P l j)).length + 0 * 0
    omega
   rw [sum_lin (fun f=>(leaves f).length) (fun _=>0) (l.length + 1) 0,Nat.zero_mul,Nat.add_zero] at h1
   rw [e2] at hp
   rw [e1,e2,Nat.mul_comm]
   omega
end
end Sp
end
section
set_option linter.all false
namespace Sp
open Rb35
end Sp
end
section
set_option linter.all false
namespace Sp
open Rb35
def ShortT (t : Toks) : Prop:=∀ x ∈ t,∀ b,x.1 = .name b→b.length≤15
theorem ShortT.drop {t : Toks} (h : ShortT t) (n : Nat) : ShortT (t.drop n):=fun x hx=>h x (List.mem_of_mem_drop hx)
theorem ShortT.one {t : Tok} {k : Nat} (h : ∀ b,t = .name b→b.length≤15) : ShortT [(t,k)]:=fun x hx b e=>by
 simp at hx
 subst hx
 exact h b e
theorem ShortT.cons {t : Tok} {k : Nat} {r : Toks} (h : ∀ b,t = .name b→b.length≤15) (hr : ShortT r) : ShortT ((t,k)::r):=fun x hx b e=>by
 rcases List.mem_cons.mp hx with rfl | hx
 ·exact h b e
 ·exact hr x hx b e
theorem toks_short : ∀ (f a : Nat) (b : Bytes),ShortT (toksFrom f a b)
 | 0,a,b=>.one fun _ e=>by cases e
 | f + 1,a,[]=>.one fun _ e=>by cases e
 | f + 1,a,c::r=>by
  rw [toksFrom]
  split
  ·exact toks_short f _ _
  ·split
   ·exact toks_short f _ _
   ·split
    ·dsimp only
     split
     ·exact .one fun _ e=>by cases e
     ·rename_i h
      exact .cons (fun b e=>by cases e; omega) (toks_short f _ _)
    ·split
     ·dsimp only
      split
      ·exact .one fun _ e=>by cases e
      ·exact .cons (fun b e=>by cases e) (toks_short f _ _)
     ·split
      ·exact .cons (fun b e=>by cases e) (toks_short f _ _)
      ·exact .one fun _ e=>by cases e
theorem newName_short {e : Known} {t : Toks} {x : Bytes × Toks} (ht : ShortT t) (h : newName e t = .ok x) : x.1.length≤15∧ShortT x.2:=by
 unfold newName at h
 split at h
 ·rename_i b k r
  split at h
  ·cases h
  ·cases h
   exact ⟨ht _ (List.mem_cons_self ..) b rfl,fun y hy=>ht y (List.mem_cons_of_mem _ hy)⟩
 ·cases h
theorem people_short : ∀ (f : Nat) (e : Known) (t : Toks) (y : Known × Toks),ShortT t→(∀ x ∈ e.people,x.length≤15)→people f e t = .ok y→∀ x ∈ y.1.people,x.length≤15
 | 0,e,t,y,_,_,h=>by cases h
 | f + 1,e,t,y,ht,he,h=>by
  rw [people] at h
  cases q : newName e t with
  | error k=>rw [q] at h; cases h
  | ok x =>
   obtain ⟨h1,h2⟩:=newName_short ht q
   rw [q] at h
   have he2 : ∀ z ∈ e.people++[x.1],z.length≤15:=fun z hz=>by
    rcases List.mem_append.mp hz with hz | hz
    ·exact he z hz
    ·simp at hz; subst hz; exact h1
   simp only [Except.bind] at h
   split at h
   ·exact people_short f _ _ y (h2.drop 1) he2 h
   ·cases h
    exact he2
theorem lets_people : ∀ (f : Nat) (e : Known) (t : Toks) (y : Known),lets f e t = .ok y→y.people = e.people
 | 0,e,t,y,h=>by cases h
 | f + 1,e,t,y,h=>by
  rw [lets] at h
  split at h
  ·cases h; rfl
  ·split at h
   ·cases h
   ·cases q : newName e (t.drop 1) with
    | error k=>rw [q] at h; cases h
    | ok x =>
     rw [q] at h
     simp only [Except.bind] at h
     cases q2 : take_ 61 x.2 with
     | error k=>rw [q2] at h; cases h
     | ok u =>
      rw [q2] at h
      dsimp only at h
      cases q3 : formula e u with
      | error k=>rw [q3] at h; cases h
      | ok z =>
       rw [q3] at h
       dsimp only at h
       cases q4 : take_ 59 z.2 with
       | error k=>rw [q4] at h; cases h
       | ok r =>
        rw [q4] at h
        exact lets_people f ⟨e.people,e.lets++[(x.1,z.1)]⟩ r y h
theorem field_toks {t : Toks} {x : Nat × Toks} (ht : ShortT t) (h : field t = .ok x) : ShortT x.2:=by
 unfold field at h
 split at h
 ·cases h
 ·split at h
  ·rename_i p k r e0
   split at h
   ·cases e : take_ 59 r with
    | error k=>rw [e] at h; cases h
    | ok u =>
     rw [e] at h
     cases h
     unfold take_ at e
     split at e
     ·cases e
      have hr : ShortT r:=fun y hy=>ht.drop 1 y (by rw [e0]; exact List.mem_cons_of_mem _ hy)
      exact hr.drop 1
     ·cases e
   ·cases h
  ·cases h
theorem taken_names {bs : List Nat} {G : Prog} (h : taken bs = .good G) : ∀ x ∈ G.people,x.length≤15:=by
 unfold taken at h
 cases q : program (toks bs) with
 | error k=>rw [q] at h; cases h
 | ok P =>
  rw [q] at h
  dsimp only at h
  split at h
  ·cases h
   unfold program at q
   cases f : field (toks bs) with
   | error k=>rw [f] at q; cases q
   | ok x =>
    have hx:=field_toks (toks_short _ _ _) f
    rw [f] at q
    simp only [Except.bind] at q
    split at q
    ·cases q
    ·cases e1 : people (x.2.length + 1) ⟨[],[]⟩ (x.2.drop 1) with
     | error k=>rw [e1] at q; cases q
     | ok y =>
      have hy:=people_short _ _ _ y (hx.drop 1) (fun z hz=>by simp at hz) e1
      rw [e1] at q
      dsimp only at q
      cases e2 : take_ 59 y.2 with
      | error k=>rw [e2] at q; cases q
      | ok r =>
       rw [e2] at q
       dsimp only at q
       cases e3 : lets (r.length + 1) y.1 r with
       | error k=>rw [e3] at q; cases q
       | ok e =>
        have:=lets_people _ _ _ e e3
        rw [e3] at q
        cases q
        show ∀ x ∈ e.people,_
        rw [this]
        exact hy
  ·cases h
end Sp
end
section
set_option linter.all false
set_option maxRecDepth 100000
set_option maxHeartbeats 4000000
namespace Pg
open PySem PySem.Spec PyProof.Rows L2 Xc Sp
def sgS (s : Nat) : Str:=mkS (if s = 1 then [38] else if s = 2 then [124] else [])
theorem str_tl (x : Str) : mkS (TL.tl x) = x:=by
 cases x with
 | mk a=>show (⟨a.toList.toArray⟩ : Str) = ⟨a⟩; rw [Array.toArray_toList]
theorem mkS_app (a b : List Nat) : mkS a++mkS b = mkS (a++b):=by
 rw [← str_tl (mkS a++mkS b),TL.tl_append]
 rfl
theorem joinL_glue (S : List Nat) : ∀ l,TL.joinL S l = glue S l
 | []=>rfl
 | [_]=>rfl
 | p::q::r=>by rw [TL.joinL,glue,joinL_glue S (q::r)]
theorem mkS_join (S : List Nat) (l : List (List Nat)) : Txt.join (mkS S) (l.map mkS) = mkS (glue S l):=by
 rw [TL.join_eq,← str_tl (Str.join _ _),TL.tl_join,joinL_glue,List.map_map]
 congr 2
 exact List.map_id' _ ▸ rfl
theorem num_digits (n : Nat) : Str.ofString (toString ((n : Nat) : Int)) = mkS (Rb35.digits n):=by
 rw [← str_tl (Str.ofString _),TL.tl_ofString]
 show mkS ((Nat.repr n).toList.map Char.toNat) = _
 unfold Nat.repr
 rw [String.toList_ofList]
 rfl
theorem litNo : ("" : Str) = mkS []:=by decide +kernel
theorem litAnd : (" & " : Str) = mkS (sepB 1):=by decide +kernel
theorem litOr : (" | " : Str) = mkS (sepB 2):=by decide +kernel
theorem litCom : (", " : Str) = mkS (sepB 0):=by decide +kernel
theorem litOfB : (" of (" : Str) = mkS [32,111,102,32,40]:=by decide +kernel
def spAskedOf (cs : Cs) : Sp:=fun vs H Q _=>∃ (nd wl : Addr) (n : NodeM) (tu : Bool),vs = [.ref nd,.bl tu]∧NodeAt cs H (nd,wl) n∧n.1≤n.2.length∧Q (.int ((askd tu n.1 n.2.length : Nat) : Int)) H
def spSign : Sp:=fun vs H Q _=>∃ (a n : Nat),vs = [.int (a : Int),.int (n : Int)]∧Q (.str (sgS (sgB a n))) H
def spApart : Sp:=fun vs H Q _=>∃ (t : List Nat) (b : Bool),vs = [.str (mkS t),.bl b]∧t.length≤16000000∧Q (.str (mkS (if b = true then 40::(t++[41]) else t))) H
def spJoinedBy (K : PySem.W.Frag) : Sp:=fun vs H Q _=>∃ (s a : Nat) (l : Addr) (inner : List (List Nat)),vs = [.str (sgS s),.int (a : Int),.ref l]∧s≤2∧a < 100∧H l = some (.lst (inner.map fun x=>V.str (mkS x)))∧(inner.map fun x=>x.length).sum + inner.length * 3≤16000000∧Q (.str (mkS (toldB s a inner))) H
section
variable {P : Program} {w : World} {K : PySem.W.Frag} {mg : Str→Option Value} {base : Heap} {cs : Cs}
theorem sc_askedOf : FnScope ["node","turned"] ["node","turned"] (defScope st_asked_of):=⟨rfl,rfl,rfl,by decide +kernel,rfl,by decide +kernel,by decide +kernel⟩
theorem ok_askedOf (T : FunT K mg "asked_of" st_asked_of) (clN : Cls K cs.nod) (naN : NoAt K cs.nod ["asked","within"]) (hlen : mg "len" = none) : DefOk P w K mg base 1 "asked_of" ["node","turned"] (spAskedOf cs):=by
 obtain ⟨f,fd,F,hm⟩:=T.ex
 refine ⟨f,fd,hm,F.kp,F.binds (fun _ _ _ _ _ _ us hl=>match us,hl with | [_,_],_=>rfl),okN F sc_askedOf (fun vs H Q E h=>?_) (fun cdv A outer s H vs Q E hr h=>?_)⟩
 ·obtain ⟨nd,wl,n,tu,rfl,_⟩:=h
  rfl
 ·obtain ⟨nd,wl,n,tu,rfl,⟨⟨dn,n1⟩,n2⟩,hle,kq⟩:=h
  refine ⟨_,pss_cons (ps_if (pt_val (pv 1)) (pss_one (ps_ret (pe_op op_sub (pe_op op_add (pe_callB call_len_seq (by rfl) hlen PySem.boot_len (pa_cons (pe_fld (pv 0) rfl) pa_nil)) pe_int) (pe_fld (pv 0) rfl)))) pss_nil) (pss_one (ps_ret (pe_fld (pv 0) rfl))),?_⟩
  refine ⟨_,rfl,tu,rfl,?_⟩
  cases tu with
  | true =>
   refine iteT ⟨_,rfl,nd,cs.nod,dn,_,_,rfl,n1,clN,naN _ (by simp),ndF_within _ _,_,_,rfl,.inl (SqL.of n2),_,_,rfl,rfl,_,rfl,nd,cs.nod,dn,_,_,rfl,n1,clN,naN _ (by simp),ndF_asked _ _,_,_,rfl,rfl,?_⟩
   have e : (((nV n.2).length : Nat) : Int) + 1 - ((n.1 : Nat) : Int) = ((askd true n.1 n.2.length : Nat) : Int):=by
    unfold askd
    rw [nV_length,if_pos rfl]
    omega
   rw [← e] at kq
   exact kq
  | false=>exact iteF ⟨_,rfl,nd,cs.nod,dn,_,_,rfl,n1,clN,naN _ (by simp),ndF_asked _ _,kq⟩
theorem sc_sign : FnScope ["asked","within"] ["asked","within"] (defScope st_sign_between):=⟨rfl,rfl,rfl,by decide +kernel,rfl,by decide +kernel,by decide +kernel⟩
theorem ok_sign (T : FunT K mg "sign_between" st_sign_between) : DefOk P w K mg base 1 "sign_between" ["asked","within"] spSign:=by
 obtain ⟨f,fd,F,hm⟩:=T.ex
 refine ⟨f,fd,hm,F.kp,F.binds (fun _ _ _ _ _ _ us hl=>match us,hl with | [_,_],_=>rfl),okN F sc_sign (fun vs H Q E h=>?_) (fun cdv A outer s H vs Q E hr h=>?_)⟩
 ·obtain ⟨a,n,rfl,_⟩:=h
  rfl
 ·obtain ⟨a,n,rfl,kq⟩:=h
  refine ⟨_,pss_cons (ps_if (pw_or (pt_cmpR op_eq (pv 1) pe_int (nomark _)) (pw_or1 (pw_and (pt_cmpR op_gt (pv 0) pe_int (nomark _)) (pw_and1 (pt_cmpR op_lt (pv 0) (pv 1) (nomark _)))).pt)).pt (pss_one (ps_ret pe_str)) pss_nil)
   (pss_one (ps_ret (pe_ifExp (pt_cmpR op_eq (pv 0) pe_int (nomark _)) pe_str pe_str))),?_⟩
  have yes : (n = 1∨(1 < a∧a < n))→Q (.str "") H:=fun z=>by
   unfold sgB at kq
   rw [if_pos z] at kq
   rw [litNo]
   exact kq
  refine ⟨_,rfl,rfl,_,rfl,ite2 (fun hc=>?_) fun hc=>?_⟩
  ·rw [vint_eq] at hc
   have h1 : n = 1:=by have:=of_decide_eq_true hc; omega
   exact iteT (yes (.inl h1))
  rw [vint_eq] at hc
  have h1 : ¬ n = 1:=fun z=>hc (decide_eq_true (by omega))
  have no : ¬ (1 < a∧a < n)→(if a = 1 then Q (.str "|") H else Q (.str "&") H):=fun z=>by
   unfold sgB at kq
   rw [if_neg (fun y=>y.elim h1 z)] at kq
   by_cases c : a = 1
   ·rw [if_pos c] at kq ⊢
    rw [lit124]
    exact kq
   ·rw [if_neg c] at kq ⊢
    rw [lit38]
    exact kq
  refine ⟨_,rfl,_,_,rfl,rfl,_,rfl,ite2 (fun hc=>?_) fun hc=>?_⟩
  ·have h2 : 1 < a:=by have:=of_decide_eq_true hc; omega
   refine ⟨_,rfl,_,rfl,_,_,rfl,rfl,_,rfl,ite2 (fun hc=>?_) fun hc=>?_⟩
   ·exact yes (.inr ⟨h2,by have:=of_decide_eq_true hc; omega⟩)
   ·have y:=no fun z=>hc (decide_eq_true (by omega))
    refine ⟨_,rfl,rfl,_,rfl,ite2 (fun hc3=>?_) fun hc3=>?_⟩
    ·rw [vint_eq] at hc3
     rw [if_pos (by have:=of_decide_eq_true hc3; omega)] at y
     exact y
    ·rw [vint_eq] at hc3
     rw [if_neg (fun z=>hc3 (decide_eq_true (by omega)))] at y
     exact y
  ·refine iteF ?_
   have y:=no fun z=>hc (decide_eq_true (by omega))
   refine ⟨_,rfl,rfl,_,rfl,ite2 (fun hc3=>?_) fun hc3=>?_⟩
   ·rw [vint_eq] at hc3
    rw [if_pos (by have:=of_decide_eq_true hc3; omega)] at y
    exact y
   ·rw [vint_eq] at hc3
    rw [if_neg (fun z=>hc3 (decide_eq_true (by omega)))] at y
    exact y
theorem sc_apart : FnScope ["text","bracketed"] ["text","bracketed"] (defScope st_set_apart):=⟨rfl,rfl,rfl,by decide +kernel,rfl,by decide +kernel,by decide +kernel⟩
theorem ok_apart (T : FunT K mg "set_apart" st_set_apart) : DefOk P w K mg base 1 "set_apart" ["text","bracketed"] spApart:=by
 obtain ⟨f,fd,F,hm⟩:=T.ex
 refine ⟨f,fd,hm,F.kp,F.binds (fun _ _ _ _ _ _ us hl=>match us,hl with | [_,_],_=>rfl),okN F sc_apart (fun vs H Q E h=>?_) (fun cdv A outer s H vs Q E hr h=>?_)⟩
 ·obtain ⟨t,b,rfl,_⟩:=h
  rfl
 ·obtain ⟨t,b,rfl,hz,kq⟩:=h
  refine ⟨_,pss_one (ps_ret (pe_ifExp (pt_val (pv 1)) (pe_op op_add_str (pe_op op_add_str pe_str (pv 0)) pe_str) (pv 0))),?_⟩
  refine ⟨_,rfl,b,rfl,?_⟩
  cases b with
  | true =>
   refine iteT ⟨_,rfl,_,_,rfl,rfl,?_,_,_,rfl,rfl,?_,?_⟩
   ·rw [len_mkS]
    exact Nat.le_trans (show 1 + t.length≤16000001 by omega) (by decide)
   ·rw [lit40,lit41,mkS_app,len_mkS,len_mkS]
    show ([40]++t).length + 1≤sizeLine
    rw [List.length_append]
    exact Nat.le_trans (show 1 + t.length + 1≤16000002 by omega) (by decide)
   ·rw [lit40,lit41,mkS_app,mkS_app]
    exact kq
  | false=>exact iteF ⟨_,rfl,kq⟩
theorem sc_joinedBy : FnScope ["sign","asked","inner"] ["sign","asked","inner"] (defScope st_joined_by):=⟨rfl,rfl,rfl,by decide +kernel,rfl,by decide +kernel,by decide +kernel⟩
theorem ok_joinedBy (T : FunT K mg "joined_by" st_joined_by) (hstr : mg "str" = none) : DefOk P w K mg base 1 "joined_by" ["sign","asked","inner"] (spJoinedBy K):=by
 obtain ⟨f,fd,F,hm⟩:=T.ex
 refine ⟨f,fd,hm,F.kp,F.binds (fun _ _ _ _ _ _ us hl=>match us,hl with | [_,_,_],_=>rfl),okN F sc_joinedBy (fun vs H Q E h=>?_) (fun cdv A outer s0 H vs Q E hr h=>?_)⟩
 ·obtain ⟨s,a,l,inner,rfl,_⟩:=h
  rfl
 ·obtain ⟨s,a,l,inner,rfl,hs,ha,hl,hz,kq⟩:=h
  refine ⟨_,pss_cons (ps_if (pt_cmpR op_eq (pv 0) pe_str (nomark _)) (pss_one (ps_ret (pe_join pe_str (pv 2)))) pss_nil)
   (pss_cons (ps_if (pt_cmpR op_eq (pv 0) pe_str (nomark _)) (pss_one (ps_ret (pe_join pe_str (pv 2)))) pss_nil)
   (pss_one (ps_ret (pe_op op_add_str (pe_op op_add_str (pe_op op_add_str (pe_callTy call_str_int (by rfl) hstr PyProof.Rows.boot_str (pa_cons (pv 1) pa_nil)) pe_str) (pe_join pe_str (pv 2))) pe_str)))),?_⟩
  have hl' : H l = some (.lst ((inner.map mkS).map V.str)):=by rw [hl,List.map_map]; rfl
  have hsz : ∀ s',((inner.map mkS).map (·.length)).sum + (inner.map mkS).length * (mkS (sepB s')).length≤16777216:=fun s'=>by
   rw [List.map_map,List.length_map,len_mkS]
   have e : (inner.map ((·.length) ∘ mkS)) = inner.map fun x=>x.length:=List.map_congr_left fun x _=>len_mkS x
   rw [e]
   have:=Nat.mul_le_mul_left inner.length (sepB_len s')
   omega
  refine ⟨_,rfl,rfl,_,rfl,ite2 (fun hc=>?_) fun hc=>?_⟩
  ·have h1 : s = 1:=by
    rw [show sgS s = mkS _ from rfl,vlit lit38] at hc
    have:=of_decide_eq_true hc
    obtain rfl | rfl | rfl : s = 0∨s = 1∨s = 2:=by omega
    ·cases this
    ·rfl
    ·cases this
   subst h1
   refine ⟨⟨_,rfl⟩,_,rfl,_,l,inner.map mkS,rfl,rfl,.inl (SqL.of hl'),by rw [litAnd]; exact hsz 1,?_⟩
   rw [litAnd,mkS_join]
   exact kq
  refine ⟨_,rfl,rfl,_,rfl,ite2 (fun hc2=>?_) fun hc2=>?_⟩
  ·have h1 : s = 2:=by
    rw [show sgS s = mkS _ from rfl,vlit lit124] at hc2
    have:=of_decide_eq_true hc2
    obtain rfl | rfl | rfl : s = 0∨s = 1∨s = 2:=by omega
    ·cases this
    ·cases this
    ·rfl
   subst h1
   refine ⟨⟨_,rfl⟩,_,rfl,_,l,inner.map mkS,rfl,rfl,.inl (SqL.of hl'),by rw [litOr]; exact hsz 2,?_⟩
   rw [litOr,mkS_join]
   exact kq
  have h0 : s = 0:=by
   obtain rfl | rfl | rfl : s = 0∨s = 1∨s = 2:=by omega
   ·rfl
   ·exact absurd (by rw [show sgS 1 = mkS _ from rfl,vlit lit38]; decide) hc
   ·exact absurd (by rw [show sgS 2 = mkS _ from rfl,vlit lit124]; decide) hc2
  subst h0
  have hlog : ∀ a : Fin 100,a.1.log2 < 1920:=by decide +kernel
  have hd:=digits_len ha
  have hg:=glue_len (sepB 0) inner
  have hm3:=Nat.mul_le_mul_left inner.length (sepB_len 0)
  refine ⟨_,rfl,_,rfl,hlog ⟨a,ha⟩,_,_,rfl,rfl,?_,⟨_,rfl⟩,_,rfl,_,l,inner.map mkS,rfl,rfl,.inl (SqL.of hl'),by rw [litCom]; exact hsz 0,_,_,rfl,rfl,?_,_,_,rfl,rfl,?_,?_⟩
  ·rw [num_digits,litOfB,len_mkS,len_mkS]
   exact Nat.le_trans (show _ + 5≤7 by omega) (by decide)
  ·rw [num_digits,litOfB,litCom,mkS_app,mkS_join,len_mkS,len_mkS,List.length_append]
   exact Nat.le_trans (show _ + 5 + _≤16000007 by omega) (by decide)
  ·rw [num_digits,litOfB,litCom,lit41,mkS_app,mkS_join,mkS_app,len_mkS,len_mkS,List.length_append,List.length_append]
   exact Nat.le_trans (show _ + 5 + _ + 1≤16000008 by omega) (by decide)
  ·rw [num_digits,litOfB,litCom,lit41,mkS_app,mkS_join,mkS_app,mkS_app,List.append_assoc,List.append_assoc]
   exact kq
end
end Pg
end
section
set_option linter.all false
set_option maxRecDepth 100000
set_option maxHeartbeats 4000000
namespace Pg
open PySem PySem.Spec PyProof.Rows L2 Xc Sp
structure BrT (P : Program) (w : World) (K : PySem.W.Frag) (mg : Str→Option Value) : Prop where
 ex : ∃ d t1 t2 t3,mg "BRACKETED" = some (.ref d)∧(∀ h : Heap,K.In h→h.DictOf (mixKind P w) d [(Sum.inr ("&" : Str),Value.ref t1),(Sum.inr ("|" : Str),Value.ref t2),(Sum.inr ("" : Str),Value.ref t3)]) ∧
  ∀ H,SqT K H t1 [V.str "&",V.str "|"]∧SqT K H t2 [V.str "|"]∧SqT K H t3 []
theorem brNodup : [(Sum.inr ("&" : Str) : Key),Sum.inr ("|" : Str),Sum.inr ("" : Str)].Nodup:=by decide +kernel
theorem brT_mk {P : Program} {w : World} {K : PySem.W.Frag} {mg : Str→Option Value} {d t1 t2 t3 : Addr} {k1 k2 k3 k4 k5 k6 : PySem.Tok} {ep n1 n2 n3 : Nat} {o1 o2 o3 : Option Addr} {s1 s2 s3 : Array (Option Value)} (m : mg "BRACKETED" = some (.ref d))
  (l : K.lookup d = some { cls:=.type "dict",data:=.dict #[{ hash:=PyData.keyHash w.params "&",key:=.str "&" k1,val:=.ref t1 },{ hash:=PyData.keyHash w.params "|",key:=.str "|" k2,val:=.ref t2 },{ hash:=PyData.keyHash w.params "",key:=.str "" k3,val:=.ref t3 }] ep })
  (l1 : K.lookup t1 = some ⟨.type "tuple",o1,.seq #[.str "&" k4,.str "|" k5] n1,s1⟩) (l2 : K.lookup t2 = some ⟨.type "tuple",o2,.seq #[.str "|" k6] n2,s2⟩) (l3 : K.lookup t3 = some ⟨.type "tuple",o3,.seq #[] n3,s3⟩) : BrT P w K mg:=by
 refine ⟨⟨d,t1,t2,t3,m,fun h hK=>⟨_,_,_,hK _ _ l,⟨rfl,rfl,rfl⟩,rfl,fun e he=>?_,.cons (mixKind_str P w _ _) rfl (.cons (mixKind_str P w _ _) rfl (.cons (mixKind_str P w _ _) rfl .nil)),brNodup⟩,fun H=>⟨.inr ⟨_,_,_,l1,rfl,rfl,by show 2≤sizeLine; decide,.cons ⟨_,rfl⟩ (.cons ⟨_,rfl⟩ .nil)⟩,.inr ⟨_,_,_,l2,rfl,rfl,by show 1≤sizeLine; decide,.cons ⟨_,rfl⟩ .nil⟩,.inr ⟨_,_,_,l3,rfl,rfl,by show 0≤sizeLine; decide,.nil⟩⟩⟩⟩
 have he' : e ∈ [({ hash:=PyData.keyHash w.params "&",key:=.str "&" k1,val:=.ref t1 } : DictEntry),{ hash:=PyData.keyHash w.params "|",key:=.str "|" k2,val:=.ref t2 },{ hash:=PyData.keyHash w.params "",key:=.str "" k3,val:=.ref t3 }]:=by simpa using he
 simp only [List.mem_cons,List.not_mem_nil,or_false] at he'
 rcases he' with rfl | rfl | rfl
 ·exact ⟨Sum.inr "&",mixKind_str P w _ _,rfl⟩
 ·exact ⟨Sum.inr "|",mixKind_str P w _ _,rfl⟩
 ·exact ⟨Sum.inr "",mixKind_str P w _ _,rfl⟩
section
variable {X : Cx} {K : PySem.W.Frag} {P : Program} {w : World}
theorem op_inK (hK : X.K = K) : OpR X (compareOp .In) (rIn K false):=hK ▸ op_in_seq
theorem pe_tabK {x : Str} {i : Expr} {ti : TE} {p pos : Pos} {d : Addr} {vs : List (Key × Value)} (hP : X.prog = P) (hw : X.w = w) (hK : X.K = K) (hg : Gl X x) (hm : X.mg x = some (.ref d)) (D : ∀ h : Heap,K.In h→h.DictOf (mixKind P w) d vs) (hi : PE X i ti) (hs : NoSl i) (hd : (x == ("__debug__" : Str)) = false:=by decide) :
  PE X (.Subscript (.Name x p) i pos) (fun σ H Q=>ti σ H fun y H1=>∃ z t,y = .str z∧valueAt vs (Sum.inr z) = some (.ref t)∧Q (.ref t) H1):=by
 subst hP hw hK
 intro pins s σ H Q I h
 refine subD_of PySem.F.slot_dict_getitem.lookup hs (ld_glob I hg hm (thn (hi pins s σ H _ I h) fun iv s2 ⟨y,H2,I2,ry,z,t,ey,hv,q⟩=>?_) hd)
 subst ey
 have dd:=D _ I2.kIn
 exact ⟨dd.typeIs,wpAny_getItem_of (kV_is (k:=Sum.inr z) ry) dd.mapOf hv ⟨.ref t,H2,I2.tok _,rfl,q⟩⟩
end
def brk (s : Nat) : List V:=if s = 1 then [V.str "&",V.str "|"] else if s = 2 then [V.str "|"] else []
theorem brk_in {s k : Nat} (hs : s≤2) (hk : k≤2) : inV (V.str (sgS k)) (brk s) = apB s k:=by
 obtain rfl | rfl | rfl : s = 0∨s = 1∨s = 2:=by omega
 all_goals
  obtain rfl | rfl | rfl : k = 0∨k = 1∨k = 2:=by omega
  all_goals decide +kernel
theorem brk_flat {s : Nat} (hs : s≤2) : (brk s).all flatV = true:=by
 obtain rfl | rfl | rfl : s = 0∨s = 1∨s = 2:=by omega
 all_goals decide +kernel
def TT (B : Bk) (tu : Bool) (j : Nat) : List Nat:=Rb35.told B.people (turn tu (den B.P B.ns j))
def SG (B : Bk) (tu : Bool) (j : Nat) : Nat:=Rb35.kindOf (turn tu (den B.P B.ns j))
theorem sgB_le (a n : Nat) : sgB a n≤2:=by
 unfold sgB
 split
 ·omega
 ·split <;> omega
structure Few (B : Bk) : Prop where
 lv : ∀ j,j < B.ns.length→(Rb35.leaves (den B.P B.ns (B.P + j))).length≤24
 nm : ∀ x ∈ B.people,x.length≤15
section
variable {B : Bk} (good : Good B.P B.ns) (sz : Sz B) (fw : Few B) (tu : Bool)
include good fw
theorem few_in {n : NodeM} (h : n ∈ B.ns) : n.2.length≤24:=by
 obtain ⟨j,hj,e⟩:=List.mem_iff_getElem.mp h
 have h1:=fw.lv j hj
 have hn : B.ns[j]? = some n:=by rw [List.getElem?_eq_getElem hj,e]
 rw [den_node good hn] at h1
 have h2 : (Rb35.leavesIn (ofL (n.2.map (den B.P B.ns)))).length≤24:=h1
 rw [leavesIn_ofL,List.map_map] at h2
 have h3:=sum_mono (fun _=>1) (fun i=>(Rb35.leaves (den B.P B.ns i)).length) n.2 fun i hi=>leaves_pos B.ns good i (Nat.lt_of_lt_of_le ((good j n hn).1 i hi) (by omega))
 have h4 : (n.2.map fun _=>1).sum = n.2.length:=by
  have:=sum_add (fun _ : Nat=>0) 1 n.2
  have z : (n.2.map fun _=>0).sum = 0:=by
   clear this h3 h2 h1 hn e h
   induction n.2 with
   | nil=>rfl
   | cons a r ih=>rw [List.map_cons,List.sum_cons,ih]
  rw [z,Nat.mul_one] at this
  exact this.trans (Nat.zero_add _)
 rw [h4] at h3
 exact Nat.le_trans h3 h2
theorem few_lv {i : Nat} (hi : i < B.P + B.ns.length) : (Rb35.leaves (den B.P B.ns i)).length≤24:=by
 by_cases h : i < B.P
 ·rw [den_person B.ns h]; show 1≤24; omega
 ·obtain ⟨j,rfl⟩ : ∃ j,i = B.P + j:=⟨i - B.P,by omega⟩
  exact fw.lv j (by omega)
include sz
theorem few_sum {i : Nat} (hi : i < B.P + B.ns.length) : 13 * fsz (den B.P B.ns i) + 7 * (Rb35.leaves (den B.P B.ns i)).length≤15700000:=by
 have h1:=fsz_le B.ns good i hi
 have h2:=few_lv good fw hi
 have h3:=sz.nd
 have h4 : (Rb35.leaves (den B.P B.ns i)).length * (B.ns.length + 1)≤24 * 50000:=Nat.mul_le_mul h2 (by omega)
 omega
theorem TT_len {i : Nat} (hi : i < B.P + B.ns.length) : (TT B tu i).length≤15700000:=by
 have h1:=told_len (P:=B.P) B.people tu rfl fw.nm B.ns good (fun n hn=>Nat.lt_of_le_of_lt (few_in good fw hn) (by decide)) i hi
 have h2:=few_sum good sz fw hi
 unfold TT
 omega
omit sz in
theorem TT_node {j : Nat} {n : NodeM} (h : B.ns[j]? = some n) : TT B tu (B.P + j) = toldB (sgB (askd tu n.1 n.2.length) n.2.length) (askd tu n.1 n.2.length) (n.2.map fun k=>apT (sgB (askd tu n.1 n.2.length) n.2.length) (SG B tu k) (TT B tu k)):=by
 obtain ⟨g1,g2,g3⟩:=good j n h
 have hin:=askd_in (tu:=tu) g2 g3
 unfold TT
 rw [den_node good h,turn_some,List.length_map,told_node B.people hin.1 (by rw [List.length_map,List.length_map]; exact hin.2),List.length_map,List.length_map,List.map_map,List.map_map]
 rfl
omit sz in
theorem SG_node {j : Nat} {n : NodeM} (h : B.ns[j]? = some n) : SG B tu (B.P + j) = sgB (askd tu n.1 n.2.length) n.2.length:=by
 obtain ⟨g1,g2,g3⟩:=good j n h
 have hin:=askd_in (tu:=tu) g2 g3
 unfold SG
 rw [den_node good h,turn_some,List.length_map,kind_sg hin.1 (by rw [List.length_map,List.length_map]; exact hin.2),List.length_map,List.length_map]
theorem inner_sum {j : Nat} {n : NodeM} (h : B.ns[j]? = some n) (s : Nat) : ((n.2.map fun k=>apT s (SG B tu k) (TT B tu k)).map fun x=>x.length).sum + n.2.length * 3≤15700000:=by
 have hj:=(List.getElem?_eq_some_iff.mp h).1
 have h1:=inner_len B.people tu s n.1 (n.2.map (den B.P B.ns)) fun f hf=>by
  obtain ⟨k,hk,rfl⟩:=List.mem_map.mp hf
  exact told_len (P:=B.P) B.people tu rfl fw.nm B.ns good (fun n hn=>Nat.lt_of_le_of_lt (few_in good fw hn) (by decide)) k (by have:=(good j n h).1 k hk; omega)
 have h2:=few_sum good sz fw (i:=B.P + j) (by omega)
 rw [den_node good h] at h2
 rw [List.length_map,List.map_map (f:=den B.P B.ns)] at h1
 have h3 : ((n.2.map fun k=>apT s (SG B tu k) (TT B tu k)).map fun x=>x.length).sum + n.2.length * 3 + 13≤13 * fsz (.some_ n.1 (ofL (n.2.map (den B.P B.ns)))) + 7 * (Rb35.leaves (.some_ n.1 (ofL (n.2.map (den B.P B.ns))))).length:=h1
 omega
end
theorem TT_people (B : Bk) (tu : Bool) : (List.range B.P).map (TT B tu) = B.people:=by
 refine List.ext_getElem (by simp; rfl) fun i h1 h2=>?_
 have hp : i < B.P:=h2
 rw [List.getElem_map,List.getElem_range]
 unfold TT
 rw [den_person B.ns hp,turn_one]
 show B.people.getD i [] = _
 rw [List.getD_eq_getElem?_getD,List.getElem?_eq_getElem h2]
 rfl
theorem SG_people (B : Bk) (tu : Bool) : (List.range B.P).map (SG B tu) = List.replicate B.P 0:=by
 refine List.ext_getElem (by simp) fun i h1 h2=>?_
 have hp : i < B.P:=by simpa using h2
 rw [List.getElem_map,List.getElem_range,List.getElem_replicate]
 unfold SG
 rw [den_person B.ns hp,turn_one]
 rfl
def tV (l : List (List Nat)) : List V:=l.map fun x=>V.str (mkS x)
def sV (l : List Nat) : List V:=l.map fun s=>V.str (sgS s)
def spAllTold (cs : Cs) : Sp:=fun vs H Q _=>∃ (b : Addr) (A : BkA) (p : Nat) (B : Bk) (tu : Bool),vs = [.ref b,.bl tu]∧BookAt cs H b A p B∧Good B.P B.ns∧Sz B∧Few B ∧
 ∀ (D : Addr) (H' : Hp),H' D = some (.lst (tV ((List.range (B.P + B.ns.length)).map (TT B tu))))→Same H H'→Q (.ref D) H'
def spBytes (cs : Cs) : Sp:=fun vs H Q _=>∃ (b : Addr) (A : BkA) (p : Nat) (B : Bk) (k : Nat) (tu : Bool),vs = [.ref b,.int (k : Int),.bl tu]∧BookAt cs H b A p B∧Good B.P B.ns∧Sz B∧Few B∧k < B.P + B.ns.length ∧
 ∀ (D : Addr) (H' : Hp),H' D = some (.lst (nV (TT B tu k)))→Same H H'→Q (.ref D) H'
section
variable {P : Program} {w : World} {K : PySem.W.Frag} {mg : Str→Option Value} {base : Heap} {cs : Cs}
theorem sc_allTold : FnScope ["book","turned","texts","signs","node","asked","sign","inner","person","formula"] ["book","turned"] (defScope st_all_told):=⟨rfl,rfl,rfl,by decide +kernel,rfl,by decide +kernel,by decide +kernel⟩
theorem ok_allTold (T : FunT K mg "all_told" st_all_told) (BR : BrT P w K mg) (clB : Cls K cs.boo) (naB : NoAt K cs.boo ["prime","people","nodes","lets","names"]) (clN : Cls K cs.nod) (naN : NoAt K cs.nod ["asked","within"]) (hlen : mg "len" = none) (hlist : mg "list" = none)
  (AO : DefOk P w K mg base 1 "asked_of" ["node","turned"] (spAskedOf cs)) (SI : DefOk P w K mg base 1 "sign_between" ["asked","within"] spSign) (AP : DefOk P w K mg base 1 "set_apart" ["text","bracketed"] spApart) (JB : DefOk P w K mg base 1 "joined_by" ["sign","asked","inner"] (spJoinedBy K)) :
  DefOk P w K mg base 2 "all_told" ["book","turned"] (spAllTold cs):=by
 obtain ⟨f,fd,F,hm⟩:=T.ex
 obtain ⟨d,t1,t2,t3,hmd,hD,hT⟩:=BR.ex
 refine ⟨f,fd,hm,F.kp,F.binds (fun _ _ _ _ _ _ us hl=>match us,hl with | [_,_],_=>rfl),okN F sc_allTold (fun vs H Q E h=>?_) (fun cdv A outer s0 H vs Q E hr h=>?_)⟩
 ·obtain ⟨b,A,p,B,tu,rfl,_⟩:=h
  rfl
 ·obtain ⟨b,Ad,p,B,tu,rfl,R,good,sz,fw,kq⟩:=h
  obtain ⟨dx,ob⟩:=R.ob
  refine ⟨_,pss_cons (ps_set (i:=2) sc_allTold.nd rfl (Or.inr rfl) (pe_callTy call_list_of (by rfl) hlist PyProof.Rows.boot_list (pa_cons (pe_fld (pv 0) rfl) pa_nil)))
   (pss_cons (ps_set (i:=3) sc_allTold.nd rfl (Or.inr rfl) (pe_lc rfl sc_allTold.nd (pi_list (pe_fld (pv 0) rfl)) (blkOk_by (own:=[("person",8)]) (by show blkC ["book","turned","texts","signs","node","asked","sign","inner","person","formula"] (defScope st_all_told) _ [("person",8)] = true; decide +kernel))
    (fun _ _ _ _ _=>pg_name (i:=8) sc_allTold.nd rfl (Or.inl rfl)) (fun _ _ _ _ _=>pts_nil) (fun _ _ _ _ _=>pe_str)))
   (pss_cons (ps_for PassesOwn.never rfl (pi_list (pe_fld (pv 0) rfl)) (pg_name (i:=4) sc_allTold.nd rfl (Or.inl rfl))
    (pss_cons (ps_set (i:=5) sc_allTold.nd rfl (Or.inl rfl) (pe_def AO hr rfl pass_no (pa_cons (pv 4) (pa_cons (pv 1) pa_nil))))
    (pss_cons (ps_set (i:=6) sc_allTold.nd rfl (Or.inr rfl) (pe_def SI hr rfl pass_no (pa_cons (pv 5) (pa_cons (pe_callB call_len_seq (by rfl) hlen PySem.boot_len (pa_cons (pe_fld (pv 4) rfl) pa_nil)) pa_nil))))
    (pss_cons (ps_setLc (i:=7) rfl sc_allTold.nd rfl rfl (sw_true rfl rfl rfl (by decide +kernel)) (pi_list (pe_fld (pv 4) rfl)) (blkOk_by (own:=[("formula",9)]) (by show blkC ["book","turned","texts","signs","node","asked","sign","inner","person","formula"] (defScope st_all_told) _ [("formula",9)] = true; decide +kernel))
     (fun _ _ _ _ _=>pg_name (i:=9) sc_allTold.nd rfl (Or.inl rfl)) (fun _ _ _ _ _=>pts_nil)
     (fun _ _ _ _ _=>pe_def (k:=1) AP hr (by rfl) pass_no (pa_cons (pe_ix (ix_listK (K:=K) rfl) (pv 2) (pv 9) (fun _ _=>rfl)) (pa_cons (pe_cmpR (op_inK (K:=K) rfl) (pe_ix (ix_listK (K:=K) rfl) (pv 3) (pv 9) (fun _ _=>rfl)) (pe_tabK rfl rfl rfl (by rfl) hmd hD (pv 6) (fun _ _=>rfl)) (by rfl)) pa_nil))))
    (pss_cons (ps_expr (pe_bm PySem.F.plainAttrs_list PySem.F.slot_list_append PySem.F.type_list_append mt_append (pv 2) (pa_cons (pe_def JB hr rfl pass_no (pa_cons (pv 6) (pa_cons (pv 5) (pa_cons (pv 7) pa_nil)))) pa_nil)))
    (pss_one (ps_expr (pe_bm PySem.F.plainAttrs_list PySem.F.slot_list_append PySem.F.type_list_append mt_append (pv 3) (pa_cons (pv 6) pa_nil)))))))))
   (pss_one (ps_ret (pv 2))))),?_⟩
  refine ⟨_,rfl,b,cs.boo,dx,_,_,rfl,ob,clB,naB _ (by simp),bkF_people _ _ _ _ _,Ad.pa,_,rfl,.inl (SqL.of R.people),fun ta hta=>?_⟩
  have s1 : Same H (upd H ta (.lst (B.people.map fun x=>V.str (mkS x)))):=fun c o q=>by rw [upd_ne (ne_of_none q hta)]; exact q
  refine ⟨_,rfl,b,cs.boo,dx,_,_,rfl,s1 _ _ ob,clB,naB _ (by simp),bkF_people _ _ _ _ _,Ad.pa,rfl,⟨_,SqL.of (s1 _ _ R.people)⟩,fun sa hsa=>?_⟩
  have nts : ta ≠ sa:=fun z=>by rw [← z,upd_same] at hsa; cases hsa
  have osa : H sa = none:=by rw [upd_ne nts.symm] at hsa; exact hsa
  refine lc_list (xs:=B.people.map fun x=>V.str (mkS x)) (fun i H'=>H' = upd (upd H ta (.lst (B.people.map fun x=>V.str (mkS x)))) sa (.lst (sV (List.replicate i 0)))) rfl ?_ ?_ ?_
  ·rintro i H' _ rfl
   exact SqL.of (by rw [upd_ne (ne_of_none (s1 _ _ R.people) hsa)]; exact s1 _ _ R.people)
  ·rintro i x H' hx rfl
   have hi : i < B.people.length:=by have:=(List.getElem?_eq_some_iff.mp hx).1; rwa [List.length_map] at this
   refine ⟨rfl,_,upd_same,?_,?_⟩
   ·unfold sV
    rw [List.length_map,List.length_replicate]
    exact Nat.lt_trans (Nat.lt_trans hi sz.pe) (by decide)
   ·rw [upd_upd,List.replicate_succ']
    unfold sV
    rw [List.map_append]
    show _ = upd _ sa (.lst (_++[V.str (mkS [])]))
    rw [litNo]
  rintro H1 rfl
  have s2 : Same H (upd (upd H ta (.lst (B.people.map fun x=>V.str (mkS x)))) sa (.lst (sV (List.replicate (B.people.map fun x=>V.str (mkS x)).length 0)))):=fun c o q=>by rw [upd_ne (ne_of_none q osa)]; exact s1 c o q
  refine ⟨_,rfl,b,cs.boo,dx,_,_,rfl,s2 _ _ ob,clB,naB _ (by simp),bkF_nodes _ _ _ _ _,Ad.na,rfl,⟨_,SqL.of (s2 _ _ R.nodes)⟩,?_⟩
  refine for_list (xs:=Ad.nds.map fun x=>V.ref x.1) (fun i σ H'=>(∃ x4 x5 x6 x7 x8 x9,σ = [some (.ref b),some (.bl tu),some (.ref ta),some (.ref sa),x4,x5,x6,x7,x8,x9])∧H' ta = some (.lst (tV ((List.range (B.P + i)).map (TT B tu))))∧H' sa = some (.lst (sV ((List.range (B.P + i)).map (SG B tu))))∧Same H H')
   ⟨⟨_,_,_,_,_,_,rfl⟩,?_,?_,s2⟩ ?_ ?_ ?_
  ·rw [upd_ne nts,upd_same,Nat.add_zero,TT_people]
   rfl
  ·rw [upd_same,Nat.add_zero,SG_people,List.length_map]
   rfl
  ·rintro i σ H' _ ⟨_,_,_,s3⟩
   exact SqL.of (s3 _ _ R.nodes)
  ·rintro i x σ H' hx ⟨⟨x4,x5,x6,x7,x8,x9,rfl⟩,h1,h2,s3⟩
   rw [List.getElem?_map] at hx
   cases hq : Ad.nds[i]? with
   | none=>rw [hq] at hx; cases hx
   | some nd =>
    rw [hq] at hx
    cases hx
    have hi : i < B.ns.length:=by rw [← R.len]; exact (List.getElem?_eq_some_iff.mp hq).1
    have hn : B.ns[i]? = some B.ns[i]:=List.getElem?_eq_getElem hi
    have hw:=few_in good fw (List.getElem_mem hi)
    generalize B.ns[i] = n at hn hw
    obtain ⟨g1,g2,g3⟩:=good i n hn
    have hin:=askd_in (tu:=tu) g2 g3
    have NA : NodeAt cs H' nd n:=by
     obtain ⟨⟨dn,n1⟩,n2⟩:=R.at_ i nd n hq hn
     exact ⟨⟨dn,s3 _ _ n1⟩,s3 _ _ n2⟩
    obtain ⟨⟨dn,n1⟩,n2⟩:=id NA
    have hsg:=sgB_le (askd tu n.1 n.2.length) n.2.length
    have eT:=TT_node good fw tu hn
    have eS:=SG_node good fw tu hn
    have eZ:=inner_sum good sz fw tu hn (sgB (askd tu n.1 n.2.length) n.2.length)
    rw [← eS] at hsg eT eZ
    refine ⟨_,rfl,_,rfl,nd.1,nd.2,n,tu,rfl,NA,g3,?_⟩
    refine ⟨_,rfl,_,rfl,nd.1,cs.nod,dn,_,_,rfl,n1,clN,naN _ (by simp),ndF_within _ _,_,_,rfl,.inl (SqL.of n2),askd tu n.1 n.2.length,n.2.length,by rw [nV_length]; rfl,?_⟩
    rw [← eS]
    refine ⟨_,rfl,nd.1,cs.nod,dn,_,_,rfl,n1,clN,naN _ (by simp),ndF_within _ _,nd.2,rfl,⟨_,SqL.of n2⟩,fun D2 hD2=>?_⟩
    have nD : ∀ {c : Addr} {o : HO},H' c = some o→c ≠ D2:=fun z=>ne_of_none z hD2
    refine lc_list (xs:=nV n.2) (fun j H2=>H2 = upd H' D2 (.lst (tV ((n.2.take j).map fun k=>apT (SG B tu (B.P + i)) (SG B tu k) (TT B tu k))))) rfl ?_ ?_ ?_
    ·rintro j H2 _ rfl
     exact SqL.of (by rw [upd_ne (nD n2)]; exact n2)
    ·rintro j y H2 hy rfl
     unfold nV at hy
     rw [List.getElem?_map] at hy
     cases hk : n.2[j]? with
     | none=>rw [hk] at hy; cases hy
     | some k =>
      rw [hk] at hy
      cases hy
      have hkl : k < B.P + i:=g1 k (List.mem_of_getElem? hk)
      have hj : j < n.2.length:=(List.getElem?_eq_some_iff.mp hk).1
      have hTk:=TT_len good sz fw tu (i:=k) (by omega)
      have hSk : SG B tu k≤2:=kind_le _
      have at1 : (tV ((List.range (B.P + i)).map (TT B tu)))[k]? = some (V.str (mkS (TT B tu k))):=by
       unfold tV
       rw [List.getElem?_map,List.getElem?_map,List.getElem?_range hkl]
       rfl
      have at2 : (sV ((List.range (B.P + i)).map (SG B tu)))[k]? = some (V.str (sgS (SG B tu k))):=by
       unfold sV
       rw [List.getElem?_map,List.getElem?_map,List.getElem?_range hkl]
       rfl
      refine ⟨rfl,_,rfl,_,rfl,ta,_,_,_,rfl,rfl,SqL.of (by rw [upd_ne (nD h1)]; exact h1),at_of (j:=k) rfl at1,_,rfl,_,rfl,sa,_,_,_,rfl,rfl,SqL.of (by rw [upd_ne (nD h2)]; exact h2),at_of (j:=k) rfl at2,_,rfl,?_⟩
      have tab : ∃ t,valueAt (K:=Key) [(Sum.inr ("&" : Str),Value.ref t1),(Sum.inr ("|" : Str),Value.ref t2),(Sum.inr ("" : Str),Value.ref t3)] (Sum.inr (sgS (SG B tu (B.P + i)))) = some (Value.ref t)∧∀ H,SqT K H t (brk (SG B tu (B.P + i))):=by
       obtain e | e | e : SG B tu (B.P + i) = 0∨SG B tu (B.P + i) = 1∨SG B tu (B.P + i) = 2:=by omega
       ·rw [e]
        refine ⟨t3,?_,fun H=>(hT H).2.2⟩
        rw [lit38,lit124,litNo]
        rfl
       ·rw [e]
        refine ⟨t1,?_,fun H=>(hT H).1⟩
        rw [lit38,lit124,litNo]
        rfl
       ·rw [e]
        refine ⟨t2,?_,fun H=>(hT H).2.1⟩
        rw [lit38,lit124,litNo]
        rfl
      obtain ⟨t,ht,hSq⟩:=tab
      refine ⟨_,t,rfl,ht,t,_,rfl,.inr (hSq _),rfl,brk_flat hsg,TT B tu k,_,rfl,by omega,?_⟩
      refine ⟨_,upd_same,?_,?_⟩
      ·unfold tV
       rw [List.length_map,List.length_map,List.length_take]
       exact Nat.lt_of_le_of_lt (Nat.min_le_left _ _) (Nat.lt_of_lt_of_le hj (Nat.le_trans hw (by decide)))
      ·rw [upd_upd,List.take_succ,hk]
       unfold tV
       rw [Option.toList_some,List.map_append,List.map_append]
       show _ = upd H' D2 (.lst (_++[V.str (mkS (apT (SG B tu (B.P + i)) (SG B tu k) (TT B tu k)))]))
       unfold apT
       rw [← brk_in hsg hSk]
       rfl
    ·rintro H2 rfl
     rw [nV_length,List.take_length]
     have q1 : (upd H' D2 (.lst (tV (n.2.map fun k=>apT (SG B tu (B.P + i)) (SG B tu k) (TT B tu k))))) ta = some (.lst (tV ((List.range (B.P + i)).map (TT B tu)))):=by rw [upd_ne (nD h1)]; exact h1
     have q2 : (upd H' D2 (.lst (tV (n.2.map fun k=>apT (SG B tu (B.P + i)) (SG B tu k) (TT B tu k))))) sa = some (.lst (sV ((List.range (B.P + i)).map (SG B tu)))):=by rw [upd_ne (nD h2)]; exact h2
     have hsz : B.P + i < 100000:=by
      have h1:=sz.pe
      have h2:=sz.nd
      have h3 : B.P = B.people.length:=rfl
      omega
     refine ⟨_,rfl,.inl ⟨rfl,_,SqL.of q1⟩,_,rfl,_,rfl,_,rfl,SG B tu (B.P + i),askd tu n.1 n.2.length,D2,_,rfl,hsg,by omega,upd_same,?_,ta,_,_,rfl,rfl,q1,?_,?_⟩
     ·rw [List.length_map]; omega
     ·unfold tV
      rw [List.length_map,List.length_map,List.length_range]
      exact Nat.lt_trans hsz line100000
     have q3 : (upd (upd H' D2 (.lst (tV (n.2.map fun k=>apT (SG B tu (B.P + i)) (SG B tu k) (TT B tu k))))) ta (.lst (tV ((List.range (B.P + i)).map (TT B tu))++[V.str (mkS (toldB (SG B tu (B.P + i)) (askd tu n.1 n.2.length) (n.2.map fun k=>apT (SG B tu (B.P + i)) (SG B tu k) (TT B tu k))))]))) sa = some (.lst (sV ((List.range (B.P + i)).map (SG B tu)))):=by rw [upd_ne nts.symm]; exact q2
     refine ⟨_,rfl,.inl ⟨rfl,_,SqL.of q3⟩,_,rfl,sa,_,_,rfl,rfl,q3,?_,⟨_,_,_,_,_,_,rfl⟩,?_,?_,fun c o q=>?_⟩
     ·unfold sV
      rw [List.length_map,List.length_map,List.length_range]
      exact Nat.lt_trans hsz line100000
     ·rw [upd_ne nts,upd_same,← eT]
      show _ = some (HO.lst (tV ((List.range (B.P + i + 1)).map (TT B tu))))
      rw [List.range_succ,List.map_append]
      unfold tV
      rw [List.map_append]
      rfl
     ·rw [upd_same]
      show _ = some (HO.lst (sV ((List.range (B.P + i + 1)).map (SG B tu))))
      rw [List.range_succ,List.map_append]
      unfold sV
      rw [List.map_append]
      rfl
     ·rw [upd_ne (ne_of_none q osa),upd_ne (ne_of_none q hta),upd_ne (nD (s3 _ _ q))]
      exact s3 _ _ q
  ·rintro σ H' ⟨⟨x4,x5,x6,x7,x8,x9,rfl⟩,h1,h2,s3⟩
   rw [List.length_map,R.len] at h1
   exact ⟨_,rfl,kq ta H' h1 s3⟩
end
end Pg
end
section
set_option linter.all false
set_option maxRecDepth 100000
set_option maxHeartbeats 4000000
namespace Pg
open PySem PySem.Spec PyProof.Rows L2 Xc Sp
def spNoMore (tm : Addr) : Sp:=fun vs H Q E=>∃ (n : Addr) (xs : List Nat) (m : Int),vs = [.int m,.ref n]∧H n = some (.lst (nV xs))∧xs.length + 1≤sizeLine∧(¬ m < (xs.length : Int)→∀ l H',H' l = some (.lst (nV (xs.length::xs)))→Same H H'→Q (.ref l) H')∧(m < (xs.length : Int)→Thr E tm (-1))
section
variable {P : Program} {w : World} {K : PySem.W.Frag} {mg : Str→Option Value} {base : Heap} {cs : Cs} {tm : Addr}
theorem sc_TooMany : FnScope ["self"] ["self"] (defScope st_TooMany_init):=⟨rfl,rfl,rfl,by decide +kernel,rfl,by decide +kernel,by decide +kernel⟩
theorem ok_TooMany (T : ExcsT K mg cs) (X : OwnT K mg "TooMany" "TooMany.__init__" st_TooMany_init tm) : ExcOk P w K mg base 2 "TooMany" tm ["self"] (spOwn0 K tm (-1)):=by
 obtain ⟨fR,fdR,FR,cm⟩:=T.ref
 obtain ⟨f,fd,F,M,hm⟩:=X.exc.ex
 refine ⟨f,fd,hm,M,F.binds (fun _ _ _ _ _ _ us hl=>match us,hl with | [_],_=>rfl),okN F sc_TooMany (fun vs H Q E h=>?_) (fun cdv A outer s H vs Q E hr h=>?_)⟩
 ·obtain ⟨x,rfl,_⟩:=h
  rfl
 ·obtain ⟨x,rfl,hx,kq⟩:=h
  refine ⟨_,pss_one (ps_expr (pe_clsCall rfl T.mref cm (ok_Refusal FR) hr (binds_Refusal FR) pass_no (pa_cons (pv 0) (pa_cons (pe_un un_neg pe_int) pa_nil)))),?_⟩
  refine ⟨_,rfl,_,rfl,x,tm,-1,rfl,hx,X.exc.cls,X.nn,fun dx H' h1 h2 h3 h4=>kq dx H' h1 h2 h3 h4⟩
theorem sc_noMore : FnScope ["most","numbers"] ["most","numbers"] (defScope st_no_more):=⟨rfl,rfl,rfl,by decide +kernel,rfl,by decide +kernel,by decide +kernel⟩
theorem ok_noMore (T : FunT K mg "no_more" st_no_more) (hlen : mg "len" = none) (TM : ExcOk P w K mg base 2 "TooMany" tm ["self"] (spOwn0 K tm (-1))) (CO : DefOk P w K mg base 1 "counted" ["numbers"] spCounted) : DefOk P w K mg base 4 "no_more" ["most","numbers"] (spNoMore tm):=by
 obtain ⟨f,fd,F,hm⟩:=T.ex
 obtain ⟨fC,fdC,hmC,MC,bC,GC⟩:=TM.ex
 refine ⟨f,fd,hm,F.kp,F.binds (fun _ _ _ _ _ _ us hl=>match us,hl with | [_,_],_=>rfl),okX F sc_noMore (fun vs H Q E h=>?_) (fun cdv A outer s H vs Q E hr h=>?_)⟩
 ·obtain ⟨n,xs,m,rfl,_⟩:=h
  rfl
 ·obtain ⟨n,xs,m,rfl,hn,hz,kq,kx⟩:=h
  refine ⟨_,pss_cons (ps_if (pt_cmpR op_gt (pe_callB call_len_seq (by rfl) hlen PySem.boot_len (pa_cons (pv 1) pa_nil)) (pv 0) (nomark _)) (pss_one (ps_raise0 MC GC hr bC rfl hmC)) pss_nil)
   (pss_one (ps_ret (pe_def (CO.mono (by decide : 1≤3)) hr rfl pass_no (pa_cons (pv 1) pa_nil)))),?_⟩
  refine ⟨_,rfl,_,_,rfl,.inl (SqL.of hn),_,rfl,_,_,rfl,rfl,_,rfl,ite2 (fun hc=>?_) fun hc=>?_⟩
  ·have h1:=of_decide_eq_true hc
   rw [nV_length] at h1
   exact thr_raise (kx h1) _
  ·have h1 : ¬ m < ((nV xs).length : Int):=fun z=>hc (decide_eq_true z)
   rw [nV_length] at h1
   exact ⟨_,rfl,n,xs,rfl,hn,hz,kq h1⟩
end
end Pg
end
section
set_option linter.all false
set_option maxRecDepth 100000
set_option maxHeartbeats 4000000
namespace Pg
open PySem PySem.Spec PyProof.Rows L2 Xc Sp
section
variable {K : PySem.W.Frag} {h : Heap} {mg : Str→Option Value} {x m qual : Str} {st : Stmt} {C f : Addr} {oc kV doc pm cdv ct : Value} {od an : Option Addr} {sl : Array (Option Value)}
theorem fun_top (X : K.In h) (G : h.Ns mainGlobals mg) (m : PySem.W.nsIn K mainGlobals x = some (some (.ref f))) (l : K.lookup f = some ⟨oc,od,.func (PySem.W.fnOf x x (defArgs st) (defBody st) (defScope st) .none kV doc pm an cdv ct),sl⟩) (c : PySem.W.codeIn K cdv x = true)
  (k : PySem.W.keepIn K (.ref f) = true) : FunT K mg x st:=⟨⟨_,_,fun_mk l c k,PySem.W.mg_of X G m⟩⟩
theorem met_top (i : PySem.W.findIn K (.ref C) m = some (some (.ref f))) (n : PySem.W.isFn K (.ref f) = true) (l : K.lookup f = some ⟨oc,od,.func (PySem.W.fnOf m qual (defArgs st) (defBody st) (defScope st) .none kV doc pm an cdv ct),sl⟩) (c : PySem.W.codeIn K cdv qual = true)
  (k : PySem.W.keepIn K (.ref f) = true) : MetT K C m qual st:=⟨⟨_,_,fun_mk l c k,⟨i,n,k⟩⟩⟩
theorem cla_top (X : K.In h) (G : h.Ns mainGlobals mg) (m : PySem.W.nsIn K mainGlobals x = some (some (.ref C))) (t : PySem.W.makesIn K C = true) (i : PySem.W.findIn K (.ref C) "__init__" = some (some (.ref f))) (n : PySem.W.isFn K (.ref f) = true) (u : PySem.W.keepIn K (.ref C) = true)
  (l : K.lookup f = some ⟨oc,od,.func (PySem.W.fnOf "__init__" qual (defArgs st) (defBody st) (defScope st) .none kV doc pm an cdv ct),sl⟩) (c : PySem.W.codeIn K cdv qual = true) (k : PySem.W.keepIn K (.ref f) = true) : ClaT K mg x C qual st :=
 ⟨⟨_,_,fun_mk l c k,⟨t,i,n,u⟩,PySem.W.mg_of X G m⟩⟩
theorem exc_top {nm q : Str} {N : Addr} {bs bm sub : List Value} {hdc ab : Bool} {sn : List Str} {col : Option Bool} {dd : Option Addr} {s0 s1 s2 s3 s5 : Option Value} (X : K.In h) (G : h.Ns mainGlobals mg) (m : PySem.W.nsIn K mainGlobals x = some (some (.ref C)))
  (t : K.lookup C = some (excClassObj nm q C N bs bm hdc sn sub ab col dd s0 s1 s2 s3 s5 "Exception.__new__")) (i : PySem.W.findIn K (.ref C) "__init__" = some (some (.ref f)))
  (l : K.lookup f = some ⟨.type "function",od,.func (PySem.W.fnOf "__init__" qual (defArgs st) (defBody st) (defScope st) .none kV doc pm an cdv ct),sl⟩) (c : PySem.W.codeIn K cdv qual = true) (k : PySem.W.keepIn K (.ref f) = true) (u : PySem.W.keepIn K (.ref C) = true)
  (a : PySem.W.findIn K (.ref C) "__setattr__" = some (some (.builtin "object.__setattr__"))) (o : excOver K C = true) (d : PySem.W.hasDictIn K C = true)
  (b : (bm.contains (.type "Exception") && !bm.contains (.type "AttributeError") && !bm.contains (.type "NameError") && bm.contains (.type "BaseException")) = true) : ExcT K mg x C qual st:=by
 simp only [Bool.and_eq_true,Bool.not_eq_true'] at b
 exact ⟨⟨_,_,fun_mk l c k,⟨⟨_,_,_,_,_,_,_,_,_,_,_,_,_,_,_,_,t,b.1.1.1,b.1.1.2,b.1.2,b.2⟩,i,⟨_,l,rfl⟩,u⟩,PySem.W.mg_of X G m⟩,⟨a,o,d⟩⟩
theorem noat_nil : NoAt K C []:=fun _ h=>by simp at h
theorem noat_cons {f : Str} {l : List Str} (a : PySem.W.findIn K (.ref C) f = some none) (b : NoAt K C l) : NoAt K C (f::l):=fun g hg=>by
 rcases List.mem_cons.mp hg with rfl | hg
 ·exact a
 ·exact b g hg
end
structure Base (K : PySem.W.Frag) (mg : Str→Option Value) (cs : Cs) : Prop where
 co : CsOk cs
 clN : Cls K cs.nod
 naN : NoAt K cs.nod ["asked","within"]
 clB : Cls K cs.boo
 naB : NoAt K cs.boo ["prime","people","nodes","lets","names"]
 excs : ExcsT K mg cs
 cat : CatT K cs
 len : mg "len" = none
 any : mg "any" = none
 all : mg "all" = none
 range : mg "range" = none
 sum : mg "sum" = none
 ord : mg "ord" = none
 mboo : mg "Book" = some (.ref cs.boo)
 book : ∀ (P : Program) (w : World) (base : Heap),DefOk P w K mg base 10 "book_of" ["text"] (spBookOf K cs)
theorem base_mk {K : PySem.W.Frag} {mg : Str→Option Value} {nod boo tok bra rea ref oor ovl cst fr a_kw a_bb : Addr} {oc kV doc pm cdv ct : Value} {od an od_kw od_bb : Option Addr} {sl sl_kw sl_bb : Array (Option Value)} {cd : ClassData} {t1 t2 t3 t4 t5 t6 t7 : PySem.Tok} {n_kw n_bb : Nat}
  (t_nod : ClaT K mg "Node" nod "Node.__init__" st_Node_init)
  (cl_nod : Cls K nod)
  (na_nod : NoAt K nod ["asked","within"])
  (t_boo : ClaT K mg "Book" boo "Book.__init__" st_Book_init)
  (cl_boo : Cls K boo)
  (na_boo : NoAt K boo ["prime","people","nodes","lets","names"])
  (t_boo_add_person : MetT K boo "add_person" "Book.add_person" st_Book_add_person)
  (t_boo_add_node : MetT K boo "add_node" "Book.add_node" st_Book_add_node)
  (t_boo_add_let : MetT K boo "add_let" "Book.add_let" st_Book_add_let)
  (t_tok : ClaT K mg "Token" tok "Token.__init__" st_Token_init)
  (cl_tok : Cls K tok)
  (na_tok : NoAt K tok ["kind","word","place"])
  (t_bra : ClaT K mg "Bracket" bra "Bracket.__init__" st_Bracket_init)
  (cl_bra : Cls K bra)
  (na_bra : NoAt K bra ["asked","formulas","boths","parts"])
  (t_bra_end_both : MetT K bra "end_both" "Bracket.end_both" st_Bracket_end_both)
  (t_bra_end_formula : MetT K bra "end_formula" "Bracket.end_formula" st_Bracket_end_formula)
  (t_rea : ClaT K mg "Reader" rea "Reader.__init__" st_Reader_init)
  (cl_rea : Cls K rea)
  (na_rea : NoAt K rea ["tokens","at"])
  (t_rea_now : MetT K rea "now" "Reader.now" st_Reader_now)
  (t_rea_take : MetT K rea "take" "Reader.take" st_Reader_take)
  (t_rea_take_written : MetT K rea "take_written" "Reader.take_written" st_Reader_take_written)
  (t_rea_take_new_name : MetT K rea "take_new_name" "Reader.take_new_name" st_Reader_take_new_name)
  (t_rea_take_known_name : MetT K rea "take_known_name" "Reader.take_known_name" st_Reader_take_known_name)
  (t_rea_take_prime : MetT K rea "take_prime" "Reader.take_prime" st_Reader_take_prime)
  (t_rea_take_asked : MetT K rea "take_asked" "Reader.take_asked" st_Reader_take_asked)
  (t_joined : FunT K mg "joined" st_joined)
  (t_closed : FunT K mg "closed" st_closed)
  (t_is_field : FunT K mg "is_field" st_is_field)
  (t_end_of_signs : FunT K mg "end_of_signs" st_end_of_signs)
  (t_run_end : FunT K mg "run_end" st_run_end)
  (t_kind_of : FunT K mg "kind_of" st_kind_of)
  (t_row_of : FunT K mg "row_of" st_row_of)
  (t_tokens_of : FunT K mg "tokens_of" st_tokens_of)
  (t_all_places : FunT K mg "all_places" st_all_places)
  (t_keep_limits : FunT K mg "keep_limits" st_keep_limits)
  (t_begin_brackets : FunT K mg "begin_brackets" st_begin_brackets)
  (t_close_brackets : FunT K mg "close_brackets" st_close_brackets)
  (t_read_between : FunT K mg "read_between" st_read_between)
  (t_read_formula : FunT K mg "read_formula" st_read_formula)
  (t_read_field : FunT K mg "read_field" st_read_field)
  (t_read_people : FunT K mg "read_people" st_read_people)
  (t_read_let : FunT K mg "read_let" st_read_let)
  (t_book_of : FunT K mg "book_of" st_book_of)
  (m_ref : mg "Refusal" = some (.ref ref))
  (fc_ref : PySem.W.findCls K (.ref ref) (.type "type") "__init__" = some (.val (.ref fr)))
  (l_ref : K.lookup fr = some ⟨oc,od,.func (PySem.W.fnOf "__init__" "Refusal.__init__" (defArgs st_Refusal_init) (defBody st_Refusal_init) (defScope st_Refusal_init) .none kV doc pm an cdv ct),sl⟩)
  (c_ref : PySem.W.codeIn K cdv "Refusal.__init__" = true)
  (k_ref : PySem.W.keepIn K (.ref fr) = true)
  (rd_ref : PySem.W.readsIn K ref (.type "type") = true)
  (ga_ref : PySem.W.specialIn K (.ref ref) "__getattribute__" = some (some (.builtin "type.__getattribute__")))
  (nt_ref : PySem.W.instIn K (.ref ref) (.type "tuple") = some false)
  (it_ref : PySem.W.clsIn K ref = some cd)
  (ie_ref : PySem.W.subIn K (.ref ref) (.type "BaseException") = some true)
  (t_oor : ExcT K mg "OutOfRange" oor "OutOfRange.__init__" st_OutOfRange_init)
  (nn_oor : PySem.W.findIn K (.ref oor) "number" = some none)
  (su_oor : PySem.W.subIn K (.ref oor) (.ref ref) = some true)
  (gx_oor : GetX K oor)
  (t_ovl : ExcT K mg "OverLimit" ovl "OverLimit.__init__" st_OverLimit_init)
  (nn_ovl : PySem.W.findIn K (.ref ovl) "number" = some none)
  (su_ovl : PySem.W.subIn K (.ref ovl) (.ref ref) = some true)
  (gx_ovl : GetX K ovl)
  (t_cst : ExcT K mg "CannotStand" cst "CannotStand.__init__" st_CannotStand_init)
  (nn_cst : PySem.W.findIn K (.ref cst) "number" = some none)
  (su_cst : PySem.W.subIn K (.ref cst) (.ref ref) = some true)
  (gx_cst : GetX K cst)
  (z_len : mg "len" = none)
  (z_int : mg "int" = none)
  (z_all : mg "all" = none)
  (z_any : mg "any" = none)
  (z_range : mg "range" = none)
  (z_sum : mg "sum" = none)
  (z_ord : mg "ord" = none)
  (z_dict : mg "dict" = none)
  (w_NAME : ∃ t,mg "NAME" = some (.str "name" t))
  (w_NUMBER : ∃ t,mg "NUMBER" = some (.str "number" t))
  (w_OTHER : ∃ t,mg "OTHER" = some (.str "other" t))
  (w_END : ∃ t,mg "END" = some (.str "end" t))
  (w_LETTERS : ∃ t,mg "LETTERS" = some (.str "abcdefghijklmnopqrstuvwxyz" t))
  (w_DIGITS : ∃ t,mg "DIGITS" = some (.str "0123456789" t))
  (w_WORD_SIGNS : ∃ t,mg "WORD_SIGNS" = some (.str "abcdefghijklmnopqrstuvwxyz0123456789_" t))
  (w_OTHER_SIGNS : ∃ t,mg "OTHER_SIGNS" = some (.str "(),;=&|#\n" t))
  (w_LONGEST_WORD : ∃ t,mg "LONGEST_WORD" = some (.int 15 t))
  (w_LONGEST_NUMBER : ∃ t,mg "LONGEST_NUMBER" = some (.int 5 t))
  (w_GREATEST_PRIME : ∃ t,mg "GREATEST_PRIME" = some (.int 251 t))
  (w_MOST_PEOPLE : ∃ t,mg "MOST_PEOPLE" = some (.int 10 t))
  (w_MOST_LETS : ∃ t,mg "MOST_LETS" = some (.int 16 t))
  (w_MOST_PLACES : ∃ t,mg "MOST_PLACES" = some (.int 24 t))
  (w_LONGEST_TEXT : ∃ t,mg "LONGEST_TEXT" = some (.int 65536 t))
  (v_KW : mg "KEPT_WORDS" = some (.ref a_kw))
  (l_KW : K.lookup a_kw = some ⟨.type "tuple",od_kw,.seq #[.str "field" t1,.str "who" t2,.str "let" t3,.str "of" t4] n_kw,sl_kw⟩)
  (v_BB : mg "BLANK_BYTES" = some (.ref a_bb))
  (l_BB : K.lookup a_bb = some ⟨.type "tuple",od_bb,.seq #[.int 9 t5,.int 13 t6,.int 32 t7] n_bb,sl_bb⟩)
  (d1 : nod ≠ boo)
  (d2 : bra ≠ nod)
  (d3 : bra ≠ boo)
  (d4 : rea ≠ nod)
  (d5 : rea ≠ boo)
  (d6 : rea ≠ bra)
  : Base K mg ⟨nod,boo,tok,bra,rea,ref,oor,ovl,cst⟩:=by
 have co : CsOk (⟨nod,boo,tok,bra,rea,ref,oor,ovl,cst⟩ : Cs):=⟨d1,d2,d3,d4,d5,d6⟩
 have EX : ExcsT K mg ⟨nod,boo,tok,bra,rea,ref,oor,ovl,cst⟩:=⟨⟨_,_,fun_mk l_ref c_ref k_ref,⟨rd_ref,fc_ref,ga_ref,k_ref⟩⟩,m_ref,t_oor,t_ovl,t_cst,nn_oor,nn_ovl,nn_cst⟩
 have CT : CatT K ⟨nod,boo,tok,bra,rea,ref,oor,ovl,cst⟩:=⟨⟨nt_ref,by rw [it_ref]; rfl,ie_ref⟩,su_oor,su_ovl,su_cst,gx_oor,gx_ovl,gx_cst⟩
 have w_KW : ∃ a,mg "KEPT_WORDS" = some (.ref a)∧∀ H,SqT K H a [V.str "field",V.str "who",V.str "let",V.str "of"]:=⟨_,v_KW,fun H=>.inr ⟨_,_,_,l_KW,rfl,rfl,by show 4≤sizeLine; decide,.cons ⟨_,rfl⟩ (.cons ⟨_,rfl⟩ (.cons ⟨_,rfl⟩ (.cons ⟨_,rfl⟩ .nil)))⟩⟩
 have w_BB : ∃ a,mg "BLANK_BYTES" = some (.ref a)∧∀ H,SqT K H a [V.int 9,V.int 13,V.int 32]:=⟨_,v_BB,fun H=>.inr ⟨_,_,_,l_BB,rfl,rfl,by show 3≤sizeLine; decide,.cons ⟨_,rfl⟩ (.cons ⟨_,rfl⟩ (.cons ⟨_,rfl⟩ .nil))⟩⟩
 refine ⟨co,cl_nod,na_nod,cl_boo,na_boo,EX,CT,z_len,z_any,z_all,z_range,z_sum,z_ord,(let ⟨_,_,_,_,h⟩:=t_boo.ex; h),fun P w base=>?_⟩
 have oNode:=ok_Node (P:=P) (w:=w) (base:=base) (cs:=⟨nod,boo,tok,bra,rea,ref,oor,ovl,cst⟩) t_nod cl_nod na_nod
 have oBook:=ok_Book (P:=P) (w:=w) (base:=base) (cs:=⟨nod,boo,tok,bra,rea,ref,oor,ovl,cst⟩) t_boo cl_boo na_boo
 have oToken:=ok_Token (P:=P) (w:=w) (base:=base) (cs:=⟨nod,boo,tok,bra,rea,ref,oor,ovl,cst⟩) t_tok cl_tok na_tok
 have oBracket:=ok_Bracket (P:=P) (w:=w) (base:=base) (cs:=⟨nod,boo,tok,bra,rea,ref,oor,ovl,cst⟩) t_bra cl_bra na_bra
 have oReader:=ok_Reader (P:=P) (w:=w) (base:=base) (cs:=⟨nod,boo,tok,bra,rea,ref,oor,ovl,cst⟩) t_rea cl_rea na_rea
 have oAN:=ok_add_node (P:=P) (w:=w) (base:=base) (cs:=⟨nod,boo,tok,bra,rea,ref,oor,ovl,cst⟩) t_boo_add_node cl_boo na_boo z_len oNode
 have oJ:=ok_joined (cs:=⟨nod,boo,tok,bra,rea,ref,oor,ovl,cst⟩) t_joined cl_boo z_len oAN
 have oEB:=ok_end_both co t_bra_end_both cl_bra na_bra z_len oJ
 have oEF:=ok_end_formula co t_bra_end_formula cl_bra na_bra oJ oEB
 have oCL:=ok_closed (cs:=⟨nod,boo,tok,bra,rea,ref,oor,ovl,cst⟩) t_closed cl_bra na_bra cl_boo oAN
 have oOR:=ok_OutOfRange (P:=P) (w:=w) (base:=base) EX
 have oOV:=ok_OverLimit (P:=P) (w:=w) (base:=base) EX
 have oCS:=ok_CannotStand (P:=P) (w:=w) (base:=base) EX
 have oNW:=ok_now (mg:=mg) (P:=P) (w:=w) (base:=base) (cs:=⟨nod,boo,tok,bra,rea,ref,oor,ovl,cst⟩) t_rea_now cl_rea na_rea
 have oTK:=ok_take t_rea_take cl_rea na_rea cl_tok na_tok oNW oCS
 have oTW:=ok_written t_rea_take_written cl_rea cl_tok na_tok oNW oTK
 have oNN:=ok_new t_rea_take_new_name cl_rea cl_tok na_tok w_NAME oNW oTK
 have oKN:=ok_known t_rea_take_known_name cl_rea cl_tok na_tok w_NAME oNW oTK
 have oFI:=ok_field (P:=P) (w:=w) (base:=base) t_is_field w_GREATEST_PRIME z_all z_range
 have oPR:=ok_prime t_rea_take_prime cl_rea cl_tok na_tok w_NUMBER z_int oNW oTK oFI
 have oTA:=ok_asked t_rea_take_asked cl_rea cl_tok na_tok w_NUMBER z_int oNW oTK
 have oAP:=ok_add_person (P:=P) (w:=w) (base:=base) (cs:=⟨nod,boo,tok,bra,rea,ref,oor,ovl,cst⟩) t_boo_add_person cl_boo na_boo z_len
 have oAL:=ok_add_let (mg:=mg) (P:=P) (w:=w) (base:=base) (cs:=⟨nod,boo,tok,bra,rea,ref,oor,ovl,cst⟩) t_boo_add_let cl_boo na_boo
 have oEO:=ok_endof (P:=P) (w:=w) (base:=base) t_end_of_signs z_len
 have oRE:=ok_runend t_run_end z_len w_LETTERS w_DIGITS w_WORD_SIGNS oEO
 have oKI:=ok_kind (P:=P) (w:=w) (base:=base) t_kind_of z_len w_LETTERS w_DIGITS w_KW w_LONGEST_WORD w_LONGEST_NUMBER w_NAME w_NUMBER w_OTHER
 have oRO:=ok_row (P:=P) (w:=w) (base:=base) t_row_of z_ord z_dict w_WORD_SIGNS w_OTHER_SIGNS w_BB
 have oTO:=ok_toks t_tokens_of z_len w_END oRO oRE oKI oToken
 have oPL:=ok_places (P:=P) (w:=w) (base:=base) (cs:=⟨nod,boo,tok,bra,rea,ref,oor,ovl,cst⟩) t_all_places cl_boo na_boo cl_nod na_nod z_sum
 have oLM:=ok_limits t_keep_limits cl_boo na_boo cl_nod na_nod z_len z_any w_MOST_PEOPLE w_MOST_LETS w_MOST_PLACES oPL oOV
 have oBG:=ok_begin co t_begin_brackets cl_rea cl_tok na_tok w_NUMBER oNW oTA oTW oBracket
 have oSH:=ok_shut co t_close_brackets cl_rea cl_tok na_tok cl_bra na_bra z_len oNW oTK oEF oCL
 have oBW:=ok_between co t_read_between cl_rea cl_tok na_tok cl_bra na_bra oNW oTW oEB oEF
 have oFO:=ok_formula co t_read_formula cl_rea cl_boo na_boo cl_bra na_bra z_len oBracket oBG oKN oSH oBW oTK oEF
 have oFR:=ok_fieldR t_read_field cl_rea oTW oPR
 have oPE:=ok_people co t_read_people cl_rea cl_tok na_tok cl_boo na_boo oNW oTW oNN oAP
 have oLE:=ok_let co t_read_let cl_rea cl_boo na_boo oTW oNN oFO oAL
 exact ok_bookof co t_book_of cl_rea cl_tok na_tok z_len w_LONGEST_TEXT w_END oOR oTO oReader oFR oBook oPE oNW oLE oTK oLM
end Pg
end
section
set_option linter.all false
set_option maxRecDepth 100000
set_option maxHeartbeats 4000000
namespace Pg
open PySem PySem.Spec PyProof.Rows L2 Xc Sp
def iV (l : List Int) : List V:=l.map V.int
section
variable {P : Program} {w : World} {K : PySem.W.Frag} {mg mb : Str→Option Value}
structure Entry (P : Program) (w : World) (K : PySem.W.Frag) (mg : Str→Option Value) (c T : Addr) (s₁ : Shared) (H : Hp) : Prop where
 hok : HOk P w H s₁.heap
 only : ∀ b u,H b = some u→(∃ o x,u = .frz o x)∨(b = T∧u = .tbl #[])
 tab : H T = some (.tbl #[])
 hd : PySem.W.CodeHd (hidT s₁.heap H) c T
 hdT : s₁.heap.TableAt c T #[]
 mod : Mod K mg (hidT s₁.heap H)
 bm : BMain mg (hidT s₁.heap H)
theorem entry_mk {s₁ : Shared} {c T : Addr} {ls : List (Addr × List Value × List Int)} (KX : K.In s₁.heap) (hns : s₁.heap.Ns mainGlobals mg) (hb : s₁.heap.Ns builtinsNs mb) (hbb : ∀ x : Str,x ≠ "__name__"→mb x = bootBuiltins x) (hlim : s₁.heap.NoLimit)
  (hbm : ∃ bm ob,mg "__builtins__" = some (.ref bm)∧bm ≠ builtinsNs∧s₁.heap.get? bm = some ob∧ob.cls = .type "module"∧ob.dict = some builtinsNs∧ob.data = .plain)
  (hC : PySem.W.CodeHd s₁.heap c T) (hT : s₁.heap.get? T = some (PySem.W.tabObj #[])) (hK : PySem.W.noTabs K = true)
  (hl : ∀ x ∈ ls,s₁.heap.get? x.1 = some { cls:=.type "list",data:=.seq x.2.1.toArray }∧IntsAre x.2.1 x.2.2∧x.2.2.length≤sizeLine) :
  ∃ H,Entry P w K mg c T s₁ H∧∀ x ∈ ls,SqL K H x.1 (x.2.2.map V.int):=by
 have KT : K.lookup T = none:=by
  cases q : K.lookup T with
  | none=>rfl
  | some o =>
   have e:=KX _ _ q
   rw [hT] at e
   cases e
   have h2:=List.all_eq_true.mp hK (T,_) (PySem.W.mem_of_lookupK q)
   exact absurd (show false = true from h2) Bool.false_ne_true
 let H : Hp:=fun b=>if b = T then some (.tbl #[]) else if K.lookup b = none then (ls.find? fun x=>x.1 == b).map fun x=>.frz { cls:=.type "list",data:=.seq x.2.1.toArray } (.lst (x.2.2.map V.int)) else none
 have hH : ∀ b u,H b = some u→(b = T∧u = .tbl #[])∨(b ≠ T∧K.lookup b = none∧∃ x ∈ ls,x.1 = b∧u = .frz { cls:=.type "list",data:=.seq x.2.1.toArray } (.lst (x.2.2.map V.int))):=fun b u e=>by
  by_cases hbT : b = T
  ·left
   have : H b = some (.tbl #[]):=if_pos hbT
   rw [this] at e
   cases e
   exact ⟨hbT,rfl⟩
  ·right
   have e1 : H b = if K.lookup b = none then (ls.find? fun x=>x.1 == b).map fun x=>.frz { cls:=.type "list",data:=.seq x.2.1.toArray } (.lst (x.2.2.map V.int)) else none:=if_neg hbT
   rw [e1] at e
   by_cases hk : K.lookup b = none
   ·rw [if_pos hk] at e
    cases q : ls.find? fun x=>x.1 == b with
    | none=>rw [q] at e; cases e
    | some x =>
     rw [q] at e
     cases e
     exact ⟨hbT,hk,x,List.mem_of_find?_eq_some q,by simpa using List.find?_some q,rfl⟩
   ·rw [if_neg hk] at e; cases e
 have noD : ∀ {b : Addr} {o : Obj},s₁.heap.get? b = some o→(∀ vs n,o.data ≠ .seq vs n)→(∀ vs,o.data ≠ .fields vs)→H b = none:=fun {b o} e h1 h2=>by
  cases q : H b with
  | none=>rfl
  | some u =>
   rcases hH b u q with ⟨rfl,_⟩ | ⟨_,_,x,hx,rfl,_⟩
   ·rw [hT] at e; cases e; exact absurd rfl (h2 _)
   ·rw [(hl x hx).1] at e; cases e; exact absurd rfl (h1 _ _)
 have nsK : ∀ {b : Addr} {m : Str→Option Value},s₁.heap.Ns b m→(hidT s₁.heap H).Ns b m:=fun {b m} ⟨o,es,ep,e,d,r⟩=>⟨o,es,ep,hidT_get e (noD e (fun vs n z=>by rw [d] at z; cases z) fun vs z=>by rw [d] at z; cases z),d,r⟩
 have hKb : K.In (hidT s₁.heap H):=fun b o e=>hidT_get (KX b o e) (by
  cases q : H b with
  | none=>rfl
  | some u =>
   rcases hH b u q with ⟨rfl,_⟩ | ⟨_,hk,_⟩
   ·rw [KT] at e; cases e
   ·rw [hk] at e; cases e)
 refine ⟨H,⟨fun b u e=>?_,fun b u e=>?_,if_pos rfl,?_,hC.tab hT,⟨hKb,nsK hns,⟨mb,nsK hb,hbb⟩,let ⟨mc,h1,h2⟩:=hlim; ⟨mc,nsK h1,h2⟩⟩,?_⟩,fun x hx=>?_⟩
 ·rcases hH b u e with ⟨rfl,rfl⟩ | ⟨_,_,x,hx,rfl,rfl⟩
  ·exact hT
  ·obtain ⟨h1,h2,h3⟩:=hl x hx
   exact ⟨h1,by rw [List.length_map]; exact h3,x.2.1,_,vals_ints h2,h1⟩
 ·rcases hH b u e with ⟨rfl,rfl⟩ | ⟨_,_,x,hx,rfl,rfl⟩
  ·exact .inr ⟨rfl,rfl⟩
  ·exact .inl ⟨_,_,rfl⟩
 ·obtain ⟨o,vs,file,tf,flags,tg,inF,text,tt,e1,r1,r2,r3,r4,r5,r6,r7,r8,hne⟩:=hC
  refine ⟨o,vs,file,tf,flags,tg,inF,text,tt,hidT_get e1 ?_,r1,r2,r3,r4,r5,r6,r7,r8,hne⟩
  cases q : H c with
  | none=>rfl
  | some u =>
   rcases hH c u q with ⟨z,_⟩ | ⟨_,_,x,hx,z,_⟩
   ·exact absurd z hne
   ·have e2:=(hl x hx).1
    rw [z,e1] at e2
    cases e2
    cases r2
 ·obtain ⟨bm,ob,b1,b2,b3,b4,b5,b6⟩:=hbm
  exact ⟨bm,ob,b1,b2,hidT_get b3 (noD b3 (fun vs n z=>by rw [b6] at z; cases z) fun vs z=>by rw [b6] at z; cases z),b4,b5,b6⟩
 ·obtain ⟨h1,h2,h3⟩:=hl x hx
  cases hk : K.lookup x.1 with
  | some o =>
   have e:=KX _ o hk
   rw [h1] at e
   cases e
   exact .inr ⟨_,x.2.1.toArray,_,hk,rfl,rfl,rfl,by rw [List.size_toArray,h2.length]; exact h3,by simpa using vals_ints h2⟩
  | none =>
   have xT : x.1 ≠ T:=fun z=>by rw [z,hT] at h1; cases h1
   have e1 : H x.1 = (ls.find? fun y=>y.1 == x.1).map fun x=>.frz { cls:=.type "list",data:=.seq x.2.1.toArray } (.lst (x.2.2.map V.int)):=(if_neg xT).trans (if_pos hk)
   cases q : ls.find? fun y=>y.1 == x.1 with
   | none=>exact absurd (List.find?_eq_none.mp q x hx) (by simp)
   | some y =>
    rw [q] at e1
    have hy : y.1 = x.1:=by simpa using List.find?_some q
    obtain ⟨g1,g2,_⟩:=hl y (List.mem_of_find?_eq_some q)
    rw [hy,h1] at g1
    have ev : x.2.1 = y.2.1:=by
     injection g1 with g1
     injection g1 with _ _ g1
     injection g1 with g1
     exact List.toArray_inj g1
    have ei : y.2.2 = x.2.2:=by
     have a1:=vals_ints g2
     have a2:=vals_ints h2
     rw [← ev] at a1
     have inj : ∀ {us : List Value} {m n : List Int},IntsAre us m→IntsAre us n→m = n:=by
      intro us m n p
      induction p generalizing n with
      | nil=>intro q; cases q; rfl
      | cons a t r ih=>intro q; cases q with | cons _ _ q=>rw [ih q]
     rw [← ev] at g2
     exact inj g2 h2
    exact .inl (.inr ⟨_,by rw [← ei]; exact e1⟩)
theorem entry_call {k : Nat} {fa c T : Addr} {fd : FuncData} {ps : List Str} {sp : Sp} {s₁ : Shared} {H : Hp} {vals : List Value} {vs : List V} {Q : VK} (N : Entry P w K mg c T s₁ H) (hg : s₁.gens = #[]) (hr : Room k callerA)
  (F : FnOk P w K mg (hidT s₁.heap H) (CXX P w) k fa fd ps sp) (hbind : BindsTo s₁ fd ⟨vals,[]⟩ (ps.zip vals)) (rv : Vals vs vals) (hsp : sp vs H Q E0) :
  codeAny (model P w) callerA (.call (.ref fa) ⟨vals,[]⟩) (fun r s'=>∃ u v H',r = .ok (.ret u)∧RelV v u∧Q v H'∧HOk P w H' s'.heap∧OldK s₁.heap s'.heap∧s'.os = s₁.os∧AllBare s'.gens) s₁:=by
 have e0 : Env0 P w K mg (hidT s₁.heap H) callerA [] s₁ H:=⟨rfl,N.mod,fun b o e=>of_hidT e,Nat.le_of_eq (hidT_size _ _),trivial,fun b hb=>absurd (show b ∈ ([] : List Addr) from hb) (by simp),N.hok,.of_eq hg⟩
 refine codeAny_mono (F.run callerA [] s₁ H ⟨vals,[]⟩ vals vs Q E0 hr e0 hbind rv hsp) fun r s' h=>?_
 cases r with
 | error e =>
  obtain ⟨_,_,_,_,_,_,_,f⟩:=h
  exact f.wish.elim
 | ok fl =>
  cases fl with
  | next=>exact False.elim h
  | brk=>exact False.elim h
  | cont=>exact False.elim h
  | ret u =>
   obtain ⟨v,H',os,bare,un,hok',r',q⟩:=h
   have at_ : ∀ b o,s₁.heap.get? b = some o→b ≠ T→s'.heap.get? b = some o:=fun b o e hb=>by
    cases q : H b with
    | none=>exact un.keep b o e q (by intro z; exact absurd (show b ∈ ([] : List Addr) from z) (by simp)) (by simp)
    | some x =>
     rcases N.only b x q with ⟨ob,y,rfl⟩ | ⟨z,_⟩
     ·have z2:=un.frzs b ob _ q
      obtain ⟨e1,_⟩:=N.hok b _ q
      obtain ⟨e2,_⟩:=hok' b _ z2
      rw [e] at e1; cases e1
      exact e2
     ·exact absurd z hb
   obtain ⟨more,hT'⟩:=un.tbls T _ N.tab
   have eT : s'.heap.get? T = some { cls:=.none,data:=.fields (#[]++more) }:=hok' T _ hT'
   refine ⟨u,v,H',rfl,r',q,hok',⟨fun b o e=>?_,fun b o e=>?_⟩,os,bare⟩
   ·by_cases hb : b = T
    ·subst hb
     have e₀ : o = { cls:=.none,data:=.fields #[] }:=Option.some.inj (e.symm.trans N.hdT.2)
     subst e₀
     exact .inr (.inl ⟨N.hdT.isCodeTable,rfl,#[],more,rfl,eT⟩)
    ·exact .inl (at_ b o e hb)
   ·by_cases hb : b = T
    ·rw [hb]; exact ⟨_,eT⟩
    ·exact ⟨o,at_ b o e hb⟩
end
theorem reads_ints {R : PySem.W.WRecords} {cl : Str→Option Addr} {h : Heap} : ∀ {l : List Int} {its : List Value},Vals (iV l) its→PySem.W.ReadsAllW R cl h its (l.map PySem.W.WData.int) []
 | [],_,.nil=>.nil
 | i::l,_,.cons r t=>by
  obtain ⟨k,rfl⟩:=r
  exact PySem.W.ReadsAllW.cons (as:=[]) (bs:=[]) (.int i k) (reads_ints t)
theorem well_ints {P : Params} {h : Heap} {v : Value} {ns : List Int} (x : PySem.W.Well P h v (.list (ns.map PySem.W.WData.int))) : ∃ a vs,v = .ref a∧h.get? a = some { cls:=.type "list",data:=.seq vs.toArray }∧IntsAre vs ns:=by
 cases x with
 | list ho hall=>exact ⟨_,_,rfl,ho,Att.ints_of_wellAll ns _ hall⟩
theorem well_int {P : Params} {h : Heap} {v : Value} {i : Int} (x : PySem.W.Well P h v (.int i)) : ∃ t,v = .int i t:=by
 cases x with
 | int _ t=>exact ⟨t,rfl⟩
theorem good_list {r : PySem.W.OpenSpec} {cl : Str→Option Addr} {mean : ExcName→Option Value} {args : List PySem.W.WData} {s₁ s' : Shared} {P : Program} {w : World} {H' : Hp} {l : Addr} {res : List Int} (hok : HOk P w H' s'.heap) (hl : H' l = some (.lst (iV res)))
  (hp : r.claim.post args (.list (res.map PySem.W.WData.int)) args = true) (h1 : OldK s₁.heap s'.heap) (h2 : s'.os = s₁.os) (h3 : AllBare s'.gens) : PySem.W.GoodWG r.claim cl mean args s₁ (.ok (.ret (.ref l))) s':=by
 obtain ⟨_,its,n,rv,e⟩:=hok l _ hl
 exact ⟨.inl ⟨_,_,_,rfl,fun _=>rfl,.list e rfl rfl (by simpa using reads_ints rv),hp,fun z=>absurd (show false = true from z) Bool.false_ne_true⟩,h1,h2,h3⟩
end Pg
end
section
set_option linter.all false
set_option maxRecDepth 100000
set_option maxHeartbeats 4000000
namespace Pg
open PySem PySem.Spec PyProof.Rows L2 Xc Sp
theorem sq_upd {K : PySem.W.Frag} {H : Hp} {T la : Addr} {ps qs : Array Value} {xs : List V} (hT : H T = some (.tbl ps)) (h : SqL K H la xs) : SqL K (upd H T (.tbl qs)) la xs:=by
 rcases h with (h | ⟨o,h⟩) | h
 ·exact .inl (.inl (by rw [upd_ne (ne_of h hT (by intro z; cases z))]; exact h))
 ·exact .inl (.inr ⟨o,by rw [upd_ne (ne_of h hT (by intro z; cases z))]; exact h⟩)
 ·exact .inr h
theorem nV_ints (l : List Int) (h : ∀ x ∈ l,0≤x) : l.map V.int = nV (l.map Int.toNat):=by
 unfold nV
 rw [List.map_map]
 refine List.map_congr_left fun x hx=>?_
 show V.int x = V.int ((x.toNat : Nat) : Int)
 rw [Int.toNat_of_nonneg (h x hx)]
theorem nV_iV (l : List Nat) : nV (l.length::l) = iV (((l.length : Nat) : Int)::l.map fun (x : Nat)=>(x : Int)):=by
 unfold nV iV
 rw [List.map_cons,List.map_cons,List.map_map]
 rfl
section
variable {P : Program} {w : World} {K : PySem.W.Frag} {mg : Str→Option Value} {base : Heap} {cs : Cs}
theorem tab_c {x : Str} {f c : Addr} {oc : Value} {od : Option Addr} {fd : FuncData} {sl : Array (Option Value)} (h1 : PySem.W.nsIn K mainGlobals x = some (some (.ref f))) (h2 : K.lookup f = some ⟨oc,od,.func fd,sl⟩) (h3 : fd.code = .ref c) (h4 : (PySem.W.tabIn K x).isSome = true) : ∃ T,PySem.W.tabIn K x = some (c,T):=by
 obtain ⟨⟨c',T⟩,e⟩:=Option.isSome_iff_exists.mp h4
 refine ⟨T,?_⟩
 rw [e]
 unfold PySem.W.tabIn at e
 simp only [h1,h2,h3] at e
 split at e
 ·split at e
  ·cases e; rfl
  ·cases e
 ·cases e
structure CallT (K : PySem.W.Frag) (mg : Str→Option Value) (x : Str) (st : Stmt) : Prop where
 ex : ∃ (f c : Addr) (oc kV doc pm ct : Value) (od an : Option Addr) (osl : Array (Option Value)),PySem.W.nsIn K mainGlobals x = some (some (.ref f))∧mg x = some (.ref f) ∧
  K.lookup f = some ⟨oc,od,.func (PySem.W.fnOf x x (defArgs st) (defBody st) (defScope st) .none kV doc pm an (.ref c) ct),osl⟩∧PySem.W.codeIn K (.ref c) x = true
theorem call_mk {h : Heap} {x : Str} {st : Stmt} (X : K.In h) (G : h.Ns mainGlobals mg) {f c : Addr} {oc kV doc pm ct : Value} {od an : Option Addr} {osl : Array (Option Value)} (m : PySem.W.nsIn K mainGlobals x = some (some (.ref f)))
  (l : K.lookup f = some ⟨oc,od,.func (PySem.W.fnOf x x (defArgs st) (defBody st) (defScope st) .none kV doc pm an (.ref c) ct),osl⟩) (k : PySem.W.codeIn K (.ref c) x = true) : CallT K mg x st :=
 ⟨f,c,oc,kV,doc,pm,ct,od,an,osl,m,PySem.W.mg_of X G m,l,k⟩
theorem final_of {mb : Str→Option Value} {s₁ : Shared} {fa : Addr} {p : Program} {loose : List Str} {mean : ExcName→Option Value} {x : Str} {st : Stmt} {ps : List Str} {sp : Addr→Sp} {ls : List (Addr × List Value × List Int)} {vs : List V} {vals : List Value} {res : List Int} (KX : K.In s₁.heap) (T : Top p loose mean mg mb s₁.heap) (hmg : mg x = some (.ref fa)) (hg : s₁.gens = #[])
  (hrec : ((recsOf p).find? (fun e=>e.name == x)).isSome = true) (ht : (PySem.W.tabIn K x).isSome = true) (hK : PySem.W.noTabs K = true) (C : CallT K mg x st) (hl : ∀ y ∈ ls,s₁.heap.get? y.1 = some { cls:=.type "list",data:=.seq y.2.1.toArray }∧IntsAre y.2.1 y.2.2∧y.2.2.length≤600) (rv : Vals vs vals)
  (F : ∀ (c T : Addr) (oc kV doc pm ct : Value) (od an : Option Addr) (osl : Array (Option Value)) (base : Heap),K.lookup fa = some ⟨oc,od,.func (PySem.W.fnOf x x (defArgs st) (defBody st) (defScope st) .none kV doc pm an (.ref c) ct),osl⟩→PySem.W.codeIn K (.ref c) x = true→PySem.W.CodeHd base c T→BMain mg base →
   FnOk P w K mg base (CXX P w) 12 fa (PySem.W.fnOf x x (defArgs st) (defBody st) (defScope st) .none kV doc pm an (.ref c) ct) ps (sp T))
  (hb : ∀ (c : Addr) (kV doc pm ct : Value) (an : Option Addr),BindsTo s₁ (PySem.W.fnOf x x (defArgs st) (defBody st) (defScope st) .none kV doc pm an (.ref c) ct) ⟨vals,[]⟩ (ps.zip vals))
  (hsp : ∀ (T : Addr) (H : Hp),H T = some (.tbl #[])→(∀ y ∈ ls,SqL K H y.1 (y.2.2.map V.int))→sp T vs H (fun v H'=>∃ l,v = .ref l∧H' l = some (.lst (iV res))) E0) :
  codeAny (model P w) callerA (.call (.ref fa) ⟨vals,[]⟩) (fun r s'=>∃ l H',r = .ok (.ret (.ref l))∧H' l = some (.lst (iV res))∧HOk P w H' s'.heap∧OldK s₁.heap s'.heap∧s'.os = s₁.os∧AllBare s'.gens) s₁:=by
 obtain ⟨f,c,oc,kV,doc,pm,ct,od,an,osl,e1,e2,lk,hcd⟩:=C.ex
 rw [hmg] at e2
 cases e2
 obtain ⟨Tb,htab⟩:=tab_c e1 lk rfl ht
 obtain ⟨d,hrec⟩:=Option.isSome_iff_exists.mp hrec
 obtain ⟨hC,hT⟩:=PySem.W.tab_of T KX hrec htab
 obtain ⟨H,N,hsq⟩:=entry_mk (P:=P) (w:=w) (ls:=ls) KX T.g T.b T.builtins T.nolimit T.bmain hC hT hK fun y hy=>⟨(hl y hy).1,(hl y hy).2.1,Nat.le_trans (hl y hy).2.2 (by decide)⟩
 refine codeAny_mono (entry_call (Q:=fun v H'=>∃ l,v = .ref l∧H' l = some (.lst (iV res))) (vs:=vs) N hg ⟨rfl,by decide,by decide⟩ (F c Tb oc kV doc pm ct od an osl _ lk hcd N.hd N.bm) (hb c kV doc pm ct an) rv (hsp Tb H N.tab hsq)) fun r s' h=>?_
 obtain ⟨u,v,H',rfl,rv,⟨l,rfl,hl⟩,hok,h1,h2,h3⟩:=h
 obtain rfl : u = Value.ref l:=rv
 exact ⟨l,H',rfl,hl,hok,h1,h2,h3⟩
end
end Pg
end
section
set_option linter.all false
set_option maxRecDepth 100000
set_option maxHeartbeats 4000000
namespace Pg
open PySem PySem.Spec PyProof.Rows L2 Xc Sp
theorem lookup_inj {cl : List (Str × Addr)} (h : (cl.map (·.2)).Nodup) {x y : Str} {c : Addr} (a : cl.lookup x = some c) (b : cl.lookup y = some c) : x = y:=by
 have ha:=PySem.mem_of_lookup a
 have hb:=PySem.mem_of_lookup b
 clear a b
 induction cl with
 | nil=>simp at ha
 | cons p r ih =>
  rw [List.map_cons,List.nodup_cons] at h
  have no : ∀ z : Str,(z,c) ∈ r→p.2 ≠ c:=fun z hz e=>h.1 (List.mem_map.mpr ⟨_,hz,e.symm⟩)
  rcases List.mem_cons.mp ha with ha | ha <;> rcases List.mem_cons.mp hb with hb | hb
  ·rw [← ha] at hb; exact (Prod.mk.inj hb).1.symm
  ·exact absurd (by rw [← ha]) (no y hb)
  ·exact absurd (by rw [← hb]) (no x ha)
  ·exact ih h.2 ha hb
section
variable {P : Program} {w : World} {K : PySem.W.Frag} {mg : Str→Option Value} {base : Heap} {cs : Cs}
theorem ask_clo {k : Nat} {qual : Str} {scope : Scope} {f : Addr} {cl : List (Str × Addr)} {params : Arguments} {body : Expr} {x0 : Str} {fr : List Str} {vals : List V} {sp : Sp} {env : Env} {N : List Str} {σ : L2.St} (L : LamAt base f qual params body scope cl) (ci : CellsIn env N σ base) (hco : scope.isCoroutine = false) (hgen : scope.isGenerator = false) (hk : scope.kind = .function)
  (hcell : ∀ x ∈ scope.names,x.2 ≠ .cell) (hx0 : scope.names.lookup x0 = some .local) (hbind : ∀ (pm ctv u : Value) (c' : Addr),bindArgs (PySem.W.kla_fn "<lambda>" qual params body scope cl pm (.ref c') ctv) ⟨[u],[]⟩ = pure [(x0,u)])
  (hnd : (cl.map (·.2)).Nodup) (hin : ∀ p ∈ cl,env.cells.lookup p.1 = some p.2) (hfree : ∀ x,scope.names.lookup x = some .free→∃ c,cl.lookup x = some c) (hlen : fr.length = vals.length)
  (hfr : ∀ (i : Nat) (x : Str) (v : V),fr[i]? = some x→vals[i]? = some v→∃ j : Nat,N[j]? = some x∧σ[j]? = some (some v)∧env.scope.names.lookup x = some .cell∧scope.names.lookup x = some .free)
  (hbody : ∀ (A : Around) (outer : List Env) (s : Shared) (H : Hp) (cd : Value) (v : V) (Q : VK) (E : XK),Room k (A.deeper (PySem.W.envX qual scope s.heap.objs.size f cd cl))→sp [v] H Q E →
   ∃ t,PE (lamCx P w K mg base (x0::fr) qual scope f cd cl A outer s H E) body t∧t (some v::vals.map some) H Q) : AskOk P w K mg base (k + 1) f sp:=by
 refine ask_of L hco hgen hk hcell hx0 hbind (fun x y c a b=>lookup_inj hnd a b) hfree (fun x c e=>ci.cell x c (hin _ (PySem.mem_of_lookup e))) hlen (fun i x v e e'=>?_) hbody
 obtain ⟨j,h1,h2,h3,h4⟩:=hfr i x v e e'
 obtain ⟨c,u,hc,hz,r⟩:=ci.val j x v h1 h2 h3
 obtain ⟨c',hc'⟩:=hfree x h4
 have:=hin _ (PySem.mem_of_lookup hc')
 rw [hc] at this
 cases this
 exact ⟨h4,_,u,hc',hz,r⟩
end
end Pg
end
section
set_option linter.all false
namespace Pg
open Sp
theorem form_at {G : Rb35.Prog} {B : Bk} {i : Int} {k : Nat} (h : G.lets = B.known.lets) (h0 : 0≤i) (hk : (B.ls.map (·.2))[i.toNat]? = some k) : Rb35.formAt G i = some (den B.P B.ns k):=by
 unfold Rb35.formAt
 rw [if_neg (by omega),h]
 show ((B.ls.map fun x=>(x.1,den B.P B.ns x.2))[i.toNat]?).map _ = _
 rw [List.getElem?_map] at hk ⊢
 cases q : B.ls[i.toNat]? with
 | none=>rw [q] at hk; cases hk
 | some x=>rw [q] at hk; cases hk; rfl
theorem form_no {G : Rb35.Prog} {B : Bk} {i : Int} (h : G.lets = B.known.lets) (hn : ¬ (0≤i∧i.toNat < B.ls.length)) : Rb35.formAt G i = none:=by
 unfold Rb35.formAt
 by_cases h0 : i < 0
 ·rw [if_pos h0]
 ·rw [if_neg h0,h]
  show ((B.ls.map fun x=>(x.1,den B.P B.ns x.2))[i.toNat]?).map _ = _
  rw [List.getElem?_eq_none (by rw [List.length_map]; exact Nat.le_of_not_lt fun z=>hn ⟨by omega,z⟩)]
  rfl
theorem asked_text {text : List Int} (h : Rb35Neutral.text (text.length : Int) text = true) : (∀ b ∈ text.map Int.toNat,b < 256)∧text.length≤600∧(∀ x ∈ text,0≤x)∧Rb35.inRange 0 (text.length : Int) 65536 = true:=by
 unfold Rb35Neutral.text at h
 simp only [Bool.and_eq_true,decide_eq_true_eq,List.all_eq_true] at h
 obtain ⟨_,h2,_,h3,_⟩:=h
 have nat : ∀ x ∈ text,0≤x∧x < 256:=fun x hx=>by
  have:=h2 x hx
  unfold Rb35Neutral.natural at this
  simp only [Bool.and_eq_true,decide_eq_true_eq] at this
  exact ⟨this.1,by have:=this.2; omega⟩
 refine ⟨fun b hb=>?_,h3,fun x hx=>(nat x hx).1,?_⟩
 ·obtain ⟨x,hx,rfl⟩:=List.mem_map.mp hb
  have:=nat x hx
  omega
 ·unfold Rb35.inRange
  simp only [Bool.and_eq_true,decide_eq_true_eq]
  omega
end Pg
end
section
set_option linter.all false
set_option maxRecDepth 100000
set_option maxHeartbeats 4000000
namespace Pg
open PySem PySem.Spec PyProof.Rows L2 Xc Sp
section
variable {P : Program} {w : World} {K : PySem.W.Frag} {mg : Str→Option Value} {base : Heap} {cs : Cs}
theorem sc_bytes : FnScope ["book","formula","turned","sign"] ["book","formula","turned"] (defScope st_bytes_told):=⟨rfl,rfl,rfl,by decide +kernel,rfl,by decide +kernel,by decide +kernel⟩
theorem ok_bytes (T : FunT K mg "bytes_told" st_bytes_told) (hord : mg "ord" = none) (AT : DefOk P w K mg base 2 "all_told" ["book","turned"] (spAllTold cs)) : DefOk P w K mg base 3 "bytes_told" ["book","formula","turned"] (spBytes cs):=by
 obtain ⟨f,fd,F,hm⟩:=T.ex
 refine ⟨f,fd,hm,F.kp,F.binds (fun _ _ _ _ _ _ us hl=>match us,hl with | [_,_,_],_=>rfl),okN F sc_bytes (fun vs H Q E h=>?_) (fun cdv A outer s0 H vs Q E hr h=>?_)⟩
 ·obtain ⟨b,A,p,B,k,tu,rfl,_⟩:=h
  rfl
 ·obtain ⟨b,Ad,p,B,k,tu,rfl,R,good,sz,fw,hk,kq⟩:=h
  refine ⟨_,pss_one (ps_ret (pe_lc rfl sc_bytes.nd (pi_str (pe_ix ix_list (pe_def AT hr rfl pass_no (pa_cons (pv 0) (pa_cons (pv 2) pa_nil))) (pv 1) (fun _ _=>rfl))) (blkOk_by (own:=[("sign",3)]) (by show blkC ["book","formula","turned","sign"] (defScope st_bytes_told) _ [("sign",3)] = true; decide +kernel))
   (fun _ _ _ _ _=>pg_name (i:=3) sc_bytes.nd rfl (Or.inl rfl)) (fun _ _ _ _ _=>pts_nil) (fun _ _ _ _ _=>pe_callB call_ord (by rfl) hord PyProof.Rows.boot_ord (pa_cons (pv 3) pa_nil)))),?_⟩
  refine ⟨_,rfl,_,rfl,b,Ad,p,B,tu,rfl,R,good,sz,fw,fun D H1 hD s1=>?_⟩
  have at1 : (tV ((List.range (B.P + B.ns.length)).map (TT B tu)))[k]? = some (V.str (mkS (TT B tu k))):=by
   unfold tV
   rw [List.getElem?_map,List.getElem?_map,List.getElem?_range hk]
   rfl
  have hT:=TT_len good sz fw tu hk
  refine ⟨_,rfl,D,_,_,_,rfl,rfl,SqL.of hD,at_of (j:=k) rfl at1,_,rfl,fun D2 hD2=>?_⟩
  refine lc_str (x:=mkS (TT B tu k)) (fun i H'=>H' = upd H1 D2 (.lst (nV ((TT B tu k).take i)))) rfl ?_ ?_
  ·rintro i c H' hc rfl
   have hc' : (TT B tu k)[i]? = some c:=hc
   have hi:=(List.getElem?_eq_some_iff.mp hc').1
   refine ⟨rfl,_,rfl,_,rfl,rfl,_,upd_same,?_,?_⟩
   ·rw [nV_length,List.length_take]
    exact Nat.lt_of_le_of_lt (Nat.min_le_left _ _) (Nat.lt_of_lt_of_le hi (Nat.le_trans hT (by decide)))
   ·rw [upd_upd,List.take_succ,hc',Option.toList_some,nV_snoc]
    rfl
  ·rintro H' rfl
   have e : (TT B tu k).take (mkS (TT B tu k)).cps.toList.length = TT B tu k:=List.take_of_length_le (Nat.le_refl _)
   rw [e]
   exact kq D2 _ upd_same fun c o q=>by rw [upd_ne (ne_of_none (s1 _ _ q) hD2)]; exact s1 _ _ q
def ansTold (i t m : Int) (bs : List Nat) : List Int:=if m < 0 then [-2] else match Rb35.taken bs with
 | .bad v=>[v]
 | .good G=>match Rb35.formAt G i with
  | none=>[-2]
  | some f=>if m < ((Rb35.told G.people (if t = 0 then f else Rb35.dual f)).length : Int) then [-1] else (((Rb35.told G.people (if t = 0 then f else Rb35.dual f)).length : Nat) : Int)::(Rb35.told G.people (if t = 0 then f else Rb35.dual f)).map fun (x : Nat)=>(x : Int)
def tuB (t : Int) : Bool:=!decide (V.int t = V.int 0)
theorem turn_tuB (t : Int) (f : Rb35.Form) : turn (tuB t) f = if t = 0 then f else Rb35.dual f:=by
 unfold turn tuB
 rw [vint_eq]
 by_cases h : t = 0
 ·subst h; rfl
 ·rw [if_neg h,decide_eq_false h]; rfl
def spTold (K : PySem.W.Frag) (T : Addr) : Sp:=fun vs H Q _=>∃ (la : Addr) (bs : List Nat) (i t m : Int),vs = [.int i,.int t,.int m,.ref la]∧SqL K H la (nV bs)∧(∀ b ∈ bs,b < 256)∧bs.length≤9000∧H T = some (.tbl #[])∧∀ l H',H' l = some (.lst (iV (ansTold i t m bs)))→Q (.ref l) H'
def spLamTold (cs : Cs) (tm : Addr) (i t m : Int) : Sp:=fun vs H Q E=>∃ (b : Addr) (A : BkA) (p : Nat) (B : Bk),vs = [.ref b]∧BookAt cs H b A p B∧B.Ok∧Sz B∧Few B ∧
 (∀ (k : Nat) (H' : Hp) (l : Addr),0≤i→(B.ls.map (·.2))[i.toNat]? = some k→¬ m < ((TT B (tuB t) k).length : Int)→H' l = some (.lst (nV ((TT B (tuB t) k).length::TT B (tuB t) k)))→Q (.ref l) H') ∧
 (∀ k : Nat,0≤i→(B.ls.map (·.2))[i.toNat]? = some k→m < ((TT B (tuB t) k).length : Int)→Thr E tm (-1))∧(¬ (0≤i∧i.toNat < B.ls.length)→Thr E cs.oor (-2))
theorem sc_told : FnScope ["form","turned","most","text"] ["form","turned","most","text"] (defScope st_told):=⟨rfl,rfl,rfl,by decide +kernel,rfl,by decide +kernel,by decide +kernel⟩
theorem ok_told {fa fA c T tm : Addr} {fdA : FuncData} {oc kV doc pm ct : Value} {od an : Option Addr} {osl : Array (Option Value)}
  (lk : K.lookup fa = some ⟨oc,od,.func (PySem.W.fnOf "told" "told" (defArgs st_told) (defBody st_told) (defScope st_told) .none kV doc pm an (.ref c) ct),osl⟩) (hcd : PySem.W.codeIn K (.ref c) "told" = true)
  (FA : Fun K "answered" "answered" st_answered fA fdA) (hmA : mg "answered" = some (.ref fA)) (B : Base K mg cs) (X : OwnT K mg "TooMany" "TooMany.__init__" st_TooMany_init tm) (NM : ∀ base',DefOk P w K mg base' 4 "no_more" ["most","numbers"] (spNoMore tm)) (LO : ∀ base',DefOk P w K mg base' 3 "bytes_told" ["book","formula","turned"] (spBytes cs))
  (FO : ∀ base',DefOk P w K mg base' 4 "formula_of" ["book","form"] (spForm cs)) (C : PySem.W.CodeHd base c T) (hbm : BMain mg base) :
  FnOk P w K mg base (CXX P w) 12 fa (PySem.W.fnOf "told" "told" (defArgs st_told) (defBody st_told) (defScope st_told) .none kV doc pm an (.ref c) ct) ["form","turned","most","text"] (spTold K T):=by
 have bA : Binds K fdA ["in_range","text","ask"] []:=FA.binds (fun _ _ _ _ _ _ us hl=>match us,hl with | [_,_,_],_=>rfl)
 refine fn_of lk hcd sc_told (fun vs H Q E h=>?_) fun A outer s H vs Q E hr h=>?_
 ·obtain ⟨la,bs,i,t,m,rfl,_⟩:=h
  rfl
 ·obtain ⟨la,bs,i,t,m,rfl,hla,hbs,hlb,hT,kq⟩:=h
  refine ⟨_,pss_one (ps_ret (pe_hand (sp:=spAnswered P w K mg cs 10) (fun base'=>ok_answered (Nat.le_refl _) FA B.excs.mref B.excs B.cat (B.book P w base')) bA hr rfl hmA FA.kp (pe_cmpR op_ge (pv 2) pe_int (nomark _)) (pv 3) (fun _=>rfl) rfl C hbm (by rfl) (by rfl))),?_⟩
  refine ⟨_,rfl,_,_,rfl,rfl,_,rfl,#[],hT,trivial,rfl,fun more base' f L ci=>?_⟩
  refine ⟨decide (0≤m),la,f,spLamTold cs tm i t m,bs,rfl,?_,sq_upd hT hla,hbs,hlb,fun z l H' hl=>kq l H' ?_,fun z v hv l H' hl=>kq l H' ?_,fun z G b Ab Bk' H' e1 e2 e3 e4 e5 e6 e7 e8=>?_⟩
  ·refine ask_clo (x0:="book") (fr:=["most","form","turned"]) (vals:=[.int m,.int i,.int t]) L ci rfl rfl rfl (by decide +kernel) rfl (fun _ _ _ _=>rfl) (by simp <;> omega) (fun p hp=>?_) (fun x hx=>?_) rfl (fun j x v e e'=>?_) fun A' outer' s' H' cd v Q' E' hr' h'=>?_
   ·simp only [List.mem_cons,List.not_mem_nil,or_false] at hp
    rcases hp with rfl | rfl | rfl <;> rfl
   ·have:=PySem.mem_of_lookup hx
    simp only [List.mem_cons,List.not_mem_nil,or_false,Prod.mk.injEq,reduceCtorEq,and_false,and_true,false_or] at this
    rcases this with rfl | rfl | rfl <;> exact ⟨_,rfl⟩
   ·match j,e,e' with
    | 0,rfl,rfl=>exact ⟨2,rfl,rfl,rfl,rfl⟩
    | 1,rfl,rfl=>exact ⟨0,rfl,rfl,rfl,rfl⟩
    | 2,rfl,rfl=>exact ⟨1,rfl,rfl,rfl,rfl⟩
    | j + 3,e,_=>simp at e
   ·obtain ⟨b,Ab,p,Bk',hv,Rb,ok,sz,fw,kq',kt,kx⟩:=h'
    cases hv
    refine ⟨_,pe_def ((NM base').mono (by decide : 4≤9)) hr' rfl pass_lam (pa_cons (pv 1) (pa_cons (pe_def ((LO base').mono (by decide : 3≤9)) hr' rfl pass_no (pa_cons (pv 0) (pa_cons (pe_def ((FO base').mono (by decide : 4≤9)) hr' rfl pass_lam (pa_cons (pv 0) (pa_cons (pv 2) pa_nil))) (pa_cons (pe_cmpR op_ne (pv 3) pe_int (nomark _)) pa_nil)))) pa_nil)),?_⟩
    refine ⟨_,rfl,_,rfl,_,rfl,_,rfl,b,Ab,p,Bk',i,rfl,Rb,fun k h0 hk=>?_,kx⟩
    obtain ⟨x,hx,ex⟩:=List.mem_map.mp (List.mem_of_getElem? hk)
    have hlt : k < Bk'.P + Bk'.ns.length:=by rw [← ex]; exact ok.lt x hx
    refine ⟨_,rfl,rfl,b,Ab,p,Bk',k,tuB t,rfl,Rb,ok.good,sz,fw,hlt,fun D H1 hD s1=>?_⟩
    refine ⟨D,_,m,rfl,hD,?_,fun h1 l H2 hl s2=>kq' k H2 l h0 hk h1 hl,fun h1=>kt k h0 hk h1⟩
    exact Nat.le_trans (Nat.succ_le_succ (TT_len ok.good sz fw (tuB t) hlt)) (by decide)
  ·unfold ansTold
   rw [if_pos (by have:=of_decide_eq_false z; omega),hl]
   rfl
  ·unfold ansTold
   rw [if_neg (by have:=of_decide_eq_true z; omega),hv]
   exact hl
  ·have z' : ¬ m < 0:=by have:=of_decide_eq_true z; omega
   have hsm : Rb35.small ⟨G.p,Bk'.people,Bk'.known.lets⟩ = true:=by
    have : G = ⟨G.p,Bk'.people,Bk'.known.lets⟩:=by rw [← e5,← e6]
    rw [this] at e7
    exact e7
   have fw : Few Bk':=by
    refine ⟨fun j hj=>e3.cov.places 24 (fun k hk=>?_) hj,fun x hx=>taken_names e1 x (by rw [e5]; exact hx)⟩
    obtain ⟨x,hx,rfl⟩:=List.mem_map.mp hk
    exact ((small_iff e3 _).mp hsm).2.2.2 x hx
   have eT : ∀ k,Rb35.told G.people (if t = 0 then den Bk'.P Bk'.ns k else Rb35.dual (den Bk'.P Bk'.ns k)) = TT Bk' (tuB t) k:=fun k=>by
    unfold TT
    rw [turn_tuB,e5]
   refine ⟨b,Ab,_,Bk',rfl,e2,e3,e4,fw,fun k H'' l h0 hk h1 hl=>kq l H'' ?_,fun k h0 hk h1=>thr_catch (X.sub B.excs) X.gx X.nn fun l H'' hl=>kq l H'' ?_,fun h=>thr_catch B.cat.soor B.cat.goor B.excs.noor fun l H'' hl=>kq l H'' ?_⟩
   ·unfold ansTold
    rw [if_neg z',e1]
    dsimp only
    rw [form_at e6 h0 hk]
    dsimp only
    rw [eT,if_neg h1,hl]
    exact congrArg (fun x=>some (HO.lst x)) (nV_iV _)
   ·unfold ansTold
    rw [if_neg z',e1]
    dsimp only
    rw [form_at e6 h0 hk]
    dsimp only
    rw [eT,if_pos h1,hl]
    rfl
   ·unfold ansTold
    rw [if_neg z',e1]
    dsimp only
    rw [form_no e6 h,hl]
    rfl
theorem told_due (i t m : Int) (text : List Int) (h : PyRb35.told_asked i t m text = true) : ansTold i t m (text.map Int.toNat) = PyRb35.told i t m text∧(∀ b ∈ text.map Int.toNat,b < 256)∧text.length≤600∧∀ x ∈ text,0≤x:=by
 have h1 : (Rb35Neutral.text (text.length : Int) text && (Rb35Neutral.whole32 i && (Rb35Neutral.whole32 t && Rb35Neutral.whole32 m))) = true:=h
 obtain ⟨a1,a2,a3,hr⟩:=asked_text (Bool.and_eq_true_iff.mp h1).1
 refine ⟨?_,a1,a2,a3⟩
 show ansTold i t m (Rb35Neutral.nats text) = (Rb35.answer (.told (Rb35Neutral.nats text) (text.length : Int) i t m)).v::((Rb35.answer (.told (Rb35Neutral.nats text) (text.length : Int) i t m)).l.map fun (x : Nat)=>(x : Int))
 unfold ansTold Rb35.answer Rb35.begun
 dsimp only
 by_cases hm : m < 0
 ·rw [if_pos hm,if_neg (by rw [hr,decide_eq_false (by omega : ¬ 0≤m)]; decide)]
  rfl
 rw [if_neg hm,if_pos (by rw [hr,decide_eq_true (by omega : 0≤m)]; rfl)]
 cases Rb35.taken (Rb35Neutral.nats text) with
 | bad v=>rfl
 | good G =>
  unfold Rb35.asks
  dsimp only
  have qq : Rb35.formAt G i = none∨∃ f,Rb35.formAt G i = some f:=by
   cases Rb35.formAt G i with
   | none=>exact .inl rfl
   | some f=>exact .inr ⟨f,rfl⟩
  rcases qq with q | ⟨f,q⟩
  ·have : ([i].any fun (i : Int)=>(Rb35.formAt G i).isNone) = true:=by simp [q]
   rw [if_pos this]
   simp only [q]
   rfl
  ·have : ¬ ([i].any fun (i : Int)=>(Rb35.formAt G i).isNone) = true:=by simp [q]
   rw [if_neg this]
   simp only [q,Option.getD_some]
   unfold Rb35.sized
   by_cases h2 : m < ((Rb35.told G.people (if t = 0 then f else Rb35.dual f)).length : Int)
   ·rw [if_pos h2,if_pos h2]; rfl
   ·rw [if_neg h2,if_neg h2]
theorem told_final {mb : Str→Option Value} {s₁ : Shared} {fa a tm : Addr} {p : Program} {loose : List Str} {mean : ExcName→Option Value} {vs : List Value} {i t m : Int} {ti t2 t3 : PySem.Tok} {ns : List Int} (KX : K.In s₁.heap) (T : Top p loose mean mg mb s₁.heap) (hmg : mg "told" = some (.ref fa)) (hg : s₁.gens = #[])
  (hrec : ((recsOf p).find? (fun e=>e.name == ("told" : Str))).isSome = true) (ht : (PySem.W.tabIn K "told").isSome = true) (hK : PySem.W.noTabs K = true) (B : Base K mg cs) (C : CallT K mg "told" st_told) (X : OwnT K mg "TooMany" "TooMany.__init__" st_TooMany_init tm) (BR : ∀ P,BrT P w K mg) (hlist : mg "list" = none) (hstr : mg "str" = none) (FA : FunT K mg "answered" st_answered)
  (FN : FunT K mg "no_more" st_no_more) (FC : FunT K mg "counted" st_counted) (FB : FunT K mg "bytes_told" st_bytes_told) (FT : FunT K mg "all_told" st_all_told) (F1 : FunT K mg "asked_of" st_asked_of) (F2 : FunT K mg "sign_between" st_sign_between) (F3 : FunT K mg "set_apart" st_set_apart) (F4 : FunT K mg "joined_by" st_joined_by) (FF : FunT K mg "formula_of" st_formula_of)
  (ha : s₁.heap.get? a = some { cls:=.type "list",data:=.seq vs.toArray }) (hi : IntsAre vs ns) (hask : PyRb35.told_asked i t m ns = true) :
  codeAny (model P w) callerA (.call (.ref fa) ⟨[.int i ti,.int t t2,.int m t3,.ref a],[]⟩) (fun r s'=>∃ l H',r = .ok (.ret (.ref l))∧H' l = some (.lst (iV (PyRb35.told i t m ns)))∧HOk P w H' s'.heap∧OldK s₁.heap s'.heap∧s'.os = s₁.os∧AllBare s'.gens) s₁:=by
 obtain ⟨due,hbs,hlen,hpos⟩:=told_due i t m ns hask
 obtain ⟨fA,fdA,FA,hmA⟩:=FA.ex
 have FO : ∀ base',DefOk P w K mg base' 4 "formula_of" ["book","form"] (spForm cs):=fun base'=>ok_form FF B.clB B.naB B.len (ok_OutOfRange B.excs)
 have NM : ∀ base',DefOk P w K mg base' 4 "no_more" ["most","numbers"] (spNoMore tm):=fun base'=>ok_noMore FN B.len (ok_TooMany B.excs X) (ok_counted FC B.len)
 have LO : ∀ base',DefOk P w K mg base' 3 "bytes_told" ["book","formula","turned"] (spBytes cs):=fun base'=>ok_bytes FB B.ord (ok_allTold FT (BR P) B.clB B.naB B.clN B.naN B.len hlist (ok_askedOf F1 B.clN B.naN B.len) (ok_sign F2) (ok_apart F3) (ok_joinedBy F4 hstr))
 refine final_of (sp:=spTold K) (ls:=[(a,vs,ns)]) (vs:=[.int i,.int t,.int m,.ref a]) KX T hmg hg hrec ht hK C (fun y hy=>?_) (.cons ⟨_,rfl⟩ (.cons ⟨_,rfl⟩ (.cons ⟨_,rfl⟩ (.cons rfl .nil)))) (fun c T oc kV doc pm ct od an osl base lk hcd hC hbm=>ok_told lk hcd FA hmA B X NM LO FO hC hbm) (fun _ _ _ _ _ _=>.of_eq rfl) fun T H hT hsq=>?_
 ·obtain rfl:=List.mem_singleton.mp hy
  exact ⟨ha,hi,hlen⟩
 ·have hla:=hsq (a,vs,ns) (by simp)
  rw [nV_ints ns hpos] at hla
  exact ⟨a,ns.map Int.toNat,i,t,m,rfl,hla,hbs,by rw [List.length_map]; omega,hT,fun l H' hl=>⟨l,rfl,by rw [← due]; exact hl⟩⟩
end
end Pg
end
section
set_option linter.all false
set_option maxRecDepth 100000
open PySem PySem.W PyProof.Rows
theorem Pg.said : PySem.Challenge.rw_secretparts_s04_told.wellSaid = true:=by decide +kernel
theorem Pg.app1 {α : Type} (f : Int→Int→Int→List Int→α) (i0 : Int) (i1 : Int) (i2 : Int) (l3 : List Int) : Codec.app (R:=α) [.int (_root_.Int.negSucc 2147483647) (_root_.Int.ofNat 2147483647),.int (_root_.Int.negSucc 2147483647) (_root_.Int.ofNat 2147483647),.int (_root_.Int.negSucc 2147483647) (_root_.Int.ofNat 2147483647),.list 0 600 (.int (_root_.Int.ofNat 0) (_root_.Int.ofNat 255))] f (i0,i1,i2,l3,()) = f i0 i1 i2 l3:=rfl
theorem Pg.asked_eq (i0 : Int) (i1 : Int) (i2 : Int) (l3 : List Int) : Codec.app PySem.Challenge.rw_secretparts_s04_told.args PySem.Challenge.rw_secretparts_s04_told.asked (i0,i1,i2,l3,()) = PyRb35.told_asked i0 i1 i2 l3 :=
 Eq.trans (b:=Codec.app (R:=Bool) [.int (_root_.Int.negSucc 2147483647) (_root_.Int.ofNat 2147483647),.int (_root_.Int.negSucc 2147483647) (_root_.Int.ofNat 2147483647),.int (_root_.Int.negSucc 2147483647) (_root_.Int.ofNat 2147483647),.list 0 600 (.int (_root_.Int.ofNat 0) (_root_.Int.ofNat 255))] PyRb35.told_asked (i0,i1,i2,l3,())) (by kernel_rfl) (Pg.app1 PyRb35.told_asked i0 i1 i2 l3)
theorem Pg.due_eq (i0 : Int) (i1 : Int) (i2 : Int) (l3 : List Int) : WData.list ((PyRb35.told i0 i1 i2 l3).map WData.int) = PySem.Challenge.rw_secretparts_s04_told.ret.enc (Codec.app PySem.Challenge.rw_secretparts_s04_told.args PySem.Challenge.rw_secretparts_s04_told.f (i0,i1,i2,l3,())):=by kernel_rfl
theorem Pg.enc_eq (i0 : Int) (i1 : Int) (i2 : Int) (l3 : List Int) : Codec.encAll PySem.Challenge.rw_secretparts_s04_told.args (i0,i1,i2,l3,()) = [WData.int i0,WData.int i1,WData.int i2,WData.list (l3.map WData.int)]:=by kernel_rfl
namespace PySem.W.Fast
def tw7738657483136104448:=0
def tw16372875841108548640:=0
def tw8572700628390234144:=0
def tw12535546174184953888:=0
def tw3431736536043712576:=0
def tw4052384498940286016:=0
def tw9367825281763512416:=0
def tw9262088154559439968:=0
def tw1500216655015406720:=0
def tw2306721186389005536:=0
def tw7700821212624816544:=0
def tw9045920334077362656:=0
def tw14996172135440994816:=0
def tw4656775125075692096:=0
def tw4134974931835137696:=0
def tw6298521894228951936:=0
def tw14132151780277875616:=0
def tw7620446190858265568:=0
def tw15150956972214858753:=0
def tw8846387927511138337:=0
def tw5662585634688230465:=0
def tw4105932547135453505:=0
def tw12187960810811523585:=0
def tw14201901927474018817:=0
def tw13797917933082507841:=0
def tw3805906034261743265:=0
def tw5934574407885986529:=0
def tw15654247197665795809:=0
def tw4953115767261133569:=0
def tw10476596558024268705:=0
def tw13317261219680329986:=0
def tw13446169271305558402:=0
def tw11863982973840543138:=0
def tw4676377792580614626:=0
def tw13237224682652652258:=0
def tw2432821757031222018:=0
def tw15532690401532126978:=0
def tw16299216463595229986:=0
def tw6246370352400486242:=0
def tw12280620916543580034:=0
def tw8234138881440042946:=0
def tw1419431359218627522:=0
def tw9096329270879159363:=0
def tw4931318978292744451:=0
def tw10292783968472476931:=0
def tw5568992258176324099:=0
def tw5115122801325438467:=0
def tw9046706059601926691:=0
def tw11005662002679445059:=0
def tw12590470288404105955:=0
def tw11369284891339436835:=0
def tw4862694529096033059:=0
def tw605660260032380771:=0
def tw2784598156359302019:=0
def tw6284768621441924003:=0
def tw9862518564830118851:=0
def tw16748068436389798883:=0
def tw16606895054084879556:=0
def tw5224788397986563268:=0
def tw18085470069358968100:=0
def tw1089645855940535588:=0
def tw12978614489149903204:=0
def tw6478163572194428356:=0
def tw14279167139143511684:=0
def tw7525008140487545540:=0
def tw2299377655150878436:=0
def tw3539945382930640612:=0
def tw17940170682430615332:=0
def tw6375594393014289284:=0
def tw7659981341342595012:=0
def tw6501397171758084068:=0
def tw1639020382677875717:=0
def tw15426782598000867397:=0
def tw8311245563978913957:=0
def tw14401667877632012645:=0
def tw7918323979700237701:=0
def tw1487343005652234693:=0
def tw15895974609390125605:=0
def tw718883037694743109:=0
def tw8943595395635461797:=0
def tw10875880980002809573:=0
def tw18015900300835019557:=0
def tw17066705812983085893:=0
def tw16899020741854332741:=0
def tw5817961800388143973:=0
def tw2028655389805474661:=0
def tw14924657156981841030:=0
def tw15060676699589028134:=0
def tw11773954079674484070:=0
def tw10939009463583259014:=0
def tw11228636528256401926:=0
def tw4978403944433474150:=0
def tw5884088320532263590:=0
def tw3533537781248908966:=0
def tw4709334365434574534:=0
def tw1217701560320403206:=0
def tw2544507446261592838:=0
def tw14420899000152146694:=0
def tw4387758615370425126:=0
def tw13379946361627182918:=0
def tw5373913543272239175:=0
def tw18101920066757193831:=0
def tw13620750997674597607:=0
def tw5598898391989228807:=0
def tw830885468306195719:=0
def tw18054509507626640679:=0
def tw12901435954138773799:=0
def tw7347296639655786823:=0
def tw9226720667846503815:=0
def tw506953709734157735:=0
def tw15963790279061443079:=0
def tw11819900300195821127:=0
def tw16942744329832539144:=0
def tw10530082688960325736:=0
def tw7117281151973935656:=0
def tw5596080152349039176:=0
def tw6621899990240896616:=0
def tw13083074539609584264:=0
def tw17279285424767796968:=0
def tw16471982412338885576:=0
def tw6166357287137018921:=0
def tw17599115921970354313:=0
def tw1309933736324770057:=0
def tw15299893892376186153:=0
def tw11993464678308773193:=0
def tw12680653728914964841:=0
def tw6912467854881797513:=0
def tw13870135423776908745:=0
def tw5843017689023087081:=0
def tw2449503107699233257:=0
def tw16142706555577039369:=0
def tw17556013155011426889:=0
def tw4991791699621000777:=0
def tw12298733641870166633:=0
def tw15065808900924896041:=0
def tw18207835753309323081:=0
def tw6269308564050138985:=0
def tw8799687797834683305:=0
def tw2487377401351537641:=0
def tw12322389468200691689:=0
def tw7058577704867468298:=0
def tw5350729386995893258:=0
def tw1656353297782737034:=0
def tw14497821952871629962:=0
def tw3800627642161106122:=0
def tw12854230679395407146:=0
def tw5181685307678233994:=0
def tw13163435437591041418:=0
def tw4544767623915487658:=0
def tw6678003277070598698:=0
def tw18327258944499255882:=0
def tw8134141122739073642:=0
def tw10888952577337653898:=0
def tw13638066224169652970:=0
def tw10390134876791102314:=0
def tw8950786430848148394:=0
def tw3731243612018151467:=0
def tw7594489900187027531:=0
def tw15716897927226447947:=0
def tw10131575030556397707:=0
def tw16341855970215603339:=0
def tw6537339925772422315:=0
def tw8942190779456591051:=0
def tw13199378323827291467:=0
def tw15868460237888647499:=0
def tw15733940658886824331:=0
def tw13841495139261230507:=0
def tw18385933271766756811:=0
def tw2775506433475024683:=0
def tw12181209799249032011:=0
def tw10114378173301477227:=0
def tw152486352719567819:=0
def tw1233549418881273068:=0
def tw11936565236584543468:=0
def tw1077621614440222060:=0
def tw4013636236371297676:=0
def tw7566594009420231084:=0
def tw5541571566246432204:=0
def tw5610551401428518348:=0
def tw1546020173852409356:=0
def tw8439572489321439788:=0
def tw9239719297476952716:=0
def tw5368335776380271276:=0
def tw12691526930315677452:=0
def tw17450812927308813100:=0
def tw15516514907196349228:=0
def tw2805926363164439436:=0
def tw10452000470313827276:=0
def tw7433027237729657804:=0
def tw2141623575496889324:=0
def tw17214808796733832333:=0
def tw14388195806876122381:=0
def tw5606120513802893613:=0
def tw584915158362080557:=0
def tw8925338212496526669:=0
def tw7809645209837524301:=0
def tw3501657971367208269:=0
def tw18412448775973105005:=0
def tw10838763172115303789:=0
def tw4697400394933403053:=0
def tw355616569617804877:=0
def tw3815810478270168749:=0
def tw6430534113093612237:=0
def tw5225096861445030637:=0
def tw4755037283236926285:=0
def tw208975419573595981:=0
def tw15138079275276172237:=0
def tw14083221607380218829:=0
def tw14352511455904883693:=0
def tw14840035888161839182:=0
def tw13254749051134575726:=0
def tw14429623732265579630:=0
def tw16898503379802014958:=0
def tw11176581698849199342:=0
def tw15956687748859445678:=0
def tw5710816411100501646:=0
def tw18020665666608550606:=0
def tw15688839353531282158:=0
def tw14563431957105431438:=0
def tw13709237842838625327:=0
def tw1607766282571447471:=0
def tw15056307152156099791:=0
def tw5499206320926590159:=0
def tw16485473546190441775:=0
def tw6933131914998682031:=0
def tw14824841223301105199:=0
def tw15076029324355679887:=0
def tw4560739731244065455:=0
def tw5818318067290231503:=0
def tw16964894682272355183:=0
def tw5986064349191015311:=0
def tw14696668619622875023:=0
def tw8598852738576169903:=0
def tw4062411926612142128:=0
def tw14002194227219196048:=0
def tw5110491849541387440:=0
def tw6134600460845292848:=0
def tw16009191511985639728:=0
def tw18009934968144803408:=0
def tw1312017910912327408:=0
def tw11732492312175082288:=0
def tw5508957678491947824:=0
def tw15835594521977961424:=0
def tw775092321644212241:=0
def tw10387313779992524849:=0
def tw15655143097948072177:=0
def tw10554773668741159377:=0
def tw10063995953059250641:=0
def tw9840243892113067537:=0
def tw18151166850018744849:=0
def tw3362599943790464593:=0
def tw4391295447363420849:=0
def tw18414166082279167665:=0
def tw7260104910368256817:=0
def tw9807946430236527441:=0
def tw4818076718683148145:=0
def tw4251518136635743121:=0
def tw14131156146973294513:=0
def tw9287159613775206353:=0
def tw5188626616989132753:=0
def tw4225211434331450450:=0
def tw6338507107165414514:=0
def tw17588887662238546034:=0
def tw5764986899122958482:=0
def tw14823450347298139314:=0
def tw15898998117774079186:=0
def tw16762116893570434386:=0
def tw443409246785629554:=0
def tw2607356080084684178:=0
def tw4139431146233234866:=0
def tw11862671147230366226:=0
def tw1200608963129072274:=0
def tw7680208079859905683:=0
def tw9222886221724031187:=0
def tw8188871656504258867:=0
def tw4512554510142532147:=0
def tw2682210142731229779:=0
def tw6625291184488140467:=0
def tw1406898081605268179:=0
def tw10073506732247325651:=0
def tw15262614907359935508:=0
def tw4885884202097602580:=0
def tw9987244020433591348:=0
def tw10624872028888688692:=0
def tw8664458372823117876:=0
def tw15847203816855455828:=0
def tw13824010959150329940:=0
def tw3109837253549376596:=0
def tw17605365803803870324:=0
def tw1756268996949517428:=0
def tw9246519509903077492:=0
def tw1789146400057907380:=0
def tw5545487774159695028:=0
def tw4132029909348379828:=0
def tw8693635811355373780:=0
def tw4839227892160395540:=0
def tw13414455067608712500:=0
def tw13709802180551190868:=0
def tw8514478019590820244:=0
def tw10122758210040934804:=0
def tw10381079939621915220:=0
def tw10629380035720724052:=0
def tw10940384783755820692:=0
def tw429721459588421268:=0
def tw10502129754089977524:=0
def tw15113323579111365428:=0
def tw13337320749591667508:=0
def tw16352929520324461556:=0
def tw13229128432002338837:=0
def tw13583481679125000213:=0
def tw12650374988681202709:=0
def tw4550490249515597909:=0
def tw7205211507783401621:=0
def tw15122966080648769717:=0
def tw1653127463223306485:=0
def tw1863985323060581653:=0
def tw16234995327439299861:=0
def tw8020602950689549653:=0
def tw1934295248246921589:=0
def tw16465437695201239573:=0
def tw11611257177735987925:=0
def tw4476309014103038709:=0
def tw6087137738228766549:=0
def tw11361832961464454005:=0
def tw14543302369794541461:=0
def tw16029363811999089653:=0
def tw7317378361512611829:=0
def tw7024085136367538198:=0
def tw5497396950006104118:=0
def tw18369942537994106006:=0
def tw18140548489638843574:=0
def tw2081050538478266614:=0
def tw2027782663158320502:=0
def tw14921942072515400150:=0
def tw16396843589204351542:=0
def tw9784339312865353302:=0
def tw14072168899365717654:=0
def tw14774334095376150294:=0
def tw3148540822678707990:=0
def tw15494911175363948342:=0
def tw7691637765024210742:=0
def tw16282060768919755638:=0
def tw6504300644723534742:=0
def tw17990716962174004150:=0
def tw16927740112810464214:=0
def tw1936983101186667575:=0
def tw3086064943441166423:=0
def tw715983548167778551:=0
def tw11121913252715754903:=0
def tw18345386295686205879:=0
def tw18399262183103902199:=0
def tw1470654522037136919:=0
def tw17888170415846279767:=0
def tw14306541209659298391:=0
def tw11405417246457586263:=0
def tw341370436183842455:=0
def tw18024450265235501783:=0
def tw13843985276312308535:=0
def tw13523256616811728727:=0
def tw2955661877864472439:=0
def tw8328227513595579448:=0
def tw10098308754159888472:=0
def tw1888747218350196824:=0
def tw14384231095229817016:=0
def tw5886270673097667768:=0
def tw18359031370097757656:=0
def tw14513027000315133400:=0
def tw12525137055749313016:=0
def tw16040899115289929208:=0
def tw4446152280686003896:=0
def tw4925918401256674072:=0
def tw6776619806915539864:=0
def tw13054037072476791768:=0
def tw2633140892690039833:=0
def tw16243121048840731769:=0
def tw8217390238914612377:=0
def tw5156747927248935065:=0
def tw17319150622092740761:=0
def tw4392876162672877753:=0
def tw14029464731320397017:=0
def tw10988793335741255929:=0
def tw5026628277075521785:=0
def tw1878239291919416569:=0
def tw7089795080689762553:=0
def tw4831539820882268505:=0
def tw16775946142471031257:=0
def tw17041707927224305113:=0
def tw6426136014069219833:=0
def tw995328319192060473:=0
def tw2421792267545798393:=0
def tw3817244300160431865:=0
def tw4643171109561592601:=0
def tw12822416886477156217:=0
def tw15355212007061140377:=0
def tw5738809556863241242:=0
def tw4167338481559646298:=0
def tw10296008532876226714:=0
def tw5657833752553387194:=0
def tw3818994982225032410:=0
def tw5866645926749176058:=0
def tw13684996434937691386:=0
def tw6792859039905545498:=0
def tw5604654901319855386:=0
def tw17951663547442056538:=0
def tw11014041067427830106:=0
def tw11215339582672556442:=0
def tw7829485995531681242:=0
def tw17137469248091392506:=0
def tw12698916839767680538:=0
def tw2700302604566954618:=0
def tw3522247531970232986:=0
def tw14640062786036655834:=0
def tw13648930316167925530:=0
def tw17593471864409640794:=0
def tw3202397140196739962:=0
def tw16832880566535814042:=0
def tw1883773282804533339:=0
def tw14401723087085382843:=0
def tw3652318368257134779:=0
def tw6979105055249915195:=0
def tw5989532469647956315:=0
def tw4595246608065331579:=0
def tw3051600626554999227:=0
def tw7923527415413817947:=0
def tw7979051156668057403:=0
def tw11093764103979776827:=0
def tw15684509850964691803:=0
def tw496396641061211067:=0
def tw2032001904671432635:=0
def tw1532402721202503611:=0
def tw2360110870024486907:=0
def tw5907668703891736636:=0
def tw16076877110456830108:=0
def tw5614151122134390044:=0
def tw16522849500521262396:=0
def tw17096613532429362556:=0
def tw14015883207380191676:=0
def tw6655768198629811772:=0
def tw8021303225649007196:=0
def tw9235029727169481372:=0
def tw4712911765634069244:=0
def tw10005349895560113948:=0
def tw14291726730928283420:=0
def tw7598279719964007292:=0
def tw3408883557225003996:=0
def tw430565344535131100:=0
def tw14672264359418832892:=0
def tw4006541492100584444:=0
def tw1429230437825152029:=0
def tw18028868215658772509:=0
def tw13063043943722354749:=0
def tw16920221570239432797:=0
def tw3035546262373186749:=0
def tw7408740507421199581:=0
def tw18121862124606310685:=0
def tw2341242643231976797:=0
def tw524577155601224029:=0
def tw10200618928387982717:=0
def tw7688972936237974973:=0
def tw6419310588595097053:=0
def tw10331998906571932157:=0
def tw11999016724529598045:=0
def tw7915863127951579773:=0
def tw2704656651822301917:=0
def tw12613659236228520797:=0
def tw8024929687210953758:=0
def tw3607402583201703998:=0
def tw2891272734241752222:=0
def tw1929974500155479262:=0
def tw8897871162940441886:=0
def tw14474691086035498334:=0
def tw3358821918570006110:=0
def tw4894926960496885374:=0
def tw7674192273715202686:=0
def tw16902547584111023006:=0
def tw2678015998114519071:=0
def tw7131717350145487903:=0
def tw592970831979999295:=0
def tw9376888733660419167:=0
def tw17027852449473453215:=0
def tw8845074225286950143:=0
def tw13300235146351568223:=0
def tw1650028073014353279:=0
def tw155055364853714367:=0
def tw3523995242367860191:=0
def tw11747755172088185407:=0
def tw14542536424172370559:=0
def tw14522286025929265823:=0
def tw13810502792268554015:=0
def tw7667396442903316287:=0
def tw16425739435324833631:=0
def tw11396397486031008703:=0
def tw9814638314742399935:=0
def tw12351419618570867679:=0
def tw13298663568207682527:=0
def tw3411381871332012031:=0
end PySem.W.Fast
set_option maxHeartbeats 0 in
theorem PySem.Challenge.cw_secretparts_s04_told_holds : PySem.Challenge.rw_secretparts_s04_told.Holds := by
 w_on; k_headS
 (case hw=>exact ⟨[.int 0,.int 0,.int 0,.list []],by decide +kernel,by decide +kernel⟩)
 k_fillS
 intro w s₀ s₁ mg mb G Y fa o pm cd doc dV kV ho hd hcd hD hmg hg args vals as hpre hlay hrd hwl hlo
 have KX:=kIn_of Y
 have B : ∃ cs,Pg.Base (L2.KOf KX) mg cs:=by
  dsimp only [L2.KOf]
  refine' ⟨_,Pg.base_mk ?t_nod ?cl_nod ?na_nod ?t_boo ?cl_boo ?na_boo ?t_boo_add_person ?t_boo_add_node ?t_boo_add_let ?t_tok ?cl_tok ?na_tok ?t_bra ?cl_bra ?na_bra ?t_bra_end_both ?t_bra_end_formula ?t_rea ?cl_rea ?na_rea ?t_rea_now ?t_rea_take ?t_rea_take_written ?t_rea_take_new_name ?t_rea_take_known_name ?t_rea_take_prime ?t_rea_take_asked ?t_joined ?t_closed ?t_is_field ?t_end_of_signs ?t_run_end ?t_kind_of ?t_row_of ?t_tokens_of ?t_all_places ?t_keep_limits ?t_begin_brackets ?t_close_brackets ?t_read_between ?t_read_formula ?t_read_field ?t_read_people ?t_read_let ?t_book_of ?m_ref ?fc_ref ?l_ref ?c_ref ?k_ref ?rd_ref ?ga_ref ?nt_ref ?it_ref ?ie_ref ?t_oor ?nn_oor ?su_oor ?gx_oor ?t_ovl ?nn_ovl ?su_ovl ?gx_ovl ?t_cst ?nn_cst ?su_cst ?gx_cst ?z_len ?z_int ?z_all ?z_any ?z_range ?z_sum ?z_ord ?z_dict ?w_NAME ?w_NUMBER ?w_OTHER ?w_END ?w_LETTERS ?w_DIGITS ?w_WORD_SIGNS ?w_OTHER_SIGNS ?w_LONGEST_WORD ?w_LONGEST_NUMBER ?w_GREATEST_PRIME ?w_MOST_PEOPLE ?w_MOST_LETS ?w_MOST_PLACES ?w_LONGEST_TEXT ?v_KW ?l_KW ?v_BB ?l_BB ?d1 ?d2 ?d3 ?d4 ?d5 ?d6⟩
  case t_nod=>refine' Pg.cla_top KX G.T.g ?m ?t ?i ?n ?u ?l ?c ?k; case m | t | i | n | u | l | c | k=>k_is
  case cl_nod=>constructor <;> k_is
  case na_nod=>repeat (first | exact Pg.noat_nil | refine Pg.noat_cons (by k_is) ?_)
  case t_boo=>refine' Pg.cla_top KX G.T.g ?m ?t ?i ?n ?u ?l ?c ?k; case m | t | i | n | u | l | c | k=>k_is
  case cl_boo=>constructor <;> k_is
  case na_boo=>repeat (first | exact Pg.noat_nil | refine Pg.noat_cons (by k_is) ?_)
  case t_boo_add_person | t_boo_add_node | t_boo_add_let=>refine' Pg.met_top ?i ?n ?l ?c ?k; case i | n | l | c | k=>k_is
  case t_tok=>refine' Pg.cla_top KX G.T.g ?m ?t ?i ?n ?u ?l ?c ?k; case m | t | i | n | u | l | c | k=>k_is
  case cl_tok=>constructor <;> k_is
  case na_tok=>repeat (first | exact Pg.noat_nil | refine Pg.noat_cons (by k_is) ?_)
  case t_bra=>refine' Pg.cla_top KX G.T.g ?m ?t ?i ?n ?u ?l ?c ?k; case m | t | i | n | u | l | c | k=>k_is
  case cl_bra=>constructor <;> k_is
  case na_bra=>repeat (first | exact Pg.noat_nil | refine Pg.noat_cons (by k_is) ?_)
  case t_bra_end_both | t_bra_end_formula=>refine' Pg.met_top ?i ?n ?l ?c ?k; case i | n | l | c | k=>k_is
  case t_rea=>refine' Pg.cla_top KX G.T.g ?m ?t ?i ?n ?u ?l ?c ?k; case m | t | i | n | u | l | c | k=>k_is
  case cl_rea=>constructor <;> k_is
  case na_rea=>repeat (first | exact Pg.noat_nil | refine Pg.noat_cons (by k_is) ?_)
  case t_rea_now | t_rea_take | t_rea_take_written | t_rea_take_new_name | t_rea_take_known_name | t_rea_take_prime | t_rea_take_asked=>refine' Pg.met_top ?i ?n ?l ?c ?k; case i | n | l | c | k=>k_is
  case t_joined | t_closed | t_is_field | t_end_of_signs | t_run_end | t_kind_of | t_row_of | t_tokens_of | t_all_places | t_keep_limits | t_begin_brackets | t_close_brackets | t_read_between | t_read_formula | t_read_field | t_read_people | t_read_let | t_book_of=>refine' Pg.fun_top KX G.T.g ?m ?l ?c ?k; case m | l | c | k=>k_is
  case m_ref=>exact PySem.W.mg_of KX G.T.g (by k_is)
  case fc_ref | l_ref | c_ref | k_ref | rd_ref | ga_ref | nt_ref | it_ref | ie_ref=>k_is
  case t_oor=>refine' Pg.exc_top KX G.T.g ?m ?t ?i ?l ?c ?k ?u ?a ?o ?d ?b; (case m | t | i | l | c | k | u | a | d=>k_is); (case o | b=>kernel_rfl)
  case nn_oor | su_oor=>k_is
  case gx_oor=>constructor <;> k_is
  case t_ovl=>refine' Pg.exc_top KX G.T.g ?m ?t ?i ?l ?c ?k ?u ?a ?o ?d ?b; (case m | t | i | l | c | k | u | a | d=>k_is); (case o | b=>kernel_rfl)
  case nn_ovl | su_ovl=>k_is
  case gx_ovl=>constructor <;> k_is
  case t_cst=>refine' Pg.exc_top KX G.T.g ?m ?t ?i ?l ?c ?k ?u ?a ?o ?d ?b; (case m | t | i | l | c | k | u | a | d=>k_is); (case o | b=>kernel_rfl)
  case nn_cst | su_cst=>k_is
  case gx_cst=>constructor <;> k_is
  case z_len | z_int | z_all | z_any | z_range | z_sum | z_ord | z_dict=>exact PySem.W.mg_none_of KX G.T.g (by k_is)
  case w_NAME | w_NUMBER | w_OTHER | w_END | w_LETTERS | w_DIGITS | w_WORD_SIGNS | w_OTHER_SIGNS | w_LONGEST_WORD | w_LONGEST_NUMBER | w_GREATEST_PRIME | w_MOST_PEOPLE | w_MOST_LETS | w_MOST_PLACES | w_LONGEST_TEXT=>exact ⟨_,PySem.W.mg_of KX G.T.g (by k_is)⟩
  case v_KW=>exact PySem.W.mg_of KX G.T.g (by k_is)
  case l_KW=>k_is
  case v_BB=>exact PySem.W.mg_of KX G.T.g (by k_is)
  case l_BB=>k_is
  case d1 | d2 | d3 | d4 | d5 | d6=>first | rfl | decide | kernel_rfl
 obtain ⟨cs,B⟩:=B
 have X_TooMany : ∃ tm,Pg.OwnT (L2.KOf KX) mg "TooMany" "TooMany.__init__" Pg.st_TooMany_init tm:=by
  dsimp only [L2.KOf]
  refine' ⟨_,⟨?e,?n,?s,?g⟩⟩
  case e=>refine' Pg.exc_top KX G.T.g ?m ?t ?i ?l ?c ?k ?u ?a ?o ?d ?b; (case m | t | i | l | c | k | u | a | d=>k_is); (case o | b=>kernel_rfl)
  case n=>k_is
  case s=>exact ⟨_,PySem.W.mg_of KX G.T.g (by k_is),by k_is⟩
  case g=>constructor <;> k_is
 obtain ⟨tm_TooMany,X_TooMany⟩:=X_TooMany
 have R_br : ∀ P,Pg.BrT P w (L2.KOf KX) mg:=by dsimp only [L2.KOf]; intro P; exact Pg.brT_mk (PySem.W.mg_of KX G.T.g (by k_is)) (by k_is) (by k_is) (by k_is) (by k_is)
 have Z_list : mg "list" = none:=PySem.W.mg_none_of KX G.T.g (by k_is)
 have Z_str : mg "str" = none:=PySem.W.mg_none_of KX G.T.g (by k_is)
 have T_answered : Pg.FunT (L2.KOf KX) mg "answered" Pg.st_answered:=by dsimp only [L2.KOf]; refine' Pg.fun_top KX G.T.g ?m ?l ?c ?k; case m | l | c | k=>k_is
 have T_no_more : Pg.FunT (L2.KOf KX) mg "no_more" Pg.st_no_more:=by dsimp only [L2.KOf]; refine' Pg.fun_top KX G.T.g ?m ?l ?c ?k; case m | l | c | k=>k_is
 have T_counted : Pg.FunT (L2.KOf KX) mg "counted" Pg.st_counted:=by dsimp only [L2.KOf]; refine' Pg.fun_top KX G.T.g ?m ?l ?c ?k; case m | l | c | k=>k_is
 have T_bytes_told : Pg.FunT (L2.KOf KX) mg "bytes_told" Pg.st_bytes_told:=by dsimp only [L2.KOf]; refine' Pg.fun_top KX G.T.g ?m ?l ?c ?k; case m | l | c | k=>k_is
 have T_all_told : Pg.FunT (L2.KOf KX) mg "all_told" Pg.st_all_told:=by dsimp only [L2.KOf]; refine' Pg.fun_top KX G.T.g ?m ?l ?c ?k; case m | l | c | k=>k_is
 have T_asked_of : Pg.FunT (L2.KOf KX) mg "asked_of" Pg.st_asked_of:=by dsimp only [L2.KOf]; refine' Pg.fun_top KX G.T.g ?m ?l ?c ?k; case m | l | c | k=>k_is
 have T_sign_between : Pg.FunT (L2.KOf KX) mg "sign_between" Pg.st_sign_between:=by dsimp only [L2.KOf]; refine' Pg.fun_top KX G.T.g ?m ?l ?c ?k; case m | l | c | k=>k_is
 have T_set_apart : Pg.FunT (L2.KOf KX) mg "set_apart" Pg.st_set_apart:=by dsimp only [L2.KOf]; refine' Pg.fun_top KX G.T.g ?m ?l ?c ?k; case m | l | c | k=>k_is
 have T_joined_by : Pg.FunT (L2.KOf KX) mg "joined_by" Pg.st_joined_by:=by dsimp only [L2.KOf]; refine' Pg.fun_top KX G.T.g ?m ?l ?c ?k; case m | l | c | k=>k_is
 have T_formula_of : Pg.FunT (L2.KOf KX) mg "formula_of" Pg.st_formula_of:=by dsimp only [L2.KOf]; refine' Pg.fun_top KX G.T.g ?m ?l ?c ?k; case m | l | c | k=>k_is
 have C : Pg.CallT (L2.KOf KX) mg "told" Pg.st_told:=by
  dsimp only [L2.KOf]
  refine' Pg.call_mk KX G.T.g ?m ?l ?k
  case m | l | k=>k_is
 obtain ⟨⟨i0,i1,i2,l3,un⟩,hin,hask,rfl⟩:=(OpenSpec.pre_iff Pg.said args).mp hpre
 cases un
 have hask2:=(Pg.asked_eq i0 i1 i2 l3).symm.trans hask
 rw [Pg.enc_eq] at hwl
 cases hwl with | cons w0 hwl =>
 cases hwl with | cons w1 hwl =>
 cases hwl with | cons w2 hwl =>
 cases hwl with | cons w3 hwl =>
 cases hwl
 obtain ⟨t0,rfl⟩:=Pg.well_int w0
 obtain ⟨t1,rfl⟩:=Pg.well_int w1
 obtain ⟨t2,rfl⟩:=Pg.well_int w2
 obtain ⟨a3,vs3,rfl,ha3,hi3⟩:=Pg.well_ints w3
 refine enter_call (codeAny_mono (Pg.told_final KX G.T hmg hg (by kernel_rfl) (by kernel_rfl) (by kernel_rfl) B C X_TooMany R_br Z_list Z_str T_answered T_no_more T_counted T_bytes_told T_all_told T_asked_of T_sign_between T_set_apart T_joined_by T_formula_of ha3 hi3 hask2) fun r s' h=>?_)
 obtain ⟨l,H',rfl,hl,hok,h1,h2,h3⟩:=h
 exact Pg.good_list hok hl ((OpenSpec.post_iff Pg.said hin _ _).mpr (Pg.due_eq i0 i1 i2 l3)) h1 h2 h3
end
