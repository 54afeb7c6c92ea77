import PyProof.Rows.All
import Wide.All
import OpenK.AllK
import Wide.FinOn
import PyProof.EqAt
import PyProof.EqKinds
import PyProof.TupleCall
import KE.BitLaws
import PyProof.PassesOwn
import PyProof.StationsW
import PyProof.ExcInit
import PyProof.InstStoreFacts
import PyProof.ExcBaseAll.Exception
import Rb35Spec
import OpenK.KCls
import PyProof.ExcAttrAll.Exception
import KE.KLam
import PyRb35
import KE.KSortTupG
import KE.OsGo
import Open.SpecLaws
import PySem.Challenge.RW0_secretparts_s07_mend
import PySem.Challenge.RW_secretparts_s07_mend
open PySem.W(CodeHd ReadsAllW Well callWith_K callWith_K0 cellsFrom_some codeIn codeRec_of envX findCls findObj_own fnOf hideAll hideAll_get hideAll_none hideAll_size instObj isFn keepIn kla_fn kla_obj lookIn makesIn methodCall_KW methodObj mg_none_of mg_of noTabs nsIn of_hideAll plainGet plainGet_of plainOver readsIn specialIn tabIn tabObj tab_of takerIn)
open List(all_cons all_eq_true any_cons any_eq_true append_assoc append_nil drop_eq_getElem_cons filterMap_cons filter_append filter_cons_of_neg filter_cons_of_pos find?_cons find?_some flatMap_cons foldl_append foldl_cons foldl_nil forIn_nil getD_eq_getElem?_getD getElem?_append_left getElem?_append_right getElem?_eq_getElem getElem?_map getElem?_set_self getElem_mem length_append length_cons length_drop length_filter_le length_map length_nil length_range length_replicate length_reverse length_singleton length_take lookup_cons map_append map_congr_left map_cons map_drop map_map map_nil map_take mem_append mem_append_left mem_append_right mem_cons mem_cons_of_mem mem_cons_self mem_filter mem_filterMap mem_flatMap mem_map mem_of_find?_eq_some mem_of_getElem? mem_of_mem_drop mem_of_mem_take mem_range mem_range'_1 mem_singleton nil_append nodup_append nodup_cons nodup_nil not_mem_nil of_mem_zip pairwise_map range_succ range_succ_eq_map reverse_cons size_toArray sum_append sum_cons takeWhile_cons take_append_drop take_length take_of_length_le take_succ take_zero toList_toArray zip_cons_cons)
open Nat(add_le_add_left add_zero le_add_right le_of_dvd le_of_eq le_of_lt le_of_succ_le le_refl le_succ le_succ_of_le le_trans lt_irrefl lt_of_le_of_lt lt_of_lt_of_le lt_succ_self lt_trans min_eq_left min_le_left min_self mod_lt mul_comm ne_of_gt ne_of_lt not_lt_zero sub_self zero_add zero_le)
open Int(add_emod emod_emod emod_lt_of_pos emod_nonneg mul_add mul_assoc mul_emod mul_zero natCast_add neg_mul sub_mul toNat_natCast)
open Bool(and_eq_true and_eq_true_iff false_eq_true not_eq_true')
open Option(getD_none getD_some isSome_iff_exists isSome_map isSome_some map_eq_some_iff toList_some)
open PySem.Heap(get?_push_of_some get?_push_size lt_size size_push)
open PySem.F(plainAttrs_list slot_dict_get slot_list_pop type_list_pop)
set_option linter.all false
set_option maxRecDepth 100000
set_option maxHeartbeats 4000000
set_option Elab.async false
namespace L2
open PySem PySem.Spec PyProof.Rows
abbrev Key:=Sum Int Str
def tO:Key→Value→Bool
 | .inl k,v=>Value.isInt k v
 | .inr x,v=>Value.isStrOf x v
def ael(w:World):Key→Int
 | .inl k=>hashInt k
 | .inr x=>hashStr w x
theorem dI:∀{k:Key}{v:Value},tO k v=true→(∃i t,k=Sum.inl i∧v=Value.int i t)∨(∃x t,k=Sum.inr x∧v=Value.str x t)
 | .inl i,v,h=>by
  obtain⟨t,e⟩:=Value.isInt_shape (k:=i) (v:=v) h;exact .inl ⟨i,t,rfl,e⟩
 | .inr x,v,h=>by
  obtain⟨t,e⟩:=Value.isStrOf_shape (x:=x) (v:=v) h;exact .inr ⟨x,t,rfl,e⟩
theorem Pn(i:Int)(t:Tok):tO (.inl i) (.int i t)=true:=by simp[tO,Value.isInt]
theorem Pq(x:Str)(t:Tok):tO (.inr x) (.str x t)=true:=by simp[tO,Value.isStrOf]
theorem Zk(a b:Int):decide ((Sum.inl a:Key)=Sum.inl b)=(a==b):=by
 by_cases e:a=b
 ·subst e;simp
 ·have h:¬(Sum.inl a:Key)=Sum.inl b:=fun q=>e (Sum.inl.inj q);rw[decide_eq_false h];exact(beq_eq_false_iff_ne.mpr e).symm
theorem Zm(a b:Str):decide ((Sum.inr a:Key)=Sum.inr b)=decide (a=b):=by
 by_cases e:a=b
 ·subst e;simp
 ·have h:¬(Sum.inr a:Key)=Sum.inr b:=fun q=>e (Sum.inr.inj q);rw[decide_eq_false h,decide_eq_false e]
theorem Zn(a:Int)(b:Str):decide ((Sum.inl a:Key)=Sum.inr b)=false:=decide_eq_false (fun q=>nomatch q)
theorem Zo(a:Str)(b:Int):decide ((Sum.inr a:Key)=Sum.inl b)=false:=decide_eq_false (fun q=>nomatch q)
def cN(prog:Program)(w:World):PySem.KeyKind prog w Key where
 is:=tO
 hash:=ael w
 inj:=fun v a b ha hb=>by
  rcases dI ha with⟨i,t,rfl,rfl⟩|⟨x,t,rfl,rfl⟩
  ·rcases dI hb with⟨j,u,rfl,e⟩|⟨y,u,rfl,e⟩
   ·injection e with e1 _;rw[e1]
   ·exact nomatch e
  ·rcases dI hb with⟨j,u,rfl,e⟩|⟨y,u,rfl,e⟩
   ·exact nomatch e
   ·injection e with e1 _;rw[e1]
 byValue:=fun k v h=>by
  rcases dI h with⟨i,t,rfl,rfl⟩|⟨x,t,rfl,rfl⟩<;>rfl
 pyHash:=fun hv h=>by
  rcases dI hv with⟨i,t,rfl,rfl⟩|⟨x,t,rfl,rfl⟩
  ·exact wpAny_pyHash_int h
  ·exact wpAny_pyHash_str h
 eqBool:=fun hu hv h=>by
  rcases dI hu with⟨i,t,rfl,rfl⟩|⟨x,t,rfl,rfl⟩
  ·rcases dI hv with⟨j,u,rfl,rfl⟩|⟨y,u,rfl,rfl⟩
   ·rw[Zk]at h;exact wpAny_eqBool_int h
   ·rw[Zn]at h;exact SeqAt.EqAt.int_str i t y u _ _ _ _ h
  ·rcases dI hv with⟨j,u,rfl,rfl⟩|⟨y,u,rfl,rfl⟩
   ·rw[Zo]at h;exact SeqAt.EqAt.str_int x t j u _ _ _ _ h
   ·rw[Zm]at h;exact wpAny_eqBool_str h
 «strs»:=fun k x t v h=>by
  rcases dI h with⟨i,u,rfl,e⟩|⟨y,u,rfl,e⟩
  ·exact nomatch e
  ·injection e with e1 _
   subst e1;cases v<;>rfl
theorem Fj(prog:Program)(w:World)(i:Int)(t:Tok):(cN prog w).is (.inl i) (.int i t)=true:=Pn i t
theorem Fo(prog:Program)(w:World)(x:Str)(t:Tok):(cN prog w).is (.inr x) (.str x t)=true:=Pq x t
inductive V where
 |non|bl (b:Bool)|int (i:Int)|str (x:Str)|Rz (b:Array UInt8)|flt (b:UInt64)|ref (a:Addr)|ty (n:String)
 deriving DecidableEq
def RelV:V→Value→Prop
 | .non,u=>u=Value.none
 | .bl b,u=>u=Value.bool b
 | .int i,u=>∃t,u=Value.int i t
 | .str x,u=>∃t,u=Value.str x t
 | .Rz b,u=>∃t,u=Value.bytes b t
 | .flt b,u=>∃t,u=Value.float b t
 | .ref a,u=>u=Value.ref a
 | .ty n,u=>u=Value.type n
abbrev Vals:List V→List Value→Prop:=Paired RelV
theorem Vals.length{xs:List V}{us:List Value}(r:Vals xs us):xs.length=us.length:=Paired.length r
theorem Vals.get:∀{xs:List V}{us:List Value}{i:Nat}{x:V},Vals xs us→xs[i]?=some x→∃u,us[i]?=some u∧RelV x u
 |_,_,_,_,.nil,e=>by simp at e
 |_,_,0,_,.cons r _,e=>by simp at e;subst e;exact⟨_,rfl,r⟩
 |_,_,i+1,x,.cons _ t,e=>by
  obtain⟨u,h1,h2⟩:=Vals.get (i:=i) (x:=x) t (by simpa using e);exact⟨u,by simpa using h1,h2⟩
theorem Vals.append:∀{xs ys:List V}{us ws:List Value},Vals xs us→Vals ys ws→Vals (xs++ys) (us++ws)
 |_,_,_,_,.nil,s=>s
 |_,_,_,_,.cons r t,s=>.cons r (Vals.append t s)
theorem Vals.take:∀{xs:List V}{us:List Value}(n:Nat),Vals xs us→Vals (xs.take n) (us.take n)
 |_,_,0,_=>.nil
 |_,_,_+1,.nil=>.nil
 |_,_,n+1,.cons r t=>.cons r (Vals.take n t)
theorem Vals.drop:∀{xs:List V}{us:List Value}(n:Nat),Vals xs us→Vals (xs.drop n) (us.drop n)
 |_,_,0,r=>r
 |_,_,_+1,.nil=>.nil
 |_,_,n+1,.cons _ t=>Vals.drop n t
def oE:Option V→Option Value→Prop
 |some v,some u=>RelV v u
 |none,none=>True
 |_,_=>False
def KV{κ:Type}:List (κ×V)→List (κ×Value)→Prop:=Paired fun (p:κ×V) (q:κ×Value)=>p.1=q.1∧RelV p.2 q.2
def kV:Key→V
 | .inl i=>.int i
 | .inr x=>.str x
inductive HO where
 |lst (xs:List V)
 |tup (xs:List V)
 |dK (kvs:List (Key×V))|dT (kvs:List (List Key×V))
 |set (S:Int→Bool) (n:Nat)
 |ins (C dx:Addr) (fs:List (Str×V))
 |own (x:Addr)
 |xd (fs:List (Str×V))
 |met (f x:Addr)
 |rng (lo hi:Int)
 |Fp (o:Obj) (u:HO)
 |pJ (ps:Array Value)
 |ext (φ:Heap→Prop)
abbrev Hp:=Addr→Option HO
def upd(H:Hp)(a:Addr)(o:HO):Hp:=fun b=>if b=a then some o else H b
theorem ao{H:Hp}{a:Addr}{o:HO}:upd H a o a=some o:=by unfold upd;rw[if_pos rfl]
theorem aj{H:Hp}{a b:Addr}{o:HO}(h:b≠a):upd H a o b=H b:=by unfold upd;rw[if_neg h]
theorem gM{H:Hp}{a:Addr}{o u:HO}:upd (upd H a o) a u=upd H a u:=by
 funext b;unfold upd;split<;>rfl
theorem iW{H:Hp}{a b:Addr}{o u:HO}(h:H a=some o)(h':H b=some u)(d:o≠u):a≠b:=by
 intro e;subst e;rw[h]at h';exact d (Option.some.inj h')
theorem aB{H:Hp}{a b:Addr}{o:HO}(h:H a=some o)(h':H b=none):a≠b:=by
 intro e;subst e;rw[h]at h';cases h'
section
variable(P:Program)(w:World)
def eZ(H:Hp)(h:Heap)(a:Addr):HO→Prop
 | .lst xs=>xs.length≤sizeLine∧∃(its:List Value)(n:Nat),Vals xs its∧h.get? a=some { cls:=.type "list",data:=.seq its.toArray n }
 | .tup xs=>xs.length≤sizeLine∧∃its:List Value,Vals xs its∧IsTup h a its.toArray
 | .dK kvs=>kvs.length≤sizeLine∧(a==sysModules)=false∧∃vs,KV kvs vs∧h.DictOf (cN P w) a vs
 | .dT kvs=>kvs.length≤sizeLine∧(a==sysModules)=false∧∃xs:List (List Key×Addr×Value),
   Paired (fun (p:List Key×V) (q:List Key×Addr×Value)=>p.1=q.1∧H q.2.1=some (.tup (p.1.map kV))∧RelV p.2 q.2.2) kvs xs ∧
   ∃o es ep,h.get? a=some o∧o.ExactDict∧o.data=.dict es ep∧es.toList=xs.map (entryOfKey (tupleKind (cN P w)))∧(xs.map (·.1)).Nodup
 | .set S n=>h.SetOf (intKind P w) a S n
 | .ins C dx fs=>H dx=some (.own a)∧fs.length≤1000∧dx≠a∧h.get? a=some (instObj C dx) ∧
   ∃mA,h.Ns1 dx mA∧(∀f,oE (fs.lookup f) (mA f))∧PySem.Within mA (fs.map (·.1))
 | .own _=>∃o,h.get? a=some o
 | .xd fs=>∃mA,h.Ns1 a mA∧∀f,oE (fs.lookup f) (mA f)
 | .rng lo hi=>∃t u v,h.get? a=some { cls:=.type "range",data:=.fields #[.int lo t,.int hi u,.int 1 v] }
 | .Fp o u=>h.get? a=some o∧eZ H h a u
 | .pJ ps=>h.get? a=some { cls:=.none,data:=.fields ps }
 | .met f x=>h.get? a=some (methodObj (.ref f) (.ref x))
 | .ext φ=>φ h∧(∃o,h.get? a=some o)∧∀h1 h2:Heap,φ h1→(∀o,h1.get? a=some o→h2.get? a=some o)→φ h2
def oF(H:Hp)(h:Heap):Prop:=∀a o,H a=some o→eZ P w H h a o
end
section
variable{P:Program}{w:World}{H H':Hp}{h h':Heap}{a:Addr}{o:HO}
theorem eZ.lt(x:eZ P w H h a o):a<h.objs.size:=by
 cases o with
 |lst xs=>obtain⟨_,_,_,_,e⟩:=x;exact lt_size e
 |tup xs=>obtain⟨_,_,_,p⟩:=x;exact p.lt
 |dK kvs=>obtain⟨_,_,_,_,o,_,_,e,_⟩:=x;exact lt_size e
 |dT kvs=>obtain⟨_,_,_,_,o,_,_,e,_⟩:=x;exact lt_size e
 |set S n=>obtain⟨o,_,_,_,e,_⟩:=x;exact lt_size e
 |ins C dx fs=>obtain⟨_,_,_,e,_⟩:=x;exact lt_size e
 |own y=>obtain⟨_,e⟩:=x;exact lt_size e
 |xd fs=>obtain⟨_,⟨_,_,_,e,_⟩,_⟩:=x;exact lt_size e
 |rng lo hi=>obtain⟨_,_,_,e⟩:=x;exact lt_size e
 |Fp ob u=>obtain⟨e,_⟩:=x;exact lt_size e
 |pJ ps=>exact lt_size (show h.get? a=some _ from x)
 |met f y=>exact lt_size (show h.get? a=some _ from x)
 |ext φ=>obtain⟨_,⟨_,e⟩,_⟩:=x;exact lt_size e
theorem Paired.RN{α β:Type}{F G:α→β→Prop}:∀{l₁:List α}{l₂:List β},Paired F l₁ l₂→(∀a b,F a b→G a b)→Paired G l₁ l₂
 |_,_,.nil,_=>.nil
 |_,_,.cons r t,f=>.cons (f _ _ r) (Paired.RN t f)
theorem eZ.stay(x:eZ P w H h a o)(k:∀b u,(b=a∨H b=some (.own a))→h.get? b=some u→h'.get? b=some u)(ho:∀b,H b=some (.own a)→H' b=some (.own a))(ht:∀b xs,H b=some (.tup xs)→H' b=some (.tup xs)):eZ P w H' h' a o:=by
 induction o with
 |lst xs=>obtain⟨z,its,n,r,e⟩:=x;exact⟨z,its,n,r,k _ _ (.inl rfl) e⟩
 |tup xs=>obtain⟨z,its,r,ob,e,c⟩:=x;exact⟨z,its,r,ob,k _ _ (.inl rfl) e,c⟩
 |dK kvs=>obtain⟨z,y,vs,r,ob,es,ep,e,c⟩:=x;exact⟨z,y,vs,r,ob,es,ep,k _ _ (.inl rfl) e,c⟩
 |dT kvs=>
  obtain⟨z,y,xs,r,ob,es,ep,e,c⟩:=x;exact⟨z,y,xs,Paired.RN r fun p q z=>⟨z.1,ht _ _ z.2.1,z.2.2⟩,ob,es,ep,k _ _ (.inl rfl) e,c⟩
 |set S n=>obtain⟨ob,es,ep,t,e,c⟩:=x;exact⟨ob,es,ep,t,k _ _ (.inl rfl) e,c⟩
 |ins C dx fs=>
  obtain⟨d,z,ne,e,mA,⟨od,es,ep,e2,c⟩,r⟩:=x;exact⟨ho _ d,z,ne,k _ _ (.inl rfl) e,mA,⟨od,es,ep,k _ _ (.inr d) e2,c⟩,r⟩
 |own y=>obtain⟨ob,e⟩:=x;exact⟨ob,k _ _ (.inl rfl) e⟩
 |xd fs=>obtain⟨mA,⟨od,es,ep,e,c⟩,r⟩:=x;exact⟨mA,⟨od,es,ep,k _ _ (.inl rfl) e,c⟩,r⟩
 |rng lo hi=>obtain⟨t,u,v,e⟩:=x;exact⟨t,u,v,k _ _ (.inl rfl) e⟩
 |Fp ob u ih=>obtain⟨e,q⟩:=x;exact⟨k _ _ (.inl rfl) e,ih q⟩
 |pJ ps=>
  have e:h.get? a=some { cls:=.none,data:=.fields ps }:=x;show h'.get? a=some { cls:=.none,data:=.fields ps };exact k a _ (.inl rfl) e
 |met f y=>
  have e:h.get? a=some (methodObj (.ref f) (.ref y)):=x;show h'.get? a=some (methodObj (.ref f) (.ref y));exact k a _ (.inl rfl) e
 |ext φ=>obtain⟨p,⟨o,e⟩,st⟩:=x;exact⟨st _ _ p fun o q=>k _ _ (.inl rfl) q,⟨o,k _ _ (.inl rfl) e⟩,st⟩
theorem oF.lt(x:oF P w H h)(e:H a=some o):a<h.objs.size:=(x a o e).lt
theorem oF.fresh(x:oF P w H h)(e:h.objs.size≤a):H a=none:=by
 cases q:H a with
 |none=>rfl
 |some u=>exact absurd (lt_of_lt_of_le (x.lt q) e) (lt_irrefl _)
theorem oF.kept(x:oF P w H h)(k:∀b u,h.get? b=some u→h'.get? b=some u):oF P w H h':=fun a o e=>
 (x a o e).stay (fun b u _ q=>k b u q) (fun _ q=>q) fun _ _ q=>q
theorem oF.laid(x:oF P w H h)(k:∀b u,h.get? b=some u→h'.get? b=some u)(hp:h.objs.size≤a)(new:eZ P w (upd H a o) h' a o):oF P w (upd H a o) h':=fun b u e=>by
 have hn:=x.fresh hp;by_cases hb:b=a
 ·subst hb;rw[ao]at e;cases e;exact new
 ·rw[aj hb]at e;exact(x b u e).stay (fun c v _ q=>k c v q) (fun c q=>by rw[aj (aB q hn)];exact q) fun c xs q=>by rw[aj (aB q hn)];exact q
end
def Rd(H:Hp)(a:Addr)(u:HO):Prop:=H a=some u∨∃o,H a=some (.Fp o u)
theorem Rd.ok{P:Program}{w:World}{H:Hp}{h:Heap}{a:Addr}{u:HO}(r:Rd H a u)(x:oF P w H h):eZ P w H h a u:=by
 rcases r with r|⟨o,r⟩
 ·exact x a u r
 ·obtain⟨_,q⟩:=x a _ r;exact q
def Mut:Option HO→Prop
 |some (.lst _)=>True
 |some (.dK _)=>True
 |some (.dT _)=>True
 |some (.set _ _)=>True
 |some (.ins _ _ _)=>True
 |some (.ext _)=>True
 |_=>False
section
variable{P:Program}{w:World}{H:Hp}{h h':Heap}{x e:Addr}{o':HO}
theorem oF.write(ok:oF P w H h)(mu:Mut (H x))(he:e=x∨H e=some (.own x))(k:∀b u,b≠e→h.get? b=some u→h'.get? b=some u)(heo:∃u,h'.get? e=some u)(new:eZ P w (upd H x o') h' x o'):oF P w (upd H x o') h':=fun b u q=>by
 have abG:∀c y,H c=some (.own y)→c≠x:=fun c y r z=>by subst z;rw[r]at mu;exact mu
 have aem:∀c xs,H c=some (.tup xs)→c≠x:=fun c xs r z=>by subst z;rw[r]at mu;exact mu
 by_cases hb:b=x
 ·subst hb;rw[ao]at q;cases q;exact new
 ·rw[aj hb]at q;by_cases hbe:b=e
  ·have q':H b=some (.own x):=by
    rcases he with z|z
    ·exact absurd (hbe.trans z) hb
    ·rw[hbe];exact z
   rw[q]at q';cases q';obtain⟨v,hv⟩:=heo;exact⟨v,by rw[hbe];exact hv⟩
  ·refine(ok b u q).stay (fun c v hc r=>k c v ?_ r) (fun c r=>by rw[aj (abG c b r)];exact r) fun c xs r=>by rw[aj (aem c xs r)];exact r
   rcases hc with rfl|hc
   ·exact hbe
   ·rintro rfl;rcases he with z|z
    ·exact abG c b hc z
    ·rw[hc]at z;cases z;exact hb rfl
end
structure Un(fs ex:List Addr)(H H':Hp)(h h':Heap):Prop where
 keep:∀b o,h.get? b=some o→H b=none→b∉fs→b∉ex→h'.get? b=some o
 slot:∀b o,h.get? b=some o→H b=none→b∈fs→b∉ex→∃sl,h'.get? b=some { o with slots:=sl }
 free:∀b o,h.get? b=some o→H b=none→b∉ex→H' b=none
 there:∀b o,h.get? b=some o→b∉ex→∃o',h'.get? b=some o'
 tups:∀b xs,H b=some (.tup xs)→H' b=some (.tup xs)
 kO:∀b o u,H b=some (.Fp o u)→H' b=some (.Fp o u)
 kW:∀b ps,H b=some (.pJ ps)→∃more,H' b=some (.pJ (ps++more))
section
variable{fs fs' ex ex':List Addr}{H H1 H2:Hp}{h h1 h2 h':Heap}{a x e:Addr}{o:HO}
theorem Un.any(u:Un fs ex H H1 h h1){b:Addr}{ob:Obj}(q:h.get? b=some ob)(n:H b=none)(hx:b∉ex):∃sl,h1.get? b=some { ob with slots:=sl }:=by
 by_cases hb:b∈fs
 ·exact u.slot b ob q n hb hx
 ·exact⟨ob.slots,u.keep b ob q n hb hx⟩
theorem Un.trans(a:Un fs ex H H1 h h1)(b:Un fs ex H1 H2 h1 h2):Un fs ex H H2 h h2 where
 keep:=fun c ob q n hc hx=>b.keep c ob (a.keep c ob q n hc hx) (a.free c ob q n hx) hc hx
 slot:=fun c ob q n hc hx=>by
  obtain⟨sl,e1⟩:=a.slot c ob q n hc hx;obtain⟨sl',e2⟩:=b.slot c _ e1 (a.free c ob q n hx) hc hx;exact⟨sl',e2⟩
 free:=fun c ob q n hx=>by
  obtain⟨o',e1⟩:=a.there c ob q hx;exact b.free c o' e1 (a.free c ob q n hx) hx
 there:=fun c ob q hx=>by
  obtain⟨o',e1⟩:=a.there c ob q hx;exact b.there c o' e1 hx
 tups:=fun c xs q=>b.tups c xs (a.tups c xs q)
 kO:=fun c ob xs q=>b.kO c ob xs (a.kO c ob xs q)
 kW:=fun c ps q=>by
  obtain⟨m1,e1⟩:=a.kW c ps q;obtain⟨m2,e2⟩:=b.kW c _ e1;exact⟨m1++m2,by rw[e2,Array.append_assoc]⟩
theorem Un.kept(k:∀b u,h.get? b=some u→h'.get? b=some u):Un fs ex H H h h':=
 ⟨fun b ob q _ _ _=>k b ob q,fun b ob q _ _ _=>⟨ob.slots,k b ob q⟩,fun _ _ _ n _=>n,fun b ob q _=>⟨ob,k b ob q⟩,fun _ _ q=>q,fun _ _ _ q=>q,fun _ ps q=>⟨#[],by rw[q];simp⟩⟩
theorem Un.refl:Un fs ex H H h h:=Un.kept fun _ _ q=>q
theorem Un.laid(k:∀b u,h.get? b=some u→h'.get? b=some u)(hp:h.objs.size≤a)(hn:H a=none):Un fs ex H (upd H a o) h h' where
 keep:=fun b u q _ _ _=>k b u q
 slot:=fun b u q _ _ _=>⟨u.slots,k b u q⟩
 free:=fun b u q n _=>by rw[aj (ne_of_lt (lt_of_lt_of_le (lt_size q) hp))];exact n
 there:=fun b u q _=>⟨u,k b u q⟩
 tups:=fun b xs q=>by rw[aj (aB q hn)];exact q
 kO:=fun b u xs q=>by rw[aj (aB q hn)];exact q
 kW:=fun b ps q=>⟨#[],by rw[aj (aB q hn),q];simp⟩
theorem Un.write(mu:Mut (H x))(he:e=x∨H e=some (.own x))(k:∀b u,b≠e→h.get? b=some u→h'.get? b=some u)(heo:∃u,h'.get? e=some u):Un fs ex H (upd H x o) h h':=by
 have hx:∀b,H b=none→b≠x:=fun b n z=>by subst z;rw[n]at mu;exact mu
 have hb:∀b,H b=none→b≠e:=fun b n z=>by
  subst z;rcases he with r|r
  ·exact hx b n r
  ·rw[n]at r;cases r
 have hm:∀b u,H b=some u→¬Mut (some u)→b≠x:=fun b u q nm z=>by subst z;rw[q]at mu;exact nm mu
 refine⟨fun b u q n _ _=>k b u (hb b n) q,fun b u q n _ _=>⟨u.slots,k b u (hb b n) q⟩,fun b u q n _=>by rw[aj (hx b n)];exact n,fun b u q _=>?_,
  fun b xs q=>by rw[aj (hm b _ q fun z=>z)];exact q,fun b u xs q=>by rw[aj (hm b _ q fun z=>z)];exact q,fun b ps q=>⟨#[],by rw[aj (hm b _ q fun z=>z),q];simp⟩⟩
 by_cases hbe:b=e
 ·subst hbe;exact heo
 ·exact⟨u,k b u hbe q⟩
end
def trk(h:Heap)(H:Hp):List Addr:=(List.range h.objs.size).filter fun a=>(H a).isSome
def uR(h:Heap)(H:Hp):Heap:=hideAll h (trk h H)
theorem Pu(h:Heap)(H:Hp):(uR h H).objs.size=h.objs.size:=hideAll_size _ _
theorem tQ{h:Heap}{H:Hp}{b:Addr}{o:Obj}(e:h.get? b=some o)(n:H b=none):(uR h H).get? b=some o:=
 hideAll_get _ e fun hm=>by
  have q:(H b).isSome=true:=(mem_filter.mp hm).2;rw[n]at q;simp at q
theorem Wz{h:Heap}{H:Hp}{b:Addr}{o:Obj}(e:(uR h H).get? b=some o):h.get? b=some o∧H b=none:=by
 have e':h.get? b=some o:=of_hideAll (trk h H) e;refine⟨e',?_⟩;cases q:H b with
 |none=>rfl
 |some x=>
  have hm:b∈trk h H:=mem_filter.mpr ⟨mem_range.mpr (lt_size e'),by simp[q]⟩;have z:(uR h H).get? b=none:=hideAll_none (trk h H) hm;rw[z]at e;cases e
structure Mod(K:PySem.W.Frag)(mg:Str→Option Value)(base:Heap):Prop where
 Wo:K.In base
 glob:base.Ns mainGlobals mg
 blt:∃mb,base.Ns builtinsNs mb∧∀x:Str,x≠"__name__"→mb x=bootBuiltins x
 nolimit:base.NoLimit
structure Cx where
 prog:Program
 w:World
 K:PySem.W.Frag
 mg:Str→Option Value
 base:Heap
 A:Around
 N:List Str
 s_0:Shared
 Zq:Hp
 env:Env
 outer:List Env
 stack:List Env
 ex:List Addr
 fn:Str→Bool
 calm:Bool
 pn:List (Addr×Obj)
 xe:Value→Shared→Prop
def frs(l:List Env):List Addr:=l.filterMap (·.frame)
abbrev Cx.fs(X:Cx):List Addr:=frs X.outer
def Zr(sc:Scope)(x:Str):Prop:=sc.names.lookup x=some .local∨sc.names.lookup x=some .cell∨sc.names.lookup x=some .free
def Loc(sc:Scope)(x:Str):Prop:=sc.names.lookup x=some .local∨sc.names.lookup x=some .cell
def Look(env:Env)(h:Heap)(m:Str→Option Value)(x:Str)(u:Value):Prop:=
 (env.kindOf x=some .local∧m x=some u)∨((env.kindOf x=some .cell∨env.kindOf x=some .free)∧∃c,env.cells.lookup x=some c∧h.IsCell c (some u))
structure Cx.Ok(X:Cx):Prop where
 mod:Mod X.K X.mg X.base
 kind:X.env.scope.kind=.function
 glob:X.env.globals=mainGlobals
 blt:X.env.builtins=builtinsNs
 above:X.s_0.heap.objs.size≤X.env.locals
 inj:∀x y c,X.env.cells.lookup x=some c→X.env.cells.lookup y=some c→x=y
 has:∀x,(X.env.kindOf x=some .cell∨X.env.kindOf x=some .free)→∃c,X.env.cells.lookup x=some c
 cab:∀x c,X.fn x=true→X.env.cells.lookup x=some c→X.s_0.heap.objs.size≤c
 hd:X.calm=true→X.A.handled=none
 frames:X.A.frames=some X.stack
 stk:X.stack=X.outer∨(X.stack=X.env::X.outer∧X.env.frame=some X.env.locals)
 exf:∀b∈X.ex,b≠X.env.locals∧∀x c,X.env.cells.lookup x=some c→c≠b
 bs:∀b o,X.base.get? b=some o→X.s_0.heap.get? b=some o∧X.Zq b=none
 Px:X.base.objs.size≤X.s_0.heap.objs.size
 Py:∀b o,X.base.get? b=some o→b∉X.ex
 Pz:∀b∈X.ex,b∉X.fs
 oG:X.s_0.heap.FunFrames X.base X.outer
 RP:∀b∈X.fs,X.Zq b=none
structure Inv(X:Cx)(pins:List (Addr×Obj))(σ:List (Option V))(H:Hp)(s:Shared):Prop where
 ok:X.Ok
 os:s.os=X.s_0.os
 bare:AllBare s.gens
 base:Un X.fs X.ex X.Zq H X.s_0.heap s.heap
 loc:∃m,s.heap.Ns X.env.locals m∧∀(i:Nat)(x:Str)(v:V),X.N[i]?=some x→σ[i]?=some (some v)→Zr X.env.scope x→∃u,RelV v u∧Look X.env s.heap m x u
 cell:∀x c,X.env.cells.lookup x=some c→∃v,s.heap.IsCell c v
 free:H X.env.locals=none
 jQ:∀x c,X.env.cells.lookup x=some c→H c=none
 pin:∀p∈X.pn++pins,s.heap.get? p.1=some p.2∧H p.1=none∧p.1≠X.env.locals∧p.1∉X.fs∧∀v,p.2.data≠.cell v
 hok:oF X.prog X.w H s.heap
 len:σ.length=X.N.length
section
variable{X:Cx}{pins:List (Addr×Obj)}{σ:List (Option V)}{H H':Hp}{s:Shared}{h':Heap}
theorem Cx.Ok.PB(ok:X.Ok){b:Addr}{o:Obj}(e:X.base.get? b=some o):b∉X.fs:=fun hb=>by
 have:=(ok.oG.mem hb).1;rw[e]at this;cases this
theorem Inv.bs(I:Inv X pins σ H s):∀b o,X.base.get? b=some o→s.heap.get? b=some o∧H b=none:=fun b o e=>
 ⟨I.base.keep b o (I.ok.bs b o e).1 (I.ok.bs b o e).2 (I.ok.PB e) (I.ok.Py b o e),I.base.free b o (I.ok.bs b o e).1 (I.ok.bs b o e).2 (I.ok.Py b o e)⟩
theorem Inv.bk(I:Inv X pins σ H s):∀b o,X.base.get? b=some o→s.heap.get? b=some o:=fun b o e=>(I.bs b o e).1
theorem Inv.mod(I:Inv X pins σ H s):Mod X.K X.mg X.base:=I.ok.mod
theorem Inv.rQ(I:Inv X pins σ H s):X.K.In s.heap:=I.ok.mod.Wo.keeps I.bk
theorem Inv.lt(I:Inv X pins σ H s):X.env.locals<s.heap.objs.size:=let ⟨_,hn,_⟩:=I.loc;hn.lt
theorem Inv.sz(I:Inv X pins σ H s):X.s_0.heap.objs.size≤s.heap.objs.size:=le_trans I.ok.above (le_of_lt I.lt)
theorem Inv.abI(I:Inv X pins σ H s){a:Addr}(h:s.heap.objs.size≤a):a∉X.fs:=fun hb=>by
 obtain⟨_,o,ho,_⟩:=I.ok.oG.mem hb;exact absurd (lt_of_lt_of_le (lt_size ho) (le_trans I.sz h)) (lt_irrefl _)
theorem Inv.WD(I:Inv X pins σ H s):∀x c,X.env.cells.lookup x=some c→c≠X.env.locals:=fun x c e z=>by
 obtain⟨v,o,ho,hd⟩:=I.cell x c e;obtain⟨m,⟨o',es,ep,ho',hd',_⟩,_⟩:=I.loc;rw[z,ho']at ho;cases ho;rw[hd']at hd;cases hd
theorem Inv.oG(I:Inv X pins σ H s):s.heap.FunFrames X.base X.outer:=by
 have all:∀(l:List Env),(∀b∈frs l,b∈X.fs)→X.s_0.heap.FunFrames X.base l→s.heap.FunFrames X.base l:=by
  intro l
  induction l with
  |nil=>intro _ _;trivial
  |cons env r ih=>
   intro hs hl;obtain⟨hk,⟨L,o,hf,hn,ho,hd⟩,hr⟩:=hl;have hL:L∈X.fs:=hs L (by unfold frs;rw[filterMap_cons,hf];exact mem_cons_self);obtain⟨sl,e⟩:=I.base.slot L o ho (I.ok.RP L hL) hL fun z=>I.ok.Pz L z hL;exact⟨hk,⟨L,_,hf,hn,e,hd⟩,ih (fun b hb=>hs b (by unfold frs;rw[filterMap_cons,hf];exact mem_cons_of_mem _ hb)) hr⟩
 exact all X.outer (fun _ hb=>hb) I.ok.oG
theorem Inv.stack(I:Inv X pins σ H s):s.heap.FunFrames X.base X.stack:=by
 rcases I.ok.stk with e|⟨e,hf⟩
 ·rw[e];exact I.oG
 ·rw[e];obtain⟨m,hn,_⟩:=I.loc;refine .cons (by rw[I.ok.kind];decide) hf hn ?_ I.oG;exact Heap.get?_none_of_le (le_trans I.ok.Px I.ok.above)
theorem Inv.mK(I:Inv X pins σ H s):∀b∈frs X.stack,b∈X.env.locals::X.fs:=fun b hb=>by
 rcases I.ok.stk with e|⟨e,hf⟩
 ·rw[e]at hb;exact mem_cons_of_mem _ hb
 ·rw[e]at hb;unfold frs at hb;rw[filterMap_cons,hf]at hb;exact hb
theorem Inv.tR(I:Inv X pins σ H s):∀b∈frs X.stack,H b=none:=fun b hb=>by
 rcases mem_cons.mp (I.mK b hb) with e|hb
 ·rw[e];exact I.free
 ·obtain⟨_,o,ho,_⟩:=I.ok.oG.mem hb;exact I.base.free b o ho (I.ok.RP b hb) fun z=>I.ok.Pz b z hb
theorem Inv.step{g':Array GenState}{t':Nat}{d':Drawn}{ch:List Addr}(I:Inv X pins σ H s)(hch:∀b∈ch,(b∈X.ex∨X.s_0.heap.objs.size≤b)∧b≠X.env.locals∧(∀x c,X.env.cells.lookup x=some c→c≠b)∧∀p∈X.pn++pins,p.1≠b)(keep:∀b o,b≠X.env.locals→b∉X.fs→b∉ch→s.heap.get? b=some o→H b=none→h'.get? b=some o)(slot:∀b o,b≠X.env.locals→b∈X.fs→b∉ch→s.heap.get? b=some o→H b=none→∃sl,h'.get? b=some { o with slots:=sl })(free:∀b o,b∉ch→s.heap.get? b=some o→H b=none→H' b=none)(there:∀b o,b∉ch→s.heap.get? b=some o→∃o',h'.get? b=some o')(tups:∀b xs,H b=some (.tup xs)→H' b=some (.tup xs))(kO:∀b o u,H b=some (.Fp o u)→H' b=some (.Fp o u))(kW:∀b ps,H b=some (.pJ ps)→∃more,H' b=some (.pJ (ps++more)))(ns:∀m,s.heap.Ns X.env.locals m→h'.Ns X.env.locals m)(hok:oF X.prog X.w H' h')(hg:AllBare g') :
  Inv X pins σ H' { s with heap:=h',gens:=g',drawn:=d',toks:=t' }:=by
 have neL:∀b o,X.s_0.heap.get? b=some o→b≠X.env.locals:=fun b o e=>ne_of_lt (lt_of_lt_of_le (lt_size e) I.ok.above);have neC:∀b o,X.s_0.heap.get? b=some o→b∉X.ex→b∉ch:=fun b o e hx hb=>by
  rcases (hch b hb).1 with z|z
  ·exact hx z
  ·exact absurd (lt_of_lt_of_le (lt_size e) z) (lt_irrefl _)
 have cellK:∀x c,X.env.cells.lookup x=some c→∀v,s.heap.IsCell c v→h'.IsCell c v:=fun x c e v ⟨o,ho,hd⟩=>by
  have nch:c∉ch:=fun z=>(hch c z).2.2.1 x c e rfl;by_cases hc:c∈X.fs
  ·obtain⟨sl,q⟩:=slot c o (I.WD x c e) hc nch ho (I.jQ x c e);exact⟨_,q,hd⟩
  ·exact⟨o,keep c o (I.WD x c e) hc nch ho (I.jQ x c e),hd⟩
 refine⟨I.ok,I.os,hg,⟨fun b o e n hb hx=>?_,fun b o e n hb hx=>?_,fun b o e n hx=>?_,fun b o e hx=>?_,fun b xs e=>tups b xs (I.base.tups b xs e),fun b o xs e=>kO b o xs (I.base.kO b o xs e),fun b ps e=>?_⟩,?_,fun x c e=>?_,?_,fun x c e=>?_,fun p hp=>?_,hok,I.len⟩
 ·exact keep b o (neL b o e) hb (neC b o e hx) (I.base.keep b o e n hb hx) (I.base.free b o e n hx)
 ·obtain⟨sl,e1⟩:=I.base.slot b o e n hb hx;obtain⟨sl',e2⟩:=slot b _ (neL b o e) hb (neC b o e hx) e1 (I.base.free b o e n hx);exact⟨sl',e2⟩
 ·obtain⟨o',e1⟩:=I.base.there b o e hx;exact free b o' (neC b o e hx) e1 (I.base.free b o e n hx)
 ·obtain⟨o',e1⟩:=I.base.there b o e hx;exact there b o' (neC b o e hx) e1
 ·obtain⟨m1,e1⟩:=I.base.kW b ps e;obtain⟨m2,e2⟩:=kW b _ e1;exact⟨m1++m2,by rw[e2,Array.append_assoc]⟩
 ·obtain⟨m,hn,hl⟩:=I.loc;refine⟨m,ns m hn,fun i x v e1 e2 e3=>?_⟩;obtain⟨u,r,l⟩:=hl i x v e1 e2 e3;refine⟨u,r,?_⟩;rcases l with l|⟨k,c,e,z⟩
  ·exact .inl l
  ·exact .inr ⟨k,c,e,cellK x c e _ z⟩
 ·obtain⟨v,z⟩:=I.cell x c e;exact⟨v,cellK x c e v z⟩
 ·obtain⟨m,⟨o,_,_,ho,_⟩,_⟩:=I.loc;exact free _ o (fun z=>(hch _ z).2.1 rfl) ho I.free
 ·obtain⟨v,o,ho,hd⟩:=I.cell x c e;exact free c o (fun z=>(hch c z).2.2.1 x c e rfl) ho (I.jQ x c e)
 ·obtain⟨e,n,ne,nf,d⟩:=I.pin p hp;have nch:p.1∉ch:=fun z=>(hch p.1 z).2.2.2 p hp rfl;exact⟨keep p.1 p.2 ne nf nch e n,free p.1 p.2 nch e n,ne,nf,d⟩
theorem Inv.un{t':Nat}(I:Inv X pins σ H s)(u:Un X.fs [] H H' s.heap h')(hok:oF X.prog X.w H' h'):Inv X pins σ H' { s with heap:=h',toks:=t' }:=by
 obtain⟨m,⟨o,es,ep,ho,r⟩,_⟩:=id I.loc;obtain⟨sl,hL⟩:=u.any ho I.free (by simp);exact I.step (g':=s.gens) (d':=s.drawn) (ch:=[]) (fun _ z=>nomatch z) (fun b o _ hb _ e n=>u.keep b o e n hb (by simp)) (fun b o _ hb _ e n=>u.slot b o e n hb (by simp)) (fun b o _ e n=>u.free b o e n (by simp)) (fun b o _ e=>u.there b o e (by simp)) u.tups u.kO u.kW (fun m' hm=>by
  obtain⟨o',es',ep',ho',r'⟩:=hm;rw[ho]at ho';cases ho';exact⟨_,es',ep',hL,r'⟩) hok I.bare
theorem Inv.call{g':Array GenState}{t':Nat}{d':Drawn}{ch:List Addr}(I:Inv X pins σ H s)(u:Un (frs X.stack) ch H H' s.heap h')(hok:oF X.prog X.w H' h')(hg:AllBare g')(hch:∀b∈ch,(b∈X.ex∨X.s_0.heap.objs.size≤b)∧b≠X.env.locals∧(∀x c,X.env.cells.lookup x=some c→c≠b)∧∀p∈X.pn++pins,p.1≠b) :
  Inv X pins σ H' { s with heap:=h',gens:=g',drawn:=d',toks:=t' }:=by
 obtain⟨m,⟨o,es,ep,ho,r⟩,_⟩:=id I.loc;obtain⟨sl,hL⟩:=u.any ho I.free fun z=>(hch _ z).2.1 rfl;exact I.step (ch:=ch) hch (fun b o hL hb hc e n=>u.keep b o e n (fun z=>(mem_cons.mp (I.mK b z)).elim hL hb) hc) (fun b o _ _ hc e n=>u.any e n hc) (fun b o hc e n=>u.free b o e n hc) (fun b o hc e=>u.there b o e hc) u.tups u.kO u.kW (fun m' hm=>by
  obtain⟨o',es',ep',ho',r'⟩:=hm;rw[ho]at ho';cases ho';exact⟨_,es',ep',hL,r'⟩) hok hg
theorem Inv.turned{t':Nat}{it:Addr}(I:Inv X pins σ H s)(k:∀b o,b≠it→s.heap.get? b=some o→h'.get? b=some o)(hn:H it=none)(hL:it≠X.env.locals)(h1:it∈X.ex∨X.s_0.heap.objs.size≤it)(h2:∀x c,X.env.cells.lookup x=some c→c≠it)(h3:∀p∈X.pn++pins,p.1≠it):Inv X pins σ H { s with heap:=h',toks:=t' }:=by
 have RQ:∀b u,H b=some u→b≠it:=fun b u e z=>by rw[z,hn]at e;cases e
 refine I.step (g':=s.gens) (d':=s.drawn) (ch:=[it]) (fun b hb=>?_) (fun b o _ _ hc e _=>k b o (fun z=>hc (by simp[z])) e) (fun b o _ _ hc e _=>⟨o.slots,k b o (fun z=>hc (by simp[z])) e⟩) (fun _ _ _ _ n=>n)
  (fun b o hc e=>⟨o,k b o (fun z=>hc (by simp[z])) e⟩) (fun _ _ e=>e) (fun _ _ _ e=>e) (fun b ps e=>⟨#[],by rw[e];simp⟩) (fun m hm=>?_) (fun b u e=>?_) I.bare
 ·have e:b=it:=by simpa using hb
  subst e;exact⟨h1,hL,h2,h3⟩
 ·obtain⟨o,es,ep,ho,r⟩:=hm;exact⟨o,es,ep,k _ o (Ne.symm hL) ho,r⟩
 ·refine(I.hok b u e).stay (fun c v hc q=>k c v ?_ q) (fun _ q=>q) fun _ _ q=>q;rcases hc with z|z
  ·rw[z];exact RQ b u e
  ·exact RQ c _ z
theorem Inv.tok(I:Inv X pins σ H s)(t:Nat):Inv X pins σ H { s with toks:=t }:=I.un (h':=s.heap) (t':=t) Un.refl I.hok
theorem Inv.kept{t':Nat}(I:Inv X pins σ H s)(k:∀b u,s.heap.get? b=some u→h'.get? b=some u):Inv X pins σ H { s with heap:=h',toks:=t' }:=I.un (Un.kept k) (I.hok.kept k)
theorem Inv.laid{a:Addr}{o:HO}{t':Nat}(I:Inv X pins σ H s)(k:∀b u,s.heap.get? b=some u→h'.get? b=some u)(hp:s.heap.objs.size≤a)(new:eZ X.prog X.w (upd H a o) h' a o) :
  Inv X pins σ (upd H a o) { s with heap:=h',toks:=t' }:=I.un (Un.laid k hp (I.hok.fresh hp)) (I.hok.laid k hp new)
theorem Inv.write{x e:Addr}{o:HO}{t':Nat}(I:Inv X pins σ H s)(mu:Mut (H x))(he:e=x∨H e=some (.own x))(k:∀b u,b≠e→s.heap.get? b=some u→h'.get? b=some u)(heo:∃u,h'.get? e=some u)(new:eZ X.prog X.w (upd H x o) h' x o):Inv X pins σ (upd H x o) { s with heap:=h',toks:=t' }:=I.un (Un.write mu he k heo) (I.hok.write mu he k heo new)
theorem Inv.weak{σ':List (Option V)}(I:Inv X pins σ H s)(hl:σ'.length=σ.length)(w:∀(i:Nat) v,σ'[i]?=some (some v)→σ[i]?=some (some v)):Inv X pins σ' H s:=
 ⟨I.ok,I.os,I.bare,I.base,let ⟨m,hn,hl'⟩:=I.loc;⟨m,hn,fun i x v e1 e2 e3=>hl' i x v e1 (w i v e2) e3⟩,I.cell,I.free,I.jQ,I.pin,I.hok,hl.trans I.len⟩
theorem Inv.wZ{Fq:List (Addr×Obj)}(I:Inv X pins σ H s)(h:∀p∈Fq,s.heap.get? p.1=some p.2∧H p.1=none∧p.1≠X.env.locals∧p.1∉X.fs∧∀v,p.2.data≠.cell v):Inv X Fq σ H s:=
 ⟨I.ok,I.os,I.bare,I.base,I.loc,I.cell,I.free,I.jQ,fun p hp=>(mem_append.mp hp).elim (fun z=>I.pin p (mem_append_left _ z)) (h p),I.hok,I.len⟩
theorem xV{N:List Str}(hN:N.Nodup){i j:Nat}{x:Str}(a:N[i]?=some x)(b:N[j]?=some x):i=j:=by
 obtain⟨h1,e1⟩:=List.getElem?_eq_some_iff.mp a;obtain⟨h2,e2⟩:=List.getElem?_eq_some_iff.mp b;exact(List.getElem_inj hN).mp (e1.trans e2.symm)
theorem Bu{M:Model}{A:Around}{E:Value→Shared→Prop}{i:Nat}{x:Str}{v:V}{u:Value}{Q:Unit→Shared→Prop}(I:Inv X pins σ H s)(hN:X.N.Nodup)(hi:X.N[i]?=some x)(hx:Loc X.env.scope x)(r:RelV v u)(h:∀s',Inv X pins (σ.set i (some v)) H s'→(∃a,Heap.SameBut a s.heap s'.heap∧(a=X.env.locals∨X.env.cells.lookup x=some a))→Q () s')(hf:X.fn x=true∨X.env.scope.names.lookup x=some .local:=by first|exact .inl rfl|exact .inr rfl|assumption):wpAny M A (storeName X.env x u) Q E s:=by
 obtain⟨m,hn,hl⟩:=id I.loc;have hcls:(X.env.scope.kind==.class||(X.env.scope.kind==.module&&X.env.locals != X.env.globals))=false:=by rw[I.ok.kind];rfl
 have hiσ:i<σ.length:=by rw[I.len];exact(List.getElem?_eq_some_iff.mp hi).1
 have WD:=I.WD;have tracked:∀{a:Addr}{h':Heap},(∃o,s.heap.get? a=some o∧H a=none)→Heap.SameBut a s.heap h'→oF X.prog X.w H h':=fun {a h'} ha hs b ob e=>by
  obtain⟨_,_,hfree⟩:=ha;refine(I.hok b ob e).stay (fun c w' hc q=>(hs.2 c ?_).trans q) (fun _ q=>q) fun _ _ q=>q;rintro rfl;rcases hc with rfl|hc
  ·rw[hfree]at e;cases e
  ·rw[hfree]at hc;cases hc
 rcases hx with hk|hk
 ·refine wpAny_storeName_local hk hn (fun h' hn' hs=>?_) hcls;obtain⟨oL,_,_,hoL,_⟩:=id hn;refine h _ ⟨I.ok,I.os,I.bare,⟨fun b o e n hb hx=>?_,fun b o e n hb hx=>?_,I.base.free,fun b o e hx=>?_,I.base.tups,I.base.kO,I.base.kW⟩,⟨_,hn',fun j y v' e1 e2 e3=>?_⟩,fun y c e=>?_,I.free,I.jQ,fun p hp=>?_,tracked ⟨oL,hoL,I.free⟩ hs,by simpa using I.len⟩ ⟨_,hs,.inl rfl⟩
  ·exact(hs.2 b (ne_of_lt (lt_of_lt_of_le (lt_size e) I.ok.above))).trans (I.base.keep b o e n hb hx)
  ·obtain⟨sl,e1⟩:=I.base.slot b o e n hb hx;exact⟨sl,(hs.2 b (ne_of_lt (lt_of_lt_of_le (lt_size e) I.ok.above))).trans e1⟩
  ·obtain⟨o',e1⟩:=I.base.there b o e hx;exact⟨o',(hs.2 b (ne_of_lt (lt_of_lt_of_le (lt_size e) I.ok.above))).trans e1⟩
  ·by_cases hj:j=i
   ·subst hj;rw[hi]at e1;cases e1;rw[getElem?_set_self hiσ]at e2;cases e2;exact⟨u,r,.inl ⟨hk,by simp⟩⟩
   ·rw[List.getElem?_set_ne (Ne.symm hj)]at e2;obtain⟨u',r',q⟩:=hl j y v' e1 e2 e3;refine⟨u',r',?_⟩;rcases q with⟨k,e⟩|⟨k,c,e,z⟩
    ·refine .inl ⟨k,?_⟩;have:y≠x:=fun e=>hj (xV hN e1 (e▸hi));simp[this,e]
    ·exact .inr ⟨k,c,e,z.sameBut hs (WD y c e)⟩
  ·obtain⟨w',z⟩:=I.cell y c e;exact⟨w',z.sameBut hs (WD y c e)⟩
  ·obtain⟨e,n,ne,nf,d⟩:=I.pin p hp;exact⟨(hs.2 p.1 ne).trans e,n,ne,nf,d⟩
 ·have hfn:X.fn x=true:=by
   rcases hf with z|z
   ·exact z
   ·rw[z]at hk;cases hk
  obtain⟨c,hc⟩:=I.ok.has x (.inl hk);obtain⟨w',z⟩:=I.cell x c hc;refine wpAny_storeName_cell I.ok.kind hk hc z (fun h' hc' hs=>?_);obtain⟨oc,hoc,aen⟩:=id z;refine h { s with heap:=h' } ⟨I.ok,I.os,I.bare,⟨fun b o e n hb hx=>?_,fun b o e n hb hx=>?_,I.base.free,fun b o e hx=>?_,I.base.tups,I.base.kO,I.base.kW⟩,⟨m,hn.sameBut hs (Ne.symm (WD x c hc)),fun j y v' e1 e2 e3=>?_⟩,fun y c' e=>?_,I.free,I.jQ,fun p hp=>?_,tracked ⟨oc,hoc,I.jQ x c hc⟩ hs,by simpa using I.len⟩ ⟨c,hs,.inr hc⟩
  ·exact(hs.2 b (ne_of_lt (lt_of_lt_of_le (lt_size e) (I.ok.cab x c hfn hc)))).trans (I.base.keep b o e n hb hx)
  ·obtain⟨sl,e1⟩:=I.base.slot b o e n hb hx;exact⟨sl,(hs.2 b (ne_of_lt (lt_of_lt_of_le (lt_size e) (I.ok.cab x c hfn hc)))).trans e1⟩
  ·obtain⟨o',e1⟩:=I.base.there b o e hx;exact⟨o',(hs.2 b (ne_of_lt (lt_of_lt_of_le (lt_size e) (I.ok.cab x c hfn hc)))).trans e1⟩
  ·by_cases hj:j=i
   ·subst hj;rw[hi]at e1;cases e1;rw[getElem?_set_self hiσ]at e2;cases e2;exact⟨u,r,.inr ⟨.inl hk,c,hc,hc'⟩⟩
   ·rw[List.getElem?_set_ne (Ne.symm hj)]at e2;obtain⟨u',r',q⟩:=hl j y v' e1 e2 e3;refine⟨u',r',?_⟩;rcases q with q|⟨k,c',e,z'⟩
    ·exact .inl q
    ·refine .inr ⟨k,c',e,z'.sameBut hs ?_⟩;rintro rfl;exact hj (xV hN e1 (I.ok.inj _ _ _ e hc▸hi))
  ·by_cases hcc:c'=c
   ·subst hcc;exact⟨_,hc'⟩
   ·obtain⟨w2,z2⟩:=I.cell y c' e;exact⟨w2,z2.sameBut hs hcc⟩
  ·obtain⟨e,n,ne,nf,d⟩:=I.pin p hp;refine⟨(hs.2 p.1 ?_).trans e,n,ne,nf,d⟩;intro q;rw[q,hoc]at e;have q':oc=p.2:=Option.some.inj e;exact d w' (by rw[←q'];exact aen)
theorem tU{M:Model}{A:Around}{E:Value→Shared→Prop}{i:Nat}{x:Str}{v:V}{u:Value}{Q:Unit→Shared→Prop}(I:Inv X pins σ H s)(hN:X.N.Nodup)(hi:X.N[i]?=some x)(hx:Loc X.env.scope x)(r:RelV v u)(h:∀s',Inv X pins (σ.set i (some v)) H s'→Q () s')(hf:X.fn x=true∨X.env.scope.names.lookup x=some .local:=by first|exact .inl rfl|exact .inr rfl|assumption):wpAny M A (storeName X.env x u) Q E s:=
 Bu I hN hi hx r (fun s' I' _=>h s' I') hf
theorem Inv.call'{s':Shared}{ch:List Addr}(I:Inv X pins σ H s)(ho:s'.os=s.os)(u:Un (frs X.stack) ch H H' s.heap s'.heap)(hok:oF X.prog X.w H' s'.heap)(hg:AllBare s'.gens)(hch:∀b∈ch,(b∈X.ex∨X.s_0.heap.objs.size≤b)∧b≠X.env.locals∧(∀x c,X.env.cells.lookup x=some c→c≠b)∧∀p∈X.pn++pins,p.1≠b):Inv X pins σ H' s':=by
 obtain⟨h',g',d',t',o'⟩:=s';have e:o'=s.os:=ho;subst e;exact I.call (g':=g') (t':=t') (d':=d') u hok hg hch
end
abbrev XK:=Value→Option Addr→Hp→Prop
abbrev St:=List (Option V)
abbrev VK:=V→Hp→Prop
abbrev TE:=St→Hp→VK→Prop
abbrev TT:=St→Hp→(Bool→Hp→Prop)→Prop
abbrev TA:=St→Hp→(List V→Hp→Prop)→Prop
structure Ends where
 nx:St→Hp→Prop
 rt:VK
 bk:St→Hp→Prop:=fun _ _=>False
 ct:St→Hp→Prop:=fun _ _=>False
abbrev TS:=Ends→St→Hp→Prop
def EP(X:Cx)(pins:List (Addr×Obj))(σ:St)(Q:VK)(u:Value)(s':Shared):Prop:=∃v H',Inv X pins σ H' s'∧RelV v u∧Q v H'
def TP(X:Cx)(pins:List (Addr×Obj))(σ:St)(Q:Bool→Hp→Prop)(b:Bool)(s':Shared):Prop:=∃H',Inv X pins σ H' s'∧Q b H'
def AP(X:Cx)(pins:List (Addr×Obj))(σ:St)(Q:List V→Hp→Prop)(us:List Value)(s':Shared):Prop:=∃vs H',Inv X pins σ H' s'∧Vals vs us∧Q vs H'
def SP(X:Cx)(pins:List (Addr×Obj))(D:Ends)(f:Flow)(s':Shared):Prop:=
 match f with
 | .next=>∃σ' H',Inv X pins σ' H' s'∧D.nx σ' H'
 | .brk=>∃σ' H',Inv X pins σ' H' s'∧D.bk σ' H'
 | .cont=>∃σ' H',Inv X pins σ' H' s'∧D.ct σ' H'
 | .ret u=>∃v σ' H',Inv X pins σ' H' s'∧RelV v u∧D.rt v H'
def PE(X:Cx)(e:Expr)(t:TE):Prop:=
 ∀(pins:List (Addr×Obj))(s:Shared)(σ:St)(H:Hp)(Q:VK),Inv X pins σ H s→t σ H Q→wpAny (model X.prog X.w) X.A (eval e X.env) (EP X pins σ Q) X.xe s
def PT(X:Cx)(e:Expr)(t:TT):Prop:=
 ∀(pins:List (Addr×Obj))(s:Shared)(σ:St)(H:Hp)(Q:Bool→Hp→Prop),Inv X pins σ H s→t σ H Q→wpAny (model X.prog X.w) X.A (isTrue e X.env (eval e X.env)) (TP X pins σ Q) X.xe s
def PW(X:Cx)(e:Expr)(t:TT):Prop:=
 ∀(whole:Sem Value)(pins:List (Addr×Obj))(s:Shared)(σ:St)(H:Hp)(Q:Bool→Hp→Prop),Inv X pins σ H s→t σ H Q→wpAny (model X.prog X.w) X.A (isTrue e X.env whole) (TP X pins σ Q) X.xe s
theorem PW.pt{X:Cx}{e:Expr}{t:TT}(h:PW X e t):PT X e t:=h _
def PA(X:Cx)(es:List Expr)(t:TA):Prop:=
 ∀(pos:Pos)(pins:List (Addr×Obj))(s:Shared)(σ:St)(H:Hp)(Q:List V→Hp→Prop),Inv X pins σ H s→t σ H Q→wpAny (model X.prog X.w) X.A (spliced (backTo pos (starEach es X.env))) (AP X pins σ Q) X.xe s
def PS(X:Cx)(st:Stmt)(t:TS):Prop:=
 ∀(pins:List (Addr×Obj))(s:Shared)(σ:St)(H:Hp)(D:Ends),Inv X pins σ H s→t D σ H→wpAny (model X.prog X.w) X.A (exec st X.env) (SP X pins D) X.xe s
def JH(X:Cx)(st:List Stmt)(t:TS):Prop:=
 ∀(pins:List (Addr×Obj))(s:Shared)(σ:St)(H:Hp)(D:Ends),Inv X pins σ H s→t D σ H→wpAny (model X.prog X.w) X.A (execs st X.env) (SP X pins D) X.xe s
theorem dH{α:Type}{t:Sem α}{Q Q':α→Shared→Prop}{M:Model}{A:Around}{E:Value→Shared→Prop}{s:Shared}(h:wpAny M A t Q E s)(hQ:∀a s,Q a s→Q' a s):wpAny M A t Q' E s:=wpAny_mono h hQ fun _ _ x=>x
section
variable{X:Cx}
def xW(i:Nat):TE:=fun σ H Q=>∃v,σ[i]?=some (some v)∧Q v H
def tC(v:V):TE:=fun _ H Q=>Q v H
theorem JL{i:Nat}{x:Str}{pos:Pos}(hN:X.N[i]?=some x)(hv:Zr X.env.scope x)(hd:(x==("__debug__":Str))=false:=by decide)(hcd:(x==("__classdict__":Str))=false:=by decide):PE X (.Name x pos) (xW i):=by
 intro pins s σ H Q I h;obtain⟨v,e,h⟩:=h;obtain⟨m,hn,hl⟩:=I.loc;obtain⟨u,r,l⟩:=hl i x v hN e hv;have fin:EP X pins σ Q u s:=⟨v,H,I,r,h⟩;rcases l with⟨hk,hm⟩|⟨hk,c,hc,hcell⟩
 ·exact wpAny_Name (wpAny_loadName_local I.ok.kind hk hn hm fin) hd
 ·rcases hk with hk|hk
  ·exact wpAny_Name (wpAny_loadName_cell I.ok.kind hk hc hcell fin) hd
  ·exact wpAny_Name (wpAny_loadName_free I.ok.kind hk hc hcell fin hcd) hd
theorem aR{i j pos}:PE X (.Constant (.int i) j pos) (tC (.int i)):=fun _ _ _ H _ I h=>wpAny_Constant_int ⟨.int i,H,I.tok _,⟨_,rfl⟩,h⟩
theorem Ft{b j pos}:PE X (.Constant (.bool b) j pos) (tC (.bl b)):=fun _ _ _ H _ I h=>Constant_bool ⟨.bl b,H,I,rfl,h⟩
theorem cV{x j pos}:PE X (.Constant (.str x) j pos) (tC (.str x)):=fun _ _ _ H _ I h=>Calls.Constant_str ⟨.str x,H,I.tok _,⟨_,rfl⟩,h⟩
def Gl(X:Cx)(x:Str):Prop:=X.env.kindOf x=some .globalImplicit
theorem jT{E:Value→Shared→Prop}{pins:List (Addr×Obj)}{s:Shared}{σ:St}{H:Hp}{x:Str}{u:Value}{pos:Pos}{Q:Value→Shared→Prop}(I:Inv X pins σ H s)(hg:Gl X x)(hm:X.mg x=some u)(h:Q u s)(hd:(x==("__debug__":Str))=false:=by decide):wpAny (model X.prog X.w) X.A (eval (.Name x pos) X.env) Q E s:=
 Calls.Name_function_global I.ok.kind hg (Calls.loadGlobal_global (by rw[I.ok.glob];exact I.mod.glob.keeps I.bk) hm h) hd
theorem rR{E:Value→Shared→Prop}{pins:List (Addr×Obj)}{s:Shared}{σ:St}{H:Hp}{x:Str}{u:Value}{pos:Pos}{Q:Value→Shared→Prop}(I:Inv X pins σ H s)(hg:Gl X x)(hm:X.mg x=none)(hv:bootBuiltins x=some u)(h:Q u s)(hn:x≠"__name__":=by decide)(hd:(x==("__debug__":Str))=false:=by decide):wpAny (model X.prog X.w) X.A (eval (.Name x pos) X.env) Q E s:=by
 obtain⟨mb,h1,h2⟩:=I.mod.blt;exact Calls.Name_function_global I.ok.kind hg (Calls.loadGlobal_builtin (by rw[I.ok.glob];exact I.mod.glob.keeps I.bk) hm (by rw[I.ok.blt];exact h1.keeps I.bk) ((h2 x hn).trans hv) h) hd
theorem bh{x:Str}{v:V}{u:Value}{pos:Pos}(hg:Gl X x)(hm:X.mg x=some u)(r:RelV v u)(hd:(x==("__debug__":Str))=false:=by decide):PE X (.Name x pos) (tC v):=
 fun _ _ _ H _ I h=>jT I hg hm ⟨v,H,I,r,h⟩ hd
variable{a b:Expr}{ta tb:TE}{pos:Pos}
def PC(X:Cx)(op:CmpOp)(a b:Expr)(t:TE):Prop:=
 ∀(pins:List (Addr×Obj))(s:Shared)(σ:St)(H:Hp)(Q:VK),Inv X pins σ H s→t σ H Q →
  wpAny (model X.prog X.w) X.A (eval a X.env) (fun v s₁=>wpAny (model X.prog X.w) X.A (eval b X.env) (fun u s₂=>wpAny (model X.prog X.w) X.A (compareOp op v u) (EP X pins σ Q) X.xe s₂) X.xe s₁) X.xe s
def tB(t:TE):TT:=fun σ H Q=>t σ H fun x H1=>∃c,x=.bl c∧Q c H1
theorem RV{op:CmpOp}{t:TE}(h:PC X op a b t)(h1:behindInMarks op b=false:=by first|exact abK _ (by decide) (by decide)|rfl):PE X (.Compare a [op] [b] pos) t:=fun pins s σ H Q I hw=>wpAny_Compare1 (h pins s σ H Q I hw) h1
theorem mL{e:Expr}{t:TE}(h:PE X e t)(he:∀whole,isTrue e X.env whole=(do let v ←whole;standAt e.pos;holding [v] (truthy v)):=by intro _;rfl):PT X e (tB t):=by
 intro pins s σ H Q I hw;refine isTrue_plain (dH (h pins s σ H _ I hw) fun v s1 ⟨x,H1,I1,r1,q1⟩=>?_) (he _);obtain⟨d,rfl,q⟩:=q1;cases r1;exact wpAny_truthy_bool ⟨H1,I1,q⟩
variable{tA tB':TT}{rest:List Expr}
def aeo(t u:TT):TT:=fun σ H Q=>t σ H fun c H1=>if c=true then u σ H1 Q else Q false H1
def tOr(t u:TT):TT:=fun σ H Q=>t σ H fun c H1=>if c=true then Q true H1 else u σ H1 Q
def aep(t:TT):TT:=fun σ H Q=>t σ H fun c H1=>Q (!c) H1
theorem tV(ha:PT X a tA):PW X (.BoolOp .And [a] pos) tA:=by
 intro wh pins s σ H Q I h;refine isTrue_and (dH (ha pins s σ H Q I h) fun c s1 e=>?_);cases c with
 |true=>exact isTrue_and_nil e
 |false=>exact e
theorem xX(ha:PT X a tA):PW X (.BoolOp .Or [a] pos) tA:=by
 intro wh pins s σ H Q I h;refine isTrue_or (dH (ha pins s σ H Q I h) fun c s1 e=>?_);cases c with
 |false=>exact isTrue_or_nil e
 |true=>exact e
theorem uT(ha:PT X a tA)(hb:PW X (.BoolOp .And (b::rest) pos) tB'):PW X (.BoolOp .And (a::b::rest) pos) (aeo tA tB'):=by
 intro wh pins s σ H Q I h;refine isTrue_and (dH (ha pins s σ H _ I h) fun c s1 ⟨H1,I1,q1⟩=>?_);cases c with
 |true=>exact hb wh pins s1 σ H1 Q I1 q1
 |false=>exact⟨H1,I1,q1⟩
theorem Fv(ha:PT X a tA)(hb:PW X (.BoolOp .Or (b::rest) pos) tB'):PW X (.BoolOp .Or (a::b::rest) pos) (tOr tA tB'):=by
 intro wh pins s σ H Q I h;refine isTrue_or (dH (ha pins s σ H _ I h) fun c s1 ⟨H1,I1,q1⟩=>?_);cases c with
 |true=>exact⟨H1,I1,q1⟩
 |false=>exact hb wh pins s1 σ H1 Q I1 q1
theorem JM(ha:PT X a tA):PT X (.UnaryOp .Not a pos) (aep tA):=by
 intro pins s σ H Q I h;exact isTrue_not (ha pins s σ H (fun c H1=>Q (!c) H1) I h)
def abL(ta tb:TE):TE:=fun σ H Q=>ta σ H fun x H1=>∃c,x=.bl c∧if c=true then tb σ H1 Q else Q (.bl false) H1
theorem Dd{op}{t:TE}(h:PE X a t):PE X (.BoolOp op [a] pos) t:=fun pins s σ H Q I hw=>BoolOp_one (h pins s σ H Q I hw)
theorem Df(ha:PE X a ta)(hb:PE X (.BoolOp .And (b::rest) pos) tb):PE X (.BoolOp .And (a::b::rest) pos) (abL ta tb):=by
 intro pins s σ H Q I h;refine BoolOp_and (dH (ha pins s σ H _ I h) fun v s1 ⟨x,H1,I1,r1,q1⟩=>?_);obtain⟨c,rfl,q1⟩:=q1;cases r1;refine wpAny_truthy_bool ?_;cases c with
 |true=>exact hb pins s1 σ H1 Q I1 q1
 |false=>exact⟨.bl false,H1,I1,rfl,q1⟩
def tIf(t:TT)(ta tb:TE):TE:=fun σ H Q=>t σ H fun c H1=>if c=true then ta σ H1 Q else tb σ H1 Q
theorem Fx{c:Expr}(hc:PT X c tA)(ha:PE X a ta)(hb:PE X b tb):PE X (.IfExp c a b pos) (tIf tA ta tb):=by
 intro pins s σ H Q I h;refine wpAny_IfExp (dH (hc pins s σ H _ I h) fun d s1 ⟨H1,I1,q1⟩=>?_);cases d with
 |true=>exact ha pins s1 σ H1 Q I1 q1
 |false=>exact hb pins s1 σ H1 Q I1 q1
end
def bJ(K:PySem.W.Frag)(H:Hp)(a:Addr)(xs:List V):Prop:=
 Rd H a (.lst xs) ∨
  ∃(o:Obj)(its:Array Value)(n:Nat),K.lookup a=some o∧o.cls=.type "list"∧o.dict=none∧o.data=.seq its n∧its.size≤sizeLine∧Vals xs its.toList
def tL(K:PySem.W.Frag)(H:Hp)(a:Addr)(xs:List V):Prop:=
 Rd H a (.tup xs) ∨
  ∃(o:Obj)(its:Array Value)(n:Nat),K.lookup a=some o∧o.cls=.type "tuple"∧o.data=.seq its n∧its.size≤sizeLine∧Vals xs its.toList
def aer:Value→Option V
 | .none=>some .non
 | .bool b=>some (.bl b)
 | .int i _=>some (.int i)
 | .str x _=>some (.str x)
 | .bytes b _=>some (.Rz b)
 | .float b _=>some (.flt b)
 | .ref a=>some (.ref a)
 | .type n=>some (.ty n)
 |_=>none
theorem RelV.abs{x:V}{u:Value}(r:RelV x u):aer u=some x:=by
 cases x with
 |non=>cases r;rfl
 |bl _=>cases r;rfl
 |int _=>obtain⟨t,rfl⟩:=r;rfl
 |str _=>obtain⟨t,rfl⟩:=r;rfl
 |Rz _=>obtain⟨t,rfl⟩:=r;rfl
 |flt _=>obtain⟨t,rfl⟩:=r;rfl
 |ref _=>cases r;rfl
 |ty _=>cases r;rfl
theorem RelV.inj{x y:V}{u:Value}(r:RelV x u)(q:RelV y u):x=y:=Option.some.inj (r.abs.symm.trans q.abs)
theorem Vals.inj:∀{xs ys:List V}{us:List Value},Vals xs us→Vals ys us→xs=ys
 |_,_,_,.nil,.nil=>rfl
 |_,_,_,.cons r t,.cons r' t'=>by rw[r.inj r',Vals.inj t t']
section
variable{X:Cx}{pins:List (Addr×Obj)}{σ:St}{H:Hp}{s:Shared}{a:Addr}{xs ys:List V}
theorem bJ.of{K:PySem.W.Frag}(h:H a=some (.lst xs)):bJ K H a xs:=.inl (.inl h)
theorem tL.of{K:PySem.W.Frag}(h:H a=some (.tup xs)):tL K H a xs:=.inl (.inl h)
theorem Inv.list(I:Inv X pins σ H s)(h:bJ X.K H a xs):∃its:List Value,Vals xs its∧PlainL s.heap a its.toArray∧xs.length≤sizeLine:=by
 rcases h with h|⟨o,its,n,hk,hc,hd,hs,hz,r⟩
 ·obtain⟨z,its,n,r,e⟩:=h.ok I.hok;exact⟨its,r,⟨_,n,e,rfl,rfl,rfl⟩,z⟩
 ·refine⟨its.toList,r,⟨o,n,I.rQ a o hk,hc,hd,by simpa using hs⟩,?_⟩;have e:=r.length;simp only[Array.length_toList]at e;omega
theorem Inv.tuple(I:Inv X pins σ H s)(h:tL X.K H a xs):∃its:List Value,Vals xs its∧IsTup s.heap a its.toArray∧xs.length≤sizeLine:=by
 rcases h with h|⟨o,its,n,hk,hc,hs,hz,r⟩
 ·obtain⟨z,its,r,p⟩:=h.ok I.hok;exact⟨its,r,p,z⟩
 ·refine⟨its.toList,r,⟨o,I.rQ a o hk,hc,n,by simpa using hs⟩,?_⟩;have e:=r.length;simp only[Array.length_toList]at e;omega
theorem Inv.tW(I:Inv X pins σ H s)(h:bJ X.K H a xs)(h':bJ X.K H a ys):xs=ys:=by
 obtain⟨its,r,⟨o,n,e,_,_,d⟩,_⟩:=I.list h;obtain⟨its',r',⟨o',n',e',_,_,d'⟩,_⟩:=I.list h';rw[e]at e';cases e';rw[d]at d';injection d' with d1 _
 have:its=its':=by simpa using congrArg Array.toList d1
 subst this;exact r.inj r'
theorem Inv.PJ(I:Inv X pins σ H s)(h:tL X.K H a xs)(h':tL X.K H a ys):xs=ys:=by
 obtain⟨its,r,⟨o,e,_,n,d⟩,_⟩:=I.tuple h;obtain⟨its',r',⟨o',e',_,n',d'⟩,_⟩:=I.tuple h';rw[e]at e';cases e';rw[d]at d';injection d' with d1 _
 have:its=its':=by simpa using congrArg Array.toList d1
 subst this;exact r.inj r'
end
abbrev Cx.wish(X:Cx)(E:Value→Shared→Prop):Cx:={ X with xe:=E }
abbrev Cx.nox(X:Cx):Cx:=X.wish fun _ _=>False
theorem Cx.Ok.wish{X:Cx}(ok:X.Ok)(E:Value→Shared→Prop):(X.wish E).Ok:=
 ⟨ok.mod,ok.kind,ok.glob,ok.blt,ok.above,ok.inj,ok.has,ok.cab,ok.hd,ok.frames,ok.stk,ok.exf,ok.bs,ok.Px,ok.Py,ok.Pz,ok.oG,ok.RP⟩
theorem Cx.Ok.jH{X:Cx}{E:Value→Shared→Prop}(ok:(X.wish E).Ok):X.Ok:=
 ⟨ok.mod,ok.kind,ok.glob,ok.blt,ok.above,ok.inj,ok.has,ok.cab,ok.hd,ok.frames,ok.stk,ok.exf,ok.bs,ok.Px,ok.Py,ok.Pz,ok.oG,ok.RP⟩
section
variable{X:Cx}{pins:List (Addr×Obj)}{σ:St}{H:Hp}{s:Shared}{E:Value→Shared→Prop}
theorem Inv.wish(I:Inv X pins σ H s)(E:Value→Shared→Prop):Inv (X.wish E) pins σ H s:=⟨I.ok.wish E,I.os,I.bare,I.base,I.loc,I.cell,I.free,I.jQ,I.pin,I.hok,I.len⟩
theorem Inv.jH(I:Inv (X.wish E) pins σ H s):Inv X pins σ H s:=⟨I.ok.jH,I.os,I.bare,I.base,I.loc,I.cell,I.free,I.jQ,I.pin,I.hok,I.len⟩
theorem SP.jH{D:Ends}{f:Flow}{s':Shared}(h:SP (X.wish E) pins D f s'):SP X pins D f s':=by
 cases f with
 |next=>obtain⟨σ',H',I,q⟩:=h;exact⟨σ',H',I.jH,q⟩
 |brk=>obtain⟨σ',H',I,q⟩:=h;exact⟨σ',H',I.jH,q⟩
 |cont=>obtain⟨σ',H',I,q⟩:=h;exact⟨σ',H',I.jH,q⟩
 |ret u=>obtain⟨v,σ',H',I,r,q⟩:=h;exact⟨v,σ',H',I.jH,r,q⟩
theorem JH.nox{st:List Stmt}{t:TS}(h:JH X.nox st t):JH X st t:=fun pins s σ H D I hw=>
 wpAny_mono (h pins s σ H D (I.wish _) hw) (fun _ _ q=>q.jH) fun _ _ z=>False.elim z
end
section
variable{X:Cx}{st:Stmt}{rest:List Stmt}{t u:TS}{e:Expr}{te:TE}{pos:Pos}
def abN:TS:=fun D σ H=>D.nx σ H
def Zt(t u:TS):TS:=fun D σ H=>t { D with nx:=u D } σ H
theorem bW:JH X [] abN:=fun _ _ σ H _ I h=>wpAny_execs_nil ⟨σ,H,I,h⟩
theorem aq(h1:PS X st t)(h2:JH X rest u):JH X (st::rest) (Zt t u):=by
 intro pins s σ H D I h;refine wpAny_execs_cons (dH (h1 pins s σ H { D with nx:=u D } I h) fun f s1 q=>?_);cases f with
 |next=>
  obtain⟨σ',H',I',q⟩:=q;exact h2 pins s1 σ' H' D I' q
 |ret v=>exact q
 |brk=>exact q
 |cont=>exact q
theorem aC(h1:PS X st t):JH X [st] t:=by
 intro pins s σ H D I h;refine wpAny_execs_cons (dH (h1 pins s σ H D I h) fun f s1 q=>?_);cases f with
 |next=>exact wpAny_execs_nil q
 |ret v=>exact q
 |brk=>exact q
 |cont=>exact q
theorem Inv.quiet{pins:List (Addr×Obj)}{σ:St}{H:Hp}{s:Shared}(I:Inv X pins σ H s):interactive X.env=false:=by simp[interactive,I.ok.kind]
def RW(te:TE):TS:=fun D σ H=>te σ H fun _ H1=>D.nx σ H1
theorem aN(he:PE X e te)(hs:swapsWith e none pos.line X.env=pure false:=by rfl):PS X (.Expr e pos) (RW te):=by
 intro pins s σ H D I h;exact wpAny_Expr_any (dH (he pins s σ H _ I h) fun v s1 ⟨x,H1,I1,r1,q1⟩=>⟨σ,H1,I1,q1⟩) I.quiet hs
def abO(te:TE):TS:=fun D σ H=>te σ H D.rt
theorem aZ(he:PE X e te):PS X (.Return (some e) pos) (abO te):=by
 intro pins s σ H D I h;exact wpAny_Return_some (dH (he pins s σ H _ I h) fun v s1 ⟨x,H1,I1,r1,q1⟩=>⟨x,σ,H1,I1,r1,q1⟩)
def aes(c:TT)(t u:TS):TS:=fun D σ H=>c σ H fun b H1=>if b=true then t D σ H1 else u D σ H1
theorem dW{c:Expr}{a b:List Stmt}{tc:TT}(hc:PT X c tc)(ha:JH X a t)(hb:JH X b u):PS X (.If c a b pos) (aes tc t u):=by
 intro pins s σ H D I h;refine wpAny_If (dH (hc pins s σ H _ I h) fun d s1 ⟨H1,I1,q1⟩=>?_);cases d with
 |true=>exact ha pins s1 σ H1 D I1 q1
 |false=>exact hb pins s1 σ H1 D I1 q1
end
abbrev TG:=V→St→Hp→(St→Hp→Prop)→Prop
abbrev YH:=List V→St→Hp→(St→Hp→Prop)→Prop
def PG(X:Cx)(target:Expr)(t:TG):Prop:=
 ∀(pins:List (Addr×Obj))(s:Shared)(σ:St)(H:Hp)(v:V)(u:Value)(Q:St→Hp→Prop),Inv X pins σ H s→RelV v u→t v σ H Q →
  wpAny (model X.prog X.w) X.A (assign target X.env u) (fun _ s'=>∃σ' H',Inv X pins σ' H' s'∧Q σ' H') X.xe s
def PGs(X:Cx)(ts:List Expr)(t:YH):Prop:=
 ∀(pins:List (Addr×Obj))(s:Shared)(σ:St)(H:Hp)(vs:List V)(us:List Value)(Q:St→Hp→Prop),Inv X pins σ H s→Vals vs us→t vs σ H Q →
  wpAny (model X.prog X.w) X.A (assignInOrder ((assignEach ts X.env).map (·.2)) us) (fun _ s'=>∃σ' H',Inv X pins σ' H' s'∧Q σ' H') X.xe s
abbrev TIp:=V→V→Hp→VK→Prop
def PIp(X:Cx)(op:Operator)(t:TIp):Prop:=
 ∀(pins:List (Addr×Obj))(s:Shared)(σ:St)(H:Hp)(x y:V)(v u:Value)(Q:VK),Inv X pins σ H s→RelV x v→RelV y u→t x y H Q →
  wpAny (model X.prog X.w) X.A (inplaceOp op v u) (EP X pins σ Q) X.xe s
section
variable{X:Cx}{pos:Pos}
def M8(i:Nat):TG:=fun v σ H Q=>Q (σ.set i (some v)) H
theorem bU{i:Nat}{x:Str}(hN:X.N.Nodup)(hi:X.N[i]?=some x)(hx:Loc X.env.scope x)(hf:X.fn x=true∨X.env.scope.names.lookup x=some .local:=by first|exact .inl rfl|exact .inr rfl|assumption):PG X (.Name x pos) (M8 i):=by
 intro pins s σ H v u Q I r h;exact wpAny_assign_Name (tU I hN hi hx r (fun s' I'=>⟨_,H,I',h⟩) hf)
def aeu:YH:=fun vs σ H Q=>vs=[]∧Q σ H
def abQ(t:TG)(u:YH):YH:=fun vs σ H Q=>∃v r,vs=v::r∧t v σ H fun σ' H'=>u r σ' H' Q
theorem w6:PGs X [] aeu:=by
 intro pins s σ H vs us Q I r h;obtain⟨e,h⟩:=h;subst e;cases r;exact assignInOrder_nil ⟨σ,H,I,h⟩
theorem jt{e:Expr}{es:List Expr}{t:TG}{u:YH}(h1:PG X e t)(h2:PGs X es u)(hs:(assignEach (e::es) X.env).map (·.2)=assign e X.env::(assignEach es X.env).map (·.2):=by rfl):PGs X (e::es) (abQ t u):=by
 intro pins s σ H vs us Q I r h;obtain⟨v,vr,e1,h⟩:=h;subst e1;cases r with
 |cons r rr=>
  rw[hs];refine assignInOrder_cons (dH (h1 pins s σ H _ _ _ I r h) fun _ s1 ⟨σ1,H1,I1,q1⟩=>?_);exact h2 pins s1 σ1 H1 _ _ Q I1 rr q1
def abR(K:PySem.W.Frag)(n:Nat)(t:YH):TG:=fun v σ H Q=>∃a xs,v=.ref a∧tL K H a xs∧xs.length=n∧t xs σ H Q
theorem RX{es:List Expr}{k:Nat}{t:YH}{n:Nat}(hc:X.calm=true)(h:PGs X es t)(hn:(assignEach es X.env).length=n:=by rfl)(hst:(assignEach es X.env).findIdx? (·.1)=none:=by rfl):PG X (.Tuple es k pos) (abR X.K n t):=by
 intro pins s σ H v u Q I r hw;obtain⟨a,xs,e1,hq,hl,hw⟩:=hw;subst e1;cases r;obtain⟨its,rv,ht,hz⟩:=I.tuple hq;refine assign_Tuple_tuple (I.ok.hd hc) ht (by simp[hn,←hl,rv.length]) hst fun h' hx=>?_;have I1:Inv X pins σ H { s with heap:=h' }:=I.kept (t':=s.toks) fun b o e=>hx b o (ne_of_lt (lt_size e)) e;exact h pins _ σ H xs _ Q I1 (by simpa using rv) hw
def abS(te:TE)(g:TG):TS:=fun D σ H=>te σ H fun x H1=>g x σ H1 D.nx
theorem aY{i:Nat}{x:Str}{e:Expr}{te:TE}{pos':Pos}(hN:X.N.Nodup)(hi:X.N[i]?=some x)(hx:Loc X.env.scope x)(he:PE X e te)(hs:swapsWith e (some (.Name x pos')) pos.line X.env=pure false:=by rfl)(hf:X.fn x=true∨X.env.scope.names.lookup x=some .local:=by first|exact .inl rfl|exact .inr rfl|assumption) :
  PS X (.Assign [.Name x pos'] e pos) (abS te (M8 i)):=by
 intro pins s σ H D I h;refine wpAny_Assign_Name (dH (he pins s σ H _ I h) fun v s1 ⟨y,H1,I1,r1,q1⟩=>?_) hs;exact tU I1 hN hi hx r1 (fun s2 I2=>⟨_,H1,I2,q1⟩) hf
def aev(i:Nat)(te:TE)(ti:TIp):TS:=fun D σ H=>∃x,σ[i]?=some (some x)∧te σ H fun y H1=>ti x y H1 fun z H2=>D.nx (σ.set i (some z)) H2
theorem Dg{i:Nat}{x:Str}{e:Expr}{te:TE}{op:Operator}{ti:TIp}{pos':Pos}(hN:X.N.Nodup)(hi:X.N[i]?=some x)(hx:Loc X.env.scope x)(he:PE X e te)(ho:PIp X op ti)(hf:X.fn x=true∨X.env.scope.names.lookup x=some .local:=by first|exact .inl rfl|exact .inr rfl|assumption) :
  PS X (.AugAssign (.Name x pos') op e pos) (aev i te ti):=by
 intro pins s σ H D I h;obtain⟨v,e1,h⟩:=h;obtain⟨m,hn,hl⟩:=I.loc;have vis:Zr X.env.scope x:=by rcases hx with k|k;exact .inl k;exact .inr (.inl k)
 obtain⟨u,r,l⟩:=hl i x v hi e1 vis;refine wpAny_AugAssign_Name ?_;have go:wpAny (model X.prog X.w) X.A (eval e X.env) (fun w s₂=>wpAny (model X.prog X.w) X.A (inplaceOp op u w) (fun r s₃=>wpAny (model X.prog X.w) X.A (storeName X.env x r) (fun _=>SP X pins D .next) X.xe s₃) X.xe s₂) X.xe s:=by
  refine dH (he pins s σ H _ I h) fun w s1 ⟨y,H1,I1,r1,q1⟩=>?_;refine dH (ho pins s1 σ H1 v y u w _ I1 r r1 q1) fun z s2 ⟨zv,H2,I2,r2,q2⟩=>?_;exact tU I2 hN hi hx r2 (fun s3 I3=>⟨_,H2,I3,q2⟩) hf
 rcases l with⟨hk,hm⟩|⟨hk,c,hc,hcell⟩
 ·exact wpAny_loadName_local I.ok.kind hk hn hm go
 ·rcases hk with hk|hk
  ·exact wpAny_loadName_cell I.ok.kind hk hc hcell go
  ·rcases hx with k|k
   ·have:X.env.scope.names.lookup x=some .free:=hk;rw[k]at this;cases this
   ·have:X.env.scope.names.lookup x=some .free:=hk;rw[k]at this;cases this
def ipI(f:Int→Int→Int):TIp:=fun x y H Q=>∃i j,x=.int i∧y=.int j∧Q (.int (f i j)) H
theorem Dh:PIp X .Add (ipI fun i j=>i+j):=by
 intro pins s σ H x y v u Q I r1 r2 h;obtain⟨i,j,e1,e2,q⟩:=h;subst e1;subst e2;obtain⟨t,rfl⟩:=r1;obtain⟨t',rfl⟩:=r2;exact iadd_int ⟨.int _,H,I.tok _,⟨_,rfl⟩,q⟩
end
section
variable{X:Cx}{pos:Pos}
def RZ(c:TT)(tb:TS):TS:=fun D σ H=>∃W:Nat→St→Hp→Prop,(∃m,W m σ H)∧∀m σ H,W m σ H →
 c σ H fun b H1=>if b=true then ∃N:St→Hp→Prop,(∀σ' H',N σ' H'→∃m',m'<m∧W m' σ' H')∧tb { D with nx:=N,ct:=N,bk:=D.nx } σ H1 else D.nx σ H1
theorem gG{c:Expr}{body:List Stmt}{tc:TT}{tb:TS}(hp:PassesOwn (model X.prog X.w) X.A X.env X.xe)(hc:PT X c tc)(hb:JH X body tb):PS X (.While c body [] pos) (RZ tc tb):=by
 intro pins s σ H D I h;obtain⟨W,⟨m0,w0⟩,turn⟩:=h;refine wpAny_While (codeAny_whileLoop (fun n s'=>∃σ' H',Inv X pins σ' H' s'∧W n σ' H') ?_ m0 ⟨σ,H,I,w0⟩);rintro n s1 ⟨σ1,H1,I1,w1⟩;refine wpAny_passesOwn hp (dH (hc pins s1 σ1 H1 _ I1 (turn n σ1 H1 w1)) fun b s2 ⟨H2,I2,q2⟩=>?_);cases b with
 |true=>
  obtain⟨N,hN,q2⟩:=q2;rw[if_pos rfl];refine wpAny_passesOwn hp (dH (hb pins s2 σ1 H2 _ I2 q2) fun f s3 q3=>?_);cases f with
  |next=>
   obtain⟨σ3,H3,I3,n3⟩:=q3;obtain⟨m',hm,w3⟩:=hN σ3 H3 n3;exact⟨m',hm,σ3,H3,I3,w3⟩
  |cont=>
   obtain⟨σ3,H3,I3,n3⟩:=q3;obtain⟨m',hm,w3⟩:=hN σ3 H3 n3;exact⟨m',hm,σ3,H3,I3,w3⟩
  |brk=>exact q3
  |ret v=>exact q3
 |false=>
  rw[if_neg Bool.false_ne_true];exact wpAny_execs_nil ⟨σ1,H2,I2,q2⟩
end
structure It where
 go:Nat→Hp→Prop
 Wq:Nat→Hp→V→Hp→Prop
 stop:Nat→Hp→Prop
def wH(X:Cx)(pins:List (Addr×Obj))(H:Hp)(b:Addr):Prop:=
 H b=none∧b≠X.env.locals∧b∉X.fs∧(b∈X.ex∨X.s_0.heap.objs.size≤b)∧(∀x c,X.env.cells.lookup x=some c→c≠b)∧∀p∈X.pn++pins,p.1≠b
theorem Inv.JN{X:Cx}{pins:List (Addr×Obj)}{σ:St}{H H':Hp}{s:Shared}{b:Addr}(I:Inv X pins σ H s)(hb:s.heap.objs.size≤b)(hn:H' b=none):wH X pins H' b:=by
 refine⟨hn,ne_of_gt (lt_of_lt_of_le I.lt hb),I.abI hb,.inr (le_trans I.sz hb),fun x c e z=>?_,fun p hp z=>?_⟩
 ·obtain⟨v,q⟩:=I.cell x c e;exact absurd (lt_of_lt_of_le q.lt (by rw[z];exact hb)) (lt_irrefl _)
 ·exact absurd (lt_of_lt_of_le (lt_size (I.pin p hp).1) (by rw[z];exact hb)) (lt_irrefl _)
structure Turn(P:Program)(w:World)(K:PySem.W.Frag)(tg:Expr)(J:It)(fp:List Addr)(it:Addr)(tn:Nat→Heap→Prop):Prop where
 mem:it∈fp
 obj:∀i h,tn i h→∀b∈fp,∃o,h.get? b=some o∧∀v,o.data≠.cell v
 keep:∀i h h',tn i h→(∀b∈fp,∀o,h.get? b=some o→h'.get? b=some o)→tn i h'
 item:∀(X:Cx),X.prog=P→X.w=w→X.K=K→X.calm=true→∀(i:Nat)(pins:List (Addr×Obj))(s:Shared)(σ:St)(H:Hp)(E:Value→Shared→Prop),Inv X pins σ H s→(∀b∈fp,wH X pins H b)→tn i s.heap→J.go i H →
  wpAny (model P w) X.A (pyNext (.ref it)) (fun r s1=>∃u,r=some u ∧
   wpAny (model P w) X.A (letOwnedTupleGo tg (.ref it) u) (fun _ s2=>∃x H',Inv X pins σ H' s2∧RelV x u∧J.Wq i H x H'∧tn (i+1) s2.heap∧∀b∈fp,H' b=none) E s1) E s
 done:∀(X:Cx),X.prog=P→X.w=w→X.K=K→X.calm=true→∀(i:Nat)(pins:List (Addr×Obj))(s:Shared)(σ:St)(H:Hp)(E:Value→Shared→Prop),Inv X pins σ H s→(∀b∈fp,wH X pins H b)→tn i s.heap→J.stop i H →
  wpAny (model P w) X.A (pyNext (.ref it)) (fun r s1=>r=none∧Inv X pins σ H s1) E s
 self:∀(A:Around)(i:Nat)(s:Shared)(Q:Value→Shared→Prop)(E:Value→Shared→Prop),tn i s.heap→Q (.ref it) s→wpAny (model P w) A (pyIter (.ref it)) Q E s
abbrev TI:=St→Hp→(It→Hp→Prop)→Prop
def PIE(X:Cx)(pins:List (Addr×Obj))(σ:St)(tg:Expr)(R:It→Hp→Prop)(itv:Value)(s2:Shared):Prop:=
 ∃(it:Addr)(fp:List Addr)(tn:Nat→Heap→Prop)(J:It)(H':Hp),itv=.ref it∧Inv X pins σ H' s2∧Turn X.prog X.w X.K tg J fp it tn∧tn 0 s2.heap∧(∀b∈fp,wH X pins H' b)∧R J H'
def PI(X:Cx)(tg iter:Expr)(wi:TI):Prop:=
 ∀(pins:List (Addr×Obj))(s:Shared)(σ:St)(H:Hp)(R:It→Hp→Prop),Inv X pins σ H s→wi σ H R →
  wpAny (model X.prog X.w) X.A (eval iter X.env) (fun v s1=>wpAny (model X.prog X.w) X.A (pyIter v) (PIE X pins σ tg R) X.xe s1) X.xe s
theorem M9{M:Model}{A:Around}{E:Value → Shared → Prop}{s:Shared}{tg:Expr}{it:Addr}{u:Value}{o:Obj}{n:String}{vs:Array Value}{Q:Unit → Shared → Prop}(ho:s.heap.get? it=some o)(hc:o.cls=.type n)(hd:o.data=.fields vs)(hn:["enumerate", "zip", "dict_itemiterator", "dict_reverseitemiterator", "odict_iterator", "itertools.zip_longest", "itertools.pairwise"].contains n=false)(hQ:Q () s):wpAny M A (letOwnedTupleGo tg (.ref it) u) Q E s:= by
  unfold letOwnedTupleGo;cases tg<;>first
    |exact wpAny_pure hQ
    | (cases u<;>first
        |exact wpAny_pure hQ
        | (refine wpAny_bind (wpAny_load ho ?_)
           rw[hc, hd];show wpAny M A (if (["enumerate", "zip", "dict_itemiterator", "dict_reverseitemiterator", "odict_iterator", "itertools.zip_longest", "itertools.pairwise"].contains n&&vs[0]?==some (rawInt _))=true then _ else _) Q E s;rw[if_neg (by intro h;rw[hn, Bool.false_and]at h;cases h)];exact wpAny_pure hQ))
def YJ(K:PySem.W.Frag)(a:Addr):It:=
 ⟨fun i H=>∃xs x,bJ K H a xs∧xs[i]?=some x,fun i H x H'=>H'=H∧∀xs,bJ K H a xs→xs[i]?=some x,fun i H=>∃xs,bJ K H a xs∧xs.length≤i⟩
def Itt(K:PySem.W.Frag)(a:Addr):It:=
 ⟨fun i H=>∃xs x,tL K H a xs∧xs[i]?=some x,fun i H x H'=>H'=H∧∀xs,tL K H a xs→xs[i]?=some x,fun i H=>∃xs,tL K H a xs∧xs.length≤i⟩
def Zu(lo:Int)(n:Nat):It:=⟨fun i _=>i<n,fun i H x H'=>H'=H∧x=.int (lo+i),fun i _=>n≤i⟩
theorem PK{P:Program}{w:World}{K:PySem.W.Frag}{tg:Expr}(a it:Addr):Turn P w K tg (YJ K a) [it] it (fun i h=>h.IsListIter it a i) where
 mem:=by simp
 obj:=fun i h st b hb=>by
  have e:b=it:=by simpa using hb
  subst e;obtain⟨o,e,c,d⟩:=st;exact⟨o,e,fun v z=>by rw[d]at z;cases z⟩
 keep:=fun i h h' st k=>st.at fun o e=>k it (by simp) o e
 item:=by
  intro X hP hw hK hc i pins s σ H E I hf st hg;subst hP hw hK;obtain⟨xs,x,hq,hx⟩:=hg;obtain⟨its,rv,p,hz⟩:=I.list hq;obtain⟨u,hu,ru⟩:=rv.get hx;obtain⟨f0,f1,f2,f3,f4,f5⟩:=hf it (by simp);refine wpAny_pyNext_list_item st p.isList (x:=u) (by simpa using hu) fun h' st' sb=>?_;have I1:Inv X pins σ H { s with heap:=h' }:=I.turned (t':=s.toks) (fun b o hb e=>(sb.2 b hb).trans e) f0 f1 f3 f4 f5;obtain⟨o,e,c,d⟩:=id st';exact⟨u,rfl,M9 (s:={ s with heap:=h' }) e c d (by decide) ⟨x,H,I1,ru,⟨rfl,fun ys hy=>by rw[I.tW hy hq];exact hx⟩,st',fun b hb=>(hf b hb).1⟩⟩
 done:=by
  intro X hP hw hK hc i pins s σ H E I hf st hg;subst hP hw hK;obtain⟨xs,hq,hx⟩:=hg;obtain⟨its,rv,p,hz⟩:=I.list hq;obtain⟨f0,f1,f2,f3,f4,f5⟩:=hf it (by simp);have hl:=rv.length;exact wpAny_pyNext_list_end (I.ok.hd hc) st p.isList (by simp;omega) fun h' eb=>⟨rfl,I.turned (t':=s.toks) (fun b o hb e=>eb b o hb e) f0 f1 f3 f4 f5⟩
 self:=fun _ _ _ _ _ st h=>wpAny_pyIter_listiter st h
theorem JQ{P:Program}{w:World}{K:PySem.W.Frag}{tg:Expr}(a it:Addr):Turn P w K tg (Itt K a) [it] it (fun i h=>h.IsTupleIter it a i) where
 mem:=by simp
 obj:=fun i h st b hb=>by
  have e:b=it:=by simpa using hb
  subst e;obtain⟨o,e,c,d⟩:=st;exact⟨o,e,fun v z=>by rw[d]at z;cases z⟩
 keep:=fun i h h' st k=>st.at fun o e=>k it (by simp) o e
 item:=by
  intro X hP hw hK hc i pins s σ H E I hf st hg;subst hP hw hK;obtain⟨xs,x,hq,hx⟩:=hg;obtain⟨its,rv,p,hz⟩:=I.tuple hq;obtain⟨u,hu,ru⟩:=rv.get hx;obtain⟨f0,f1,f2,f3,f4,f5⟩:=hf it (by simp);refine wpAny_pyNext_tuple_item st (show s.heap.IsTuple a its.toArray from p) (x:=u) (by simpa using hu) fun h' st' sb=>?_;have I1:Inv X pins σ H { s with heap:=h' }:=I.turned (t':=s.toks) (fun b o hb e=>(sb.2 b hb).trans e) f0 f1 f3 f4 f5;obtain⟨o,e,c,d⟩:=id st';exact⟨u,rfl,M9 (s:={ s with heap:=h' }) e c d (by decide) ⟨x,H,I1,ru,⟨rfl,fun ys hy=>by rw[I.PJ hy hq];exact hx⟩,st',fun b hb=>(hf b hb).1⟩⟩
 done:=by
  intro X hP hw hK hc i pins s σ H E I hf st hg;subst hP hw hK;obtain⟨xs,hq,hx⟩:=hg;obtain⟨its,rv,p,hz⟩:=I.tuple hq;obtain⟨f0,f1,f2,f3,f4,f5⟩:=hf it (by simp);have hl:=rv.length;exact wpAny_pyNext_tuple_end (I.ok.hd hc) st (show s.heap.IsTuple a its.toArray from p) (by simp;omega) fun h' eb=>⟨rfl,I.turned (t':=s.toks) (fun b o hb e=>eb b o hb e) f0 f1 f3 f4 f5⟩
 self:=fun _ _ _ _ _ st h=>wpAny_pyIter_tupleiter st h
theorem JR{P:Program}{w:World}{K:PySem.W.Frag}{tg:Expr}(it:Addr)(lo:Int)(n:Nat):Turn P w K tg (Zu lo n) [it] it (fun i h=>IsRangeIter h it (lo+(i:Nat)*1) ((n:Int)-(i:Nat)) 1) where
 mem:=by simp
 obj:=fun i h st b hb=>by
  have e:b=it:=by simpa using hb
  subst e;exact⟨_,st,fun v z=>by
   have z':Data.fields _=Data.cell v:=z;cases z'⟩
 keep:=fun i h h' st k=>k it (by simp) _ st
 item:=by
  intro X hP hw hK hc i pins s σ H E I hf st hg;subst hP hw hK;obtain⟨f0,f1,f2,f3,f4,f5⟩:=hf it (by simp);have W:=Walks.range (prog:=X.prog) (w:=X.w) (I.ok.hd hc) it lo 1 n;refine W.item i s _ _ hg st fun v h' tk hv st' kk=>?_;obtain⟨t,rfl⟩:=hv;have I1:Inv X pins σ H { s with heap:=h',toks:=tk }:=I.turned (fun b o hb e=>kk b o (by simpa using hb) e) f0 f1 f3 f4 f5;refine⟨_,rfl,M9 (s:={ s with heap:=h',toks:=tk }) (n:="range_iterator") st' rfl rfl (by decide) ⟨.int (lo+i),H,I1,⟨t,?_⟩,⟨rfl,rfl⟩,st',fun b hb=>(hf b hb).1⟩⟩;rw[Int.mul_one]
 done:=by
  intro X hP hw hK hc i pins s σ H E I hf st hg;subst hP hw hK;obtain⟨f0,f1,f2,f3,f4,f5⟩:=hf it (by simp);exact wpAny_pyNext_range_end (I.ok.hd hc) st (by have:n≤i:=hg;omega) fun h' eb=>⟨rfl,I.turned (t':=s.toks) (fun b o hb e=>eb b o hb e) f0 f1 f3 f4 f5⟩
 self:=fun _ _ _ _ _ st h=>wpAny_pyIter_rangeiter st h
section
variable{X:Cx}{tg:Expr}
def abU(K:PySem.W.Frag)(tl:TE):TI:=fun σ H R=>tl σ H fun x H1=>∃a,x=.ref a∧(∃xs,bJ K H1 a xs)∧R (YJ K a) H1
def aew(K:PySem.W.Frag)(tl:TE):TI:=fun σ H R=>tl σ H fun x H1=>∃a,x=.ref a∧(∃xs,tL K H1 a xs)∧R (Itt K a) H1
theorem eG{l:Expr}{tl:TE}(hl:PE X l tl):PI X tg l (abU X.K tl):=by
 intro pins s σ H R I h;refine dH (hl pins s σ H _ I h) fun v s1 ⟨x,H1,I1,r1,q1⟩=>?_;obtain⟨a,e,⟨xs,hq⟩,q⟩:=q1;subst e;cases r1;obtain⟨its,rv,p,hz⟩:=I1.list hq;refine wpAny_pyIter_list p.isList ?_;refine⟨s1.heap.objs.size,[s1.heap.objs.size],_,_,H1,rfl,I1.kept (t':=s1.toks) fun b o e=>get?_push_of_some _ e,PK a _,⟨_,get?_push_size _ rfl,rfl,rfl⟩,fun b hb=>?_,q⟩;have e:b=s1.heap.objs.size:=by simpa using hb
 subst e;exact I1.JN (le_refl _) (I1.hok.fresh (le_refl _))
theorem Zv{l:Expr}{tl:TE}(hl:PE X l tl):PI X tg l (aew X.K tl):=by
 intro pins s σ H R I h;refine dH (hl pins s σ H _ I h) fun v s1 ⟨x,H1,I1,r1,q1⟩=>?_;obtain⟨a,e,⟨xs,hq⟩,q⟩:=q1;subst e;cases r1;obtain⟨its,rv,p,hz⟩:=I1.tuple hq;refine wpAny_pyIter_tuple (show s1.heap.IsTuple a its.toArray from p) ?_;refine⟨s1.heap.objs.size,[s1.heap.objs.size],_,_,H1,rfl,I1.kept (t':=s1.toks) fun b o e=>get?_push_of_some _ e,JQ a _,⟨_,get?_push_size _ rfl,rfl,rfl⟩,fun b hb=>?_,q⟩;have e:b=s1.heap.objs.size:=by simpa using hb
 subst e;exact I1.JN (le_refl _) (I1.hok.fresh (le_refl _))
theorem Fy{pins:List (Addr×Obj)}{σ:St}{H:Hp}{s:Shared}{R:It→Hp→Prop}{E:Value→Shared→Prop}{lo hi:Int}{t u v:Tok}{tk:Nat}(I:Inv X pins σ H s)(h1:-(2^62)≤lo)(h2:lo<2^62)(h3:-(2^62)≤hi)(h4:hi<2^62)(q:R (Zu lo (hi-lo).toNat) H):wpAny (model X.prog X.w) X.A (pyIter (.ref s.heap.objs.size)) (PIE X pins σ tg R) E { s with heap:=s.heap.push { cls:=.type "range",data:=.fields #[.int lo t,.int hi u,.int 1 v] },toks:=tk }:=by
 refine wpAny_pyIter_range (IsRange.new ..) (small_one h1 h2 h3 h4) ?_;have I1:Inv X pins σ H { s with heap:=s.heap.push { cls:=.type "range",data:=.fields #[.int lo t,.int hi u,.int 1 v] },toks:=tk }:=I.kept fun b o e=>get?_push_of_some _ e;refine⟨(s.heap.push { cls:=.type "range",data:=.fields #[.int lo t,.int hi u,.int 1 v] }).objs.size,[(s.heap.push { cls:=.type "range",data:=.fields #[.int lo t,.int hi u,.int 1 v] }).objs.size],_,_,H,rfl,
  I1.kept (t':=tk) fun b o e=>get?_push_of_some _ e,JR _ lo (hi-lo).toNat,?_,fun b hb=>?_,q⟩
 ·have e1:lo+((0:Nat):Int)*1=lo:=by simp
  have e2:(((hi-lo).toNat:Nat):Int)-((0:Nat):Int)=Builtin.Range.rangeSize lo hi 1:=by rw[rangeSize_one];split<;>omega
  show IsRangeIter _ _ (lo+((0:Nat):Int)*1) ((((hi-lo).toNat:Nat):Int)-((0:Nat):Int)) 1;rw[e1,e2];exact get?_push_size _ rfl
 ·have e:b=(s.heap.push { cls:=.type "range",data:=.fields #[.int lo t,.int hi u,.int 1 v] }).objs.size:=by simpa using hb
  subst e;exact I1.JN (le_refl _) (I1.hok.fresh (le_refl _))
def abV(ta:TA):TI:=fun σ H R=>ta σ H fun vs H1=>∃j:Int,vs=[.int j]∧-(2^62)≤j∧j<2^62∧R (Zu 0 j.toNat) H1
def abW(ta:TA):TI:=fun σ H R=>ta σ H fun vs H1=>∃i j:Int,vs=[.int i,.int j]∧(-(2^62)≤i∧i<2^62∧-(2^62)≤j∧j<2^62)∧R (Zu i (j-i).toNat) H1
theorem PL{a:Expr}{ta:TA}{p pos:Pos}(hg:Gl X "range")(hm:X.mg "range"=none)(ha:PA X [a] ta)(hs:starEach [a] X.env=[(false,eval a X.env)]:=by rfl):PI X tg (.Call (.Name "range" p) [a] [] pos) (abV ta):=by
 intro pins s σ H R I h;refine Call_ (rR I hg hm boot_range (PyProof.Rows.callWith_type1 (dH (ha pos pins s σ H _ I h) fun us s1 ⟨vs,H1,I1,r1,q1⟩=>?_) hs rfl));obtain⟨j,e,q1,q2,q⟩:=q1;subst e;cases r1 with
 |cons r rr=>
  cases rr;obtain⟨t,rfl⟩:=r;exact call_range_1 (Fy I1 (by omega) (by omega) q1 q2 (by simpa using q))
theorem PN{a b:Expr}{ta:TA}{p pos:Pos}(hg:Gl X "range")(hm:X.mg "range"=none)(ha:PA X [a,b] ta)(hs:starEach [a,b] X.env=[(false,eval a X.env),(false,eval b X.env)]:=by rfl)(hs2:starEach [b] X.env=[(false,eval b X.env)]:=by rfl) :
  PI X tg (.Call (.Name "range" p) [a,b] [] pos) (abW ta):=by
 intro pins s σ H R I h;refine Call_ (rR I hg hm boot_range (PyProof.Rows.callWith_type1 (dH (ha pos pins s σ H _ I h) fun us s1 ⟨vs,H1,I1,r1,q1⟩=>?_) (by rw[hs,hs2]) (by rw[hs2];rfl)));obtain⟨i,j,e,⟨q1,q2,q3,q4⟩,q⟩:=q1;subst e;cases r1 with
 |cons r rr=>
  cases rr with
  |cons r' rr=>
   cases rr;obtain⟨t,rfl⟩:=r;obtain⟨t',rfl⟩:=r';exact call_range_2 (Fy I1 q1 q2 q3 q4 q)
def aex(wi:TI)(g:TG)(tb:TS):TS:=fun D σ H=>wi σ H fun J H1=>∃W:Nat→Nat→St→Hp→Prop,(∃m,W 0 m σ H1)∧∀i m σ H,W i m σ H →
 (J.stop i H∧D.nx σ H)∨(J.go i H∧∃N:St→Hp→Prop,(∀σ' H',N σ' H'→∃m',m'<m∧W (i+1) m' σ' H')∧∀x H',J.Wq i H x H'→g x σ H' fun σ2 H2=>tb { D with nx:=N,ct:=N,bk:=D.nx } σ2 H2)
def xY(fp:List Addr)(h:Heap):List (Addr×Obj):=fp.filterMap fun b=>(h.get? b).map fun o=>(b,o)
theorem rT{fp:List Addr}{h:Heap}{b:Addr}{o:Obj}(hb:b∈fp)(e:h.get? b=some o):(b,o)∈xY fp h:=mem_filterMap.mpr ⟨b,hb,by rw[e];rfl⟩
theorem PX{fp:List Addr}{h:Heap}{p:Addr×Obj}(hp:p∈xY fp h):p.1∈fp∧h.get? p.1=some p.2:=by
 obtain⟨b,hb,e⟩:=mem_filterMap.mp hp;cases q:h.get? b with
 |none=>rw[q]at e;cases e
 |some o=>
  rw[q]at e;have e':(b,o)=p:=Option.some.inj e;subst e';exact⟨hb,q⟩
theorem Inv.pinned{pins:List (Addr×Obj)}{σ:St}{H:Hp}{s:Shared}{fp:List Addr}(I:Inv X pins σ H s)(hf:∀b∈fp,wH X pins H b)(ho:∀b∈fp,∃o,s.heap.get? b=some o∧∀v,o.data≠.cell v):Inv X (pins++xY fp s.heap) σ H s:=
 I.wZ fun p hp=>(mem_append.mp hp).elim (fun z=>I.pin p (mem_append_right _ z)) fun z=>by
  obtain⟨hb,e⟩:=PX z;obtain⟨f0,f1,f2,_⟩:=hf p.1 hb;obtain⟨o,e',d⟩:=ho p.1 hb;rw[e]at e';cases e';exact⟨e,f0,f1,f2,d⟩
theorem Inv.tX{pins pl:List (Addr×Obj)}{σ:St}{H:Hp}{s:Shared}(I:Inv X (pins++pl) σ H s):Inv X pins σ H s:=I.wZ fun p hp=>I.pin p (mem_append_right _ (mem_append_left _ hp))
theorem xZ{iter:Expr}{body:List Stmt}{wi:TI}{g:TG}{tb:TS}{pos:Pos}(hp:PassesOwn (model X.prog X.w) X.A X.env X.xe)(hc:X.calm=true)(hi:PI X tg iter wi)(hg:PG X tg g)(hb:JH X body tb)(hs:∀x,foldedSetIterable iter X.env x=pure x:=by intro _;rfl):PS X (.For tg iter body [] pos) (aex wi g tb):=by
 intro pins s σ H D I h;refine wpAny_For (dH (hi pins s σ H _ I h) fun v s1 h1=>dH h1 fun itv s2 h2=>?_) hs;obtain⟨it,fp,tn,J,H2,e,I2,T,st2,f2,W,⟨m0,w0⟩,turn⟩:=h2;subst e;have stat:∀{H':Hp},(∀b∈fp,H' b=none)→∀b∈fp,wH X pins H' b:=fun hn b hb=>⟨hn b hb,(f2 b hb).2⟩;refine codeAny_forLoop_any (fun n s'=>∃i σ' H',Inv X pins σ' H' s'∧tn i s'.heap∧(∀b∈fp,H' b=none)∧W i n σ' H') ?_ m0 ⟨0,σ,H2,I2,st2,fun b hb=>(f2 b hb).1,w0⟩;rintro n s3 ⟨i,σ3,H3,I3,st3,fr3,w3⟩;rcases turn i n σ3 H3 w3 with⟨stop,qn⟩|⟨go,N,hN,step⟩
 ·refine wpAny_passesOwn hp (dH (T.done X rfl rfl rfl hc i pins s3 σ3 H3 X.xe I3 (stat fr3) st3 stop) fun r s4 ⟨hr,I4⟩=>?_);subst hr;exact wpAny_execs_nil ⟨σ3,H3,I4,qn⟩
 ·refine wpAny_passesOwn hp (dH (T.item X rfl rfl rfl hc i pins s3 σ3 H3 X.xe I3 (stat fr3) st3 go) fun r s4 ⟨u,hr,h4⟩=>?_);subst hr;refine wpAny_passesOwn hp (dH h4 fun _ s5 ⟨x,H5,I5,r5,y5,st5,fr5⟩=>?_);have I5':=I5.pinned (stat fr5) (T.obj _ _ st5);refine wpAny_passesOwn hp (dH (hg _ s5 σ3 H5 x u _ I5' r5 (step x H5 y5)) fun _ s6 ⟨σ6,H6,I6,q6⟩=>?_);refine wpAny_passesOwn hp (dH (hb _ s6 σ6 H6 _ I6 q6) fun f s7 q7=>?_);have again:∀{σ7:St}{H7:Hp},Inv X (pins++xY fp s5.heap) σ7 H7 s7→N σ7 H7→∃m,m<n∧∃i σ' H',Inv X pins σ' H' s7∧tn i s7.heap∧(∀b∈fp,H' b=none)∧W i m σ' H':=fun {σ7 H7} I7 n7=>by
   obtain⟨m',hm,w7⟩:=hN σ7 H7 n7;refine⟨m',hm,i+1,σ7,H7,I7.tX,T.keep _ _ _ st5 fun b hb o e=>(I7.pin (b,o) (mem_append_right _ (mem_append_right _ (rT hb e)))).1,fun b hb=>?_,w7⟩;obtain⟨o,e,d⟩:=T.obj _ _ st5 b hb;exact(I7.pin (b,o) (mem_append_right _ (mem_append_right _ (rT hb e)))).2.1
  cases f with
  |next=>obtain⟨σ7,H7,I7,n7⟩:=q7;exact again I7 n7
  |cont=>obtain⟨σ7,H7,I7,n7⟩:=q7;exact again I7 n7
  |brk=>obtain⟨σ7,H7,I7,q7⟩:=q7;exact⟨σ7,H7,I7.tX,q7⟩
  |ret v=>obtain⟨x7,σ7,H7,I7,r7,q7⟩:=q7;exact⟨x7,σ7,H7,I7.tX,r7,q7⟩
end
theorem tY{K:PySem.W.Frag}{a:Addr}{xs:List V}{g:TG}{tb:TS}{D:Ends}{σ:St}{H:Hp}(Pv:Nat→St→Hp→Prop)(h0:Pv 0 σ H)(hl:∀i σ H,i≤xs.length→Pv i σ H→bJ K H a xs)(hs:∀i x σ H,xs[i]?=some x→Pv i σ H→g x σ H fun σ2 H2=>tb { D with nx:=Pv (i+1),ct:=Pv (i+1),bk:=D.nx } σ2 H2)(hd:∀σ H,Pv xs.length σ H→D.nx σ H) :
  ∃W:Nat→Nat→St→Hp→Prop,(∃m,W 0 m σ H)∧∀i m σ H,W i m σ H →
   ((YJ K a).stop i H∧D.nx σ H)∨((YJ K a).go i H∧∃N:St→Hp→Prop,(∀σ' H',N σ' H'→∃m',m'<m∧W (i+1) m' σ' H')∧∀x H',(YJ K a).Wq i H x H'→g x σ H' fun σ2 H2=>tb { D with nx:=N,ct:=N,bk:=D.nx } σ2 H2):=by
 refine⟨fun i m σ H=>m=xs.length-i∧i≤xs.length∧Pv i σ H,⟨xs.length,by simp,zero_le _,h0⟩,?_⟩;rintro i m σ H ⟨rfl,hi,p⟩;have q:=hl i σ H hi p;by_cases hlt:i<xs.length
 ·refine .inr ⟨⟨xs,xs[i],q,by simp[hlt]⟩,Pv (i+1),fun σ' H' p'=>⟨xs.length-(i+1),by omega,rfl,hlt,p'⟩,fun x H' y=>?_⟩;obtain⟨e,y⟩:=y;subst e;exact hs i x σ _ (y xs q) p
 ·have e:i=xs.length:=by omega
  subst e;exact .inl ⟨⟨xs,q,le_refl _⟩,hd σ H p⟩
theorem WK{K:PySem.W.Frag}{a:Addr}{xs:List V}{g:TG}{tb:TS}{D:Ends}{σ:St}{H:Hp}(Pv:Nat→St→Hp→Prop)(h0:Pv 0 σ H)(hl:∀i σ H,i≤xs.length→Pv i σ H→tL K H a xs)(hs:∀i x σ H,xs[i]?=some x→Pv i σ H→g x σ H fun σ2 H2=>tb { D with nx:=Pv (i+1),ct:=Pv (i+1),bk:=D.nx } σ2 H2)(hd:∀σ H,Pv xs.length σ H→D.nx σ H) :
  ∃W:Nat→Nat→St→Hp→Prop,(∃m,W 0 m σ H)∧∀i m σ H,W i m σ H →
   ((Itt K a).stop i H∧D.nx σ H)∨((Itt K a).go i H∧∃N:St→Hp→Prop,(∀σ' H',N σ' H'→∃m',m'<m∧W (i+1) m' σ' H')∧∀x H',(Itt K a).Wq i H x H'→g x σ H' fun σ2 H2=>tb { D with nx:=N,ct:=N,bk:=D.nx } σ2 H2):=by
 refine⟨fun i m σ H=>m=xs.length-i∧i≤xs.length∧Pv i σ H,⟨xs.length,by simp,zero_le _,h0⟩,?_⟩;rintro i m σ H ⟨rfl,hi,p⟩;have q:=hl i σ H hi p;by_cases hlt:i<xs.length
 ·refine .inr ⟨⟨xs,xs[i],q,by simp[hlt]⟩,Pv (i+1),fun σ' H' p'=>⟨xs.length-(i+1),by omega,rfl,hlt,p'⟩,fun x H' y=>?_⟩;obtain⟨e,y⟩:=y;subst e;exact hs i x σ _ (y xs q) p
 ·have e:i=xs.length:=by omega
  subst e;exact .inl ⟨⟨xs,q,le_refl _⟩,hd σ H p⟩
abbrev R2:=V→V→Hp→VK→Prop
def wI(X:Cx)(f:Value→Value→Sem Value)(r:R2):Prop:=
 ∀(pins:List (Addr×Obj))(s:Shared)(σ:St)(H:Hp)(x y:V)(v u:Value)(Q:VK),Inv X pins σ H s→RelV x v→RelV y u→r x y H Q →
  wpAny (model X.prog X.w) X.A (f v u) (EP X pins σ Q) X.xe s
def UnR(X:Cx)(f:Value→Sem Value)(r:V→Hp→VK→Prop):Prop:=
 ∀(pins:List (Addr×Obj))(s:Shared)(σ:St)(H:Hp)(x:V)(v:Value)(Q:VK),Inv X pins σ H s→RelV x v→r x H Q →
  wpAny (model X.prog X.w) X.A (f v) (EP X pins σ Q) X.xe s
def pK(X:Cx)(f:Value)(r:List V→Hp→VK→Prop):Prop:=
 ∀(pins:List (Addr×Obj))(s:Shared)(σ:St)(H:Hp)(xs:List V)(us:List Value)(Q:VK),Inv X pins σ H s→Vals xs us→r xs H Q →
  wpAny (model X.prog X.w) X.A (call f us) (EP X pins σ Q) X.xe s
def tOp(r:R2)(ta tb:TE):TE:=fun σ H Q=>ta σ H fun x H1=>tb σ H1 fun y H2=>r x y H2 Q
def tUn(r:V→Hp→VK→Prop)(ta:TE):TE:=fun σ H Q=>ta σ H fun x H1=>r x H1 Q
def rI(C:Int→Int→Prop)(g:Int→Int→V):R2:=fun x y H Q=>∃i j,x=.int i∧y=.int j∧C i j∧Q (g i j) H
def WL(g:Int→Int→V):R2:=fun x y H Q=>∃i j,x=.int i∧y=.int j∧Q (g i j) H
def rU(g:Int→V):V→Hp→VK→Prop:=fun x H Q=>∃i,x=.int i∧Q (g i) H
section
variable{X:Cx}{a b c:Expr}{ta tb tc:TE}{pos:Pos}
theorem Zw(ha:PE X a ta)(hb:PE X b tb){pins:List (Addr×Obj)}{s:Shared}{σ:St}{H:Hp}{R:V→V→Hp→Prop}(I:Inv X pins σ H s)(h:ta σ H fun x H1=>tb σ H1 fun y H2=>R x y H2){Q:Value→Shared→Prop}{f:Value→Value→Sem Value}(hf:∀v u s2 x y H2,Inv X pins σ H2 s2→RelV x v→RelV y u→R x y H2→wpAny (model X.prog X.w) X.A (f v u) Q X.xe s2) :
  wpAny (model X.prog X.w) X.A (eval a X.env) (fun v s₁=>wpAny (model X.prog X.w) X.A (eval b X.env) (fun u s₂=>wpAny (model X.prog X.w) X.A (f v u) Q X.xe s₂) X.xe s₁) X.xe s:=by
 refine dH (ha pins s σ H _ I h) fun v s1 ⟨x,H1,I1,r1,q1⟩=>?_;refine dH (hb pins s1 σ H1 _ I1 q1) fun u s2 ⟨y,H2,I2,r2,q2⟩=>?_;exact hf v u s2 x y H2 I2 r1 r2 q2
theorem fj{op:Operator}{r:R2}(ho:wI X (binaryOp op) r)(ha:PE X a ta)(hb:PE X b tb):PE X (.BinOp a op b pos) (tOp r ta tb):=by
 intro pins s σ H Q I h;exact wpAny_BinOp (Zw ha hb I h fun v u s2 x y H2 I2 rx ry q=>ho pins s2 σ H2 x y v u Q I2 rx ry q)
theorem yc{op:UnaryOp}{r:V→Hp→VK→Prop}(ho:UnR X (unaryOp op) r)(ha:PE X a ta):PE X (.UnaryOp op a pos) (tUn r ta):=by
 intro pins s σ H Q I h;exact UnaryOp_ (dH (ha pins s σ H _ I h) fun v s1 ⟨x,H1,I1,r1,q1⟩=>ho pins s1 σ H1 x v Q I1 r1 q1)
theorem opI{f:Value→Value→Sem Value}{C:Int→Int→Prop}{g:Int→Int→Int}(rule:∀(i j:Int)(t u:Tok)(s:Shared)(Q:Value→Shared→Prop)(E:Value→Shared→Prop),C i j→Q (.int (g i j) s.toks) { s with toks:=s.toks+1 }→wpAny (model X.prog X.w) X.A (f (.int i t) (.int j u)) Q E s) :
  wI X f (rI C fun i j=>.int (g i j)):=by
 intro pins s σ H x y v u Q I rx ry h;obtain⟨i,j,rfl,rfl,hc,q⟩:=h;obtain⟨t,rfl⟩:=rx;obtain⟨t',rfl⟩:=ry;exact rule i j t t' s _ _ hc ⟨.int (g i j),H,I.tok _,⟨_,rfl⟩,q⟩
theorem Zx{f:Value→Value→Sem Value}{g:Int→Int→Int}(rule:∀(i j:Int)(t u:Tok)(s:Shared)(Q:Value→Shared→Prop)(E:Value→Shared→Prop),Q (.int (g i j) s.toks) { s with toks:=s.toks+1 }→wpAny (model X.prog X.w) X.A (f (.int i t) (.int j u)) Q E s) :
  wI X f (WL fun i j=>.int (g i j)):=by
 intro pins s σ H x y v u Q I rx ry h;obtain⟨i,j,rfl,rfl,q⟩:=h;obtain⟨t,rfl⟩:=rx;obtain⟨t',rfl⟩:=ry;exact rule i j t t' s _ _ ⟨.int (g i j),H,I.tok _,⟨_,rfl⟩,q⟩
theorem WM{f:Value→Value→Sem Value}{g:Int→Int→Bool}(rule:∀(i j:Int)(t u:Tok)(s:Shared)(Q:Value→Shared→Prop)(E:Value→Shared→Prop),Q (.bool (g i j)) s→wpAny (model X.prog X.w) X.A (f (.int i t) (.int j u)) Q E s) :
  wI X f (WL fun i j=>.bl (g i j)):=by
 intro pins s σ H x y v u Q I rx ry h;obtain⟨i,j,rfl,rfl,q⟩:=h;obtain⟨t,rfl⟩:=rx;obtain⟨t',rfl⟩:=ry;exact rule i j t t' s _ _ ⟨.bl (g i j),H,I,rfl,q⟩
def aez(i j:Int):Prop:=0≤j∧j≤1000000∧i.natAbs<2^64
def Zy(i j:Int):Prop:=(-(2^64)<i∧i<2^64)∨(-(2^64)<j∧j<2^64)
theorem Zy.ok{i j:Int}(h:Zy i j):IntMulOk i j:=by
 rcases h with⟨h1,h2⟩|⟨h1,h2⟩
 ·exact .of_left (intBits_le_64 h1 h2)
 ·exact .of_right (intBits_le_64 h1 h2)
theorem JT(k:Nat):(0:Int)≤2^k:=by
 rw[two_pow_cast];exact Int.natCast_nonneg _
theorem JV:wI X (binaryOp .Add) (WL fun i j=>.int (i+j)):=Zx fun _ _ _ _ _ _ _ q=>add_int q
theorem rW:wI X (binaryOp .Sub) (WL fun i j=>.int (i-j)):=Zx fun _ _ _ _ _ _ _ q=>sub_int q
theorem Di:wI X (binaryOp .Mult) (rI Zy fun i j=>.int (i*j)):=opI fun _ _ _ _ _ _ _ hc q=>mul_int q hc.ok
theorem Dj:wI X (binaryOp .Mod) (rI (fun _ j=>0<j) fun i j=>.int (i%j)):=opI fun i j _ _ _ _ _ hc q=>by
 have h1:(0:Int)<j:=hc;exact mod_int' (by omega) (by rw[Int.fmod_eq_emod_of_nonneg i (by omega)];exact q)
theorem Zz:wI X (binaryOp .LShift) (rI aez fun i j=>.int (i*2^j.toNat)):=opI fun _ _ _ _ _ _ _ hc q=>lshift_int_small hc.1 hc.2.1 hc.2.2 q
theorem R8:wI X (binaryOp .RShift) (rI (fun _ j=>0≤j) fun i j=>.int (i / 2^j.toNat)):=opI fun i j _ _ _ _ _ hc q=>
 rshift_int hc (by rw[Int.fdiv_eq_ediv_of_nonneg i (JT _)];exact q)
theorem R9:wI X (binaryOp .BitAnd) (WL fun i j=>.int (Builtin.bitAnd i j)):=Zx fun _ _ _ _ _ _ _ q=>and_int q
theorem unI{f:Value→Sem Value}{g:Int→Int}(rule:∀(i:Int)(t:Tok)(s:Shared)(Q:Value→Shared→Prop)(E:Value→Shared→Prop),Q (.int (g i) s.toks) { s with toks:=s.toks+1 }→wpAny (model X.prog X.w) X.A (f (.int i t)) Q E s) :
  UnR X f (rU fun i=>.int (g i)):=by
 intro pins s σ H x v Q I rx h;obtain⟨i,rfl,q⟩:=h;obtain⟨t,rfl⟩:=rx;exact rule i t s _ _ ⟨.int (g i),H,I.tok _,⟨_,rfl⟩,q⟩
theorem rY:UnR X (unaryOp .USub) (rU fun i=>.int (-i)):=unI fun _ _ _ _ _ q=>neg_int q
end
def abX:V→V→Bool
 | .non,.non=>true | .non,.int _=>true | .int _,.non=>true | .non,.bl _=>true | .bl _,.non=>true | .non,.str _=>true | .str _,.non=>true
 | .int _,.int _=>true | .bl _,.bl _=>true | .str _,.str _=>true | .Rz _,.Rz _=>true
 | .int _,.str _=>true | .str _,.int _=>true | .bl _,.str _=>true | .str _,.bl _=>true
 |_,_=>false
def rEq:R2:=fun x y H Q=>abX x y=true∧Q (.bl (decide (x=y))) H
def rNe:R2:=fun x y H Q=>abX x y=true∧Q (.bl (!decide (x=y))) H
theorem Nb{i j:Int}:decide (V.int i=V.int j)=(i==j):=by
 rw[Bool.eq_iff_iff];simp
theorem Sd{i j:Bool}:decide (V.bl i=V.bl j)=(i==j):=by
 rw[Bool.eq_iff_iff];simp
theorem Nf{i j:Str}:decide (V.str i=V.str j)=(i==j):=by
 rw[Bool.eq_iff_iff];simp
theorem Ng{i j:Array UInt8}:decide (V.Rz i=V.Rz j)=(i.toList==j.toList):=by
 rw[Bool.eq_iff_iff];cases i;cases j;simp
section
variable{X:Cx}{a b c:Expr}{ta tb tc:TE}{pos:Pos}
theorem bR{pins:List (Addr×Obj)}{σ:St}{H:Hp}{s:Shared}{Q:VK}{k k':Bool}(I:Inv X pins σ H s)(q:Q (.bl k) H)(e:k=k'):EP X pins σ Q (.bool k') s:=by
 subst e;exact⟨.bl k,H,I,rfl,q⟩
theorem gY:wI X (compareOp .Eq) rEq:=by
 intro pins s σ H x y v u Q I rx ry h;obtain⟨hs,q⟩:=h;cases x with
 |non=>
  cases rx;cases y with
  |non=>cases ry;exact PySem.EqNone.eq_none_none (bR I q (by simp))
  |bl j=>cases ry;exact PySem.EqNone.eq_none_bool (bR I q (by simp))
  |int j=>obtain⟨t',rfl⟩:=ry;exact PySem.EqNone.eq_none_int (bR I q (by simp))
  |str j=>obtain⟨t',rfl⟩:=ry;exact PySem.EqNone.eq_none_str (bR I q (by simp))
  |_=>exact absurd (show false=true from hs) Bool.false_ne_true
 |bl i=>
  cases rx;cases y with
  |non=>cases ry;exact PySem.EqNone.eq_bool_none (bR I q (by simp))
  |bl j=>cases ry;exact eq_bool (bR I q Sd)
  |str j=>obtain⟨t',rfl⟩:=ry;exact PySem.EqMixed.eq_bool_str (bR I q (by simp))
  |_=>exact absurd (show false=true from hs) Bool.false_ne_true
 |int i=>
  obtain⟨t,rfl⟩:=rx;cases y with
  |non=>cases ry;exact PySem.EqNone.eq_int_none (bR I q (by simp))
  |int j=>obtain⟨t',rfl⟩:=ry;exact eq_int (bR I q Nb)
  |str j=>obtain⟨t',rfl⟩:=ry;exact PySem.EqMixed.eq_int_str (bR I q (by simp))
  |_=>exact absurd (show false=true from hs) Bool.false_ne_true
 |str i=>
  obtain⟨t,rfl⟩:=rx;cases y with
  |non=>cases ry;exact PySem.EqNone.eq_str_none (bR I q (by simp))
  |bl j=>cases ry;exact PySem.EqMixed.eq_str_bool (bR I q (by simp))
  |int j=>obtain⟨t',rfl⟩:=ry;exact PySem.EqMixed.eq_str_int (bR I q (by simp))
  |str j=>obtain⟨t',rfl⟩:=ry;exact eq_str (bR I q Nf)
  |_=>exact absurd (show false=true from hs) Bool.false_ne_true
 |Rz i=>
  obtain⟨t,rfl⟩:=rx;cases y with
  |Rz j=>obtain⟨t',rfl⟩:=ry;exact PySem.W.eq_bytes (bR I q Ng)
  |_=>exact absurd (show false=true from hs) Bool.false_ne_true
 |_=>cases y<;>exact absurd (show false=true from hs) Bool.false_ne_true
theorem yd:wI X (compareOp .NotEq) rNe:=by
 intro pins s σ H x y v u Q I rx ry h;obtain⟨hs,q⟩:=h;cases x with
 |non=>
  cases rx;cases y with
  |non=>cases ry;exact PySem.EqNone.ne_none_none (bR I q (by simp))
  |bl j=>cases ry;exact PySem.EqNone.ne_none_bool (bR I q (by simp))
  |int j=>obtain⟨t',rfl⟩:=ry;exact PySem.EqNone.ne_none_int (bR I q (by simp))
  |str j=>obtain⟨t',rfl⟩:=ry;exact PySem.EqNone.ne_none_str (bR I q (by simp))
  |_=>exact absurd (show false=true from hs) Bool.false_ne_true
 |bl i=>
  cases rx;cases y with
  |non=>cases ry;exact PySem.EqNone.ne_bool_none (bR I q (by simp))
  |bl j=>cases ry;exact ne_bool (bR I q (congrArg not Sd))
  |str j=>obtain⟨t',rfl⟩:=ry;exact PySem.EqMixed.ne_bool_str (bR I q (by simp))
  |_=>exact absurd (show false=true from hs) Bool.false_ne_true
 |int i=>
  obtain⟨t,rfl⟩:=rx;cases y with
  |non=>cases ry;exact PySem.EqNone.ne_int_none (bR I q (by simp))
  |int j=>obtain⟨t',rfl⟩:=ry;exact ne_int (bR I q (congrArg not Nb))
  |str j=>obtain⟨t',rfl⟩:=ry;exact PySem.EqMixed.ne_int_str (bR I q (by simp))
  |_=>exact absurd (show false=true from hs) Bool.false_ne_true
 |str i=>
  obtain⟨t,rfl⟩:=rx;cases y with
  |non=>cases ry;exact PySem.EqNone.ne_str_none (bR I q (by simp))
  |bl j=>cases ry;exact PySem.EqMixed.ne_str_bool (bR I q (by simp))
  |int j=>obtain⟨t',rfl⟩:=ry;exact PySem.EqMixed.ne_str_int (bR I q (by simp))
  |str j=>obtain⟨t',rfl⟩:=ry;exact ne_str (bR I q (congrArg not Nf))
  |_=>exact absurd (show false=true from hs) Bool.false_ne_true
 |Rz i=>
  obtain⟨t,rfl⟩:=rx;cases y with
  |Rz j=>obtain⟨t',rfl⟩:=ry;exact PySem.W.ne_bytes (bR I q (congrArg not Ng))
  |_=>exact absurd (show false=true from hs) Bool.false_ne_true
 |_=>cases y<;>exact absurd (show false=true from hs) Bool.false_ne_true
theorem Bv:wI X (compareOp .Lt) (WL fun i j=>.bl (decide (i<j))):=WM fun _ _ _ _ _ _ _ q=>lt_int q
theorem Nh:wI X (compareOp .LtE) (WL fun i j=>.bl (decide (i≤j))):=WM fun _ _ _ _ _ _ _ q=>le_int q
theorem tZ:wI X (compareOp .Gt) (WL fun i j=>.bl (decide (j<i))):=WM fun _ _ _ _ _ _ _ q=>gt_int q
theorem Fz:wI X (compareOp .GtE) (WL fun i j=>.bl (decide (j≤i))):=WM fun _ _ _ _ _ _ _ q=>ge_int q
theorem bf(b:Expr){op:CmpOp}(h:op≠.In:=by decide)(h2:op≠.NotIn:=by decide):behindInMarks op b=false:=by
 have e1:(op==CmpOp.In)=false:=by cases op<;>first|rfl|exact absurd rfl h
 have e2:(op==CmpOp.NotIn)=false:=by cases op<;>first|rfl|exact absurd rfl h2
 cases b<;>simp[behindInMarks,e1,e2]
theorem eN{op:CmpOp}{r:R2}(ho:wI X (compareOp op) r)(ha:PE X a ta)(hb:PE X b tb)(hm:behindInMarks op b=false):PE X (.Compare a [op] [b] pos) (tOp r ta tb):=by
 intro pins s σ H Q I h;exact wpAny_Compare1 (Zw ha hb I h fun v u s2 x y H2 I2 rx ry q=>ho pins s2 σ H2 x y v u Q I2 rx ry q) hm
def abY(t:TE):TT:=fun σ H Q=>t σ H fun x H'=>∃k,x=.bl k∧Q k H'
theorem aU{op:CmpOp}{r:R2}(ho:wI X (compareOp op) r)(ha:PE X a ta)(hb:PE X b tb)(hm:behindInMarks op b=false):PT X (.Compare a [op] [b] pos) (abY (tOp r ta tb)):=by
 intro pins s σ H Q I h;refine wpAny_isTrue_Compare1 (dH (ha pins s σ H _ I h) fun v s1 ⟨x,H1,I1,r1,q1⟩=>dH (hb pins s1 σ H1 _ I1 q1) fun u s2 ⟨y,H2,I2,r2,q2⟩=>
  dH (ho pins s2 σ H2 x y v u _ I2 r1 r2 q2) fun c s3 ⟨z,H3,I3,r3,k,e,q3⟩=>?_) hm
 subst e;cases r3;exact wpAny_truthy_bool ⟨H3,I3,q3⟩
theorem yg:(sizeLine:Nat)<2^63:=by rw[sizeLine_eq];decide
theorem JW:wI X (binaryOp .Add) (fun x y H Q=>∃i j,x=.str i∧y=.str j∧i.length+j.length≤sizeLine∧Q (.str (i++j)) H):=by
 intro pins s σ H x y v u Q I rx ry h;obtain⟨i,j,rfl,rfl,hz,q⟩:=h;obtain⟨t,rfl⟩:=rx;obtain⟨t',rfl⟩:=ry;exact add_str (fun t' tk=>⟨.str (i++j),H,I.tok _,⟨_,rfl⟩,q⟩) hz
theorem vals1{x:V}{us:List Value}(r:Vals [x] us):∃u,us=[u]∧RelV x u:=by
 cases r with
 |cons r1 r2=>cases r2;exact⟨_,rfl,r1⟩
theorem vals2{x y:V}{us:List Value}(r:Vals [x,y] us):∃u w',us=[u,w']∧RelV x u∧RelV y w':=by
 cases r with
 |cons r1 r2=>
  cases r2 with
  |cons r3 r4=>cases r4;exact⟨_,_,rfl,r1,r3⟩
theorem Sg:pK X (.builtin "ord") (fun xs H Q=>∃x,xs=[.str x]∧x.length=1∧Q (.int (x.cps.getD 0 0:Nat)) H):=by
 intro pins s σ H xs us Q I r h;obtain⟨x,rfl,hz,q⟩:=h;obtain⟨u,rfl,t,rfl⟩:=vals1 r;exact ord_of_one hz ⟨.int _,H,I.tok _,⟨_,rfl⟩,q⟩
end
structure JX(h:Heap)(x dx C:Addr)(mA:Str→Option Value):Prop where
 obj:h.get? x=some (instObj C dx)
 ns:h.Ns1 dx mA
 ne:dx≠x
theorem Bw{h:Heap}{dx:Addr}{mA:Str→Option Value}(n:h.Ns1 dx mA):∃od,h.get? dx=some od∧∀name,lookIn name od=some (mA name):=by
 obtain⟨o,es,ep,ho,hd,hk,_,hm⟩:=n;refine⟨o,ho,fun name=>?_⟩;have e:=hm name;unfold nsFind findBy at e;rw[←Array.find?_toList]at e;unfold lookIn;rw[hd];dsimp only;split
 ·rename_i y q;rw[q]at e;exact congrArg some e
 ·rename_i q;rw[q]at e;have a:es.toList.any (·.refKey)=false:=by
   rw[List.any_eq_false];intro y hy;obtain⟨z,t,hkey⟩:=hk y (Array.mem_toList_iff.mp hy);simp[DictEntry.refKey,hkey]
  have a':¬es.toList.any (·.refKey)=true:=by rw[a];exact Bool.false_ne_true
  rw[if_neg a'];exact congrArg some e
theorem JX.look{h:Heap}{x dx C:Addr}{mA:Str→Option Value}(I:JX h x dx C mA):∃od,PySem.W.InstAt h x (instObj C dx) C (some od)∧∀name,lookIn name od=some (mA name):=
 let ⟨od,ho,hl⟩:=Bw I.ns
 ⟨od,⟨I.obj,rfl,rfl,ho⟩,hl⟩
section
variable{prog:Program}{w:World}{A:Around}{E:Value→Shared→Prop}{s:Shared}{K:PySem.W.Frag}{x dx C f:Addr}{mA:Str→Option Value}{name:Str}{v:Value}
theorem get_map{expr:Bool}{Q:Value→Shared→Prop}(X:K.In s.heap)(I:JX s.heap x dx C mA)(hg:plainGet K C name=true)(hh:PySem.W.hasDictIn K C=true)(ha:PySem.W.findIn K (.ref C) name=some none)(hv:mA name=some v)(hv':PySem.W.handedIn v=true)(h:Q v { s with toks:=s.toks+1 }) :
  wpAny (model prog w) A (getAttr (.ref x) name expr) Q E s:=by
 obtain⟨od,J,hl⟩:=I.look;exact PySem.W.get_value X J (plainGet_of hg).1 (findObj_own hh ha rfl (by rw[hl,hv])) hv' h
theorem Sh{pl:Sem Bool}{Q:Value×List Value→Shared→Prop}(X:K.In s.heap)(I:JX s.heap x dx C mA)(hg:plainGet K C name=true)(hf:PySem.W.findIn K (.ref C) name=some (some (.ref f)))(ht:isFn K (.ref f)=true)(hv:mA name=none)(h:Q (.ref f,[.ref x]) s) :
  wpAny (model prog w) A (getMethod (.ref x) name pl) Q E s:=by
 obtain⟨od,J,hl⟩:=I.look;exact PySem.W.method_fn X J (plainGet_of hg).1 (plainGet_of hg).2 hf (beq_iff_eq.mp ht) (by show (lookIn name od).map (·.isSome)=some false;rw[hl,hv];rfl) h
theorem WQ{ns:List Str}{Q:Unit→Shared→Prop}(X:K.In s.heap)(I:JX s.heap x dx C mA)(hs:PySem.W.findIn K (.ref C) "__setattr__"=some (some (.builtin "object.__setattr__")))(hp:plainOver K C=true)(ht:takerIn K C name=some none)(hh:PySem.W.hasDictIn K C=true)(hw:PySem.Within mA ns)(hsz:ns.length≤sizeLine)(h:∀h',JX h' x dx C (fun y=>if y=name then some v else mA y)→Heap.SameBut dx s.heap h'→Q () { s with heap:=h',toks:=s.toks+2 }) :
  wpAny (model prog w) A (setAttr (.ref x) name v) Q E s:=by
 obtain⟨od,J,hl⟩:=I.look;refine PySem.W.set_plain X J hs (PySem.W.osa_open (s:={ s with toks:=s.toks+1 }) (r:=none) X J hp ht fun b=>?_);obtain⟨cd,hc,hd'⟩:=PySem.W.any_some hh;have hx:s.heap.get? x=some ⟨.ref C,some dx,.plain,#[]⟩:=I.obj;refine wpAny_bind (wpAny_pure (wpAny_bind (wpAny_bind (wpAny_loadPart hx (wpAny_bind (PySem.W.Looks.here (s:={ s with toks:=s.toks+1 }) (PySem.W.looks_clsIn X hc) ?_))))));rw[hd'];refine wpAny_pure (a:=some dx) (wpAny_bind (wpAny_pure (wpAny_bind ?_)));refine wpAny_nsSet1 (s:={ s with toks:=s.toks+1 }) I.ns fun h' hn2 hs2=>?_;obtain⟨oD,esD,epD,hoD,hdD,hcD⟩:=hn2.count (PySem.Within.cons name v hw);refine wpAny_bind (wpAny_lookBehind hoD (by rw[hdD];exact pastItsLine_dict (le_trans hcD (by rw[length_cons];omega))) ?_);exact wpAny_pure (h _ ⟨(hs2.2 _ (Ne.symm I.ne)).trans I.obj,hn2,I.ne⟩ hs2)
theorem Sq{R:Result→Shared→Prop}{vs:List Value}{kw:List (Str×Value)}(X:K.In s.heap)(hm:makesIn K C=true)(hi:PySem.W.findIn K (.ref C) "__init__"=some (some (.ref f)))(hf:PySem.W.typeIn K (.ref f)=some (.type "function"))(h:codeAny (model prog w) (A.under (.builtin "type.__call__" ⟨.ref C::vs,kw⟩)) (.call (.ref f) ⟨.ref (s.heap.objs.size+1)::vs,kw⟩) (PySem.W.InitBack (s.heap.objs.size+1) R)
   { s with heap:=(s.heap.push PySem.W.emptyDict).push (instObj C s.heap.objs.size) }) :
  codeAny (model prog w) A (.call (.ref C) ⟨vs,kw⟩) R s:=by
 obtain⟨hh,g,d,t,os⟩:=s;exact PySem.W.make_core (PySem.W.makes_of X hm) (PySem.W.looks_findIn X hi) (fun self=>PySem.W.bind_fn X self hf) (.inl rfl) h
end
def cX(f:Str)(v:V):List (Str×V)→List (Str×V)
 | []=>[(f,v)]
 | (g,x)::r=>if g=f then (g,v)::r else (g,x)::cX f v r
theorem vZ(f g:Str)(v:V):∀fs:List (Str×V),(cX f v fs).lookup g=if g=f then some v else fs.lookup g
 | []=>by
  show List.lookup g [(f,v)]=_;by_cases h:g=f
  ·have hb:(g==f)=true:=beq_iff_eq.mpr h;simp only[List.lookup,hb,if_pos h]
  ·have hb:(g==f)=false:=beq_eq_false_iff_ne.mpr h;simp only[List.lookup,hb,if_neg h]
 | (k,x)::r=>by
  have ih:=vZ f g v r;rw[show cX f v ((k,x)::r)=(if k=f then (k,v)::r else (k,x)::cX f v r) from rfl];by_cases hk:k=f
  ·rw[if_pos hk];by_cases h:g=k
   ·have hb:(g==k)=true:=beq_iff_eq.mpr h;simp only[List.lookup,hb,if_pos (h.trans hk)]
   ·have hb:(g==k)=false:=beq_eq_false_iff_ne.mpr h;simp only[List.lookup,hb,if_neg (fun e:g=f=>h (e.trans hk.symm))]
  ·rw[if_neg hk];by_cases h:g=k
   ·have hb:(g==k)=true:=beq_iff_eq.mpr h;simp only[List.lookup,hb,if_neg (fun e:g=f=>hk (h.symm.trans e))]
   ·have hb:(g==k)=false:=beq_eq_false_iff_ne.mpr h;simp only[List.lookup,hb];exact ih
theorem uU(f:Str)(v:V):∀fs:List (Str×V),f∈(cX f v fs).map (·.1)∧∀g,g∈fs.map (·.1)→g∈(cX f v fs).map (·.1)
 | []=>⟨by simp[cX],fun g h=>by simp at h⟩
 | (k,x)::r=>by
  obtain⟨i1,i2⟩:=uU f v r;rw[show cX f v ((k,x)::r)=(if k=f then (k,v)::r else (k,x)::cX f v r) from rfl];by_cases hk:k=f
  ·rw[if_pos hk];subst hk;exact⟨by simp,fun g h=>by simpa using h⟩
  ·rw[if_neg hk];refine⟨?_,fun g h=>?_⟩
   ·rw[map_cons];exact mem_cons_of_mem _ i1
   ·rw[map_cons]at h ⊢;rcases mem_cons.mp h with e|e
    ·exact mem_cons.mpr (.inl e)
    ·exact mem_cons_of_mem _ (i2 g e)
theorem lV(f:Str)(v:V):∀fs:List (Str×V),(cX f v fs).length≤fs.length+1
 | []=>by simp[cX]
 | (k,x)::r=>by
  have ih:=lV f v r;rw[show cX f v ((k,x)::r)=(if k=f then (k,v)::r else (k,x)::cX f v r) from rfl];by_cases hk:k=f
  ·rw[if_pos hk,length_cons,length_cons];omega
  ·rw[if_neg hk,length_cons,length_cons];omega
theorem oE.some_of{v:V}{o:Option Value}(r:oE (some v) o):∃u,o=some u∧RelV v u:=by
 cases o with
 |none=>exact(show False from r).elim
 |some u=>exact⟨u,rfl,r⟩
theorem oE.none_of{o:Option Value}(r:oE none o):o=none:=by
 cases o with
 |none=>rfl
 |some u=>exact(show False from r).elim
theorem Bx{v:V}{u:Value}(r:RelV v u):PySem.W.handedIn u=true:=by
 cases v with
 |non=>cases (show u=Value.none from r);rfl
 |bl b=>cases (show u=Value.bool b from r);rfl
 |int i=>obtain⟨t,e⟩:=(show ∃t,u=Value.int i t from r);cases e;rfl
 |str x=>obtain⟨t,e⟩:=(show ∃t,u=Value.str x t from r);cases e;rfl
 |Rz b=>obtain⟨t,e⟩:=(show ∃t,u=Value.bytes b t from r);cases e;rfl
 |flt b=>obtain⟨t,e⟩:=(show ∃t,u=Value.float b t from r);cases e;rfl
 |ref a=>cases (show u=Value.ref a from r);rfl
 |ty n=>cases (show u=Value.type n from r);rfl
section
variable{P:Program}{w:World}{H H':Hp}{h h':Heap}{a C dx:Addr}{fs fs':List (Str×V)}
theorem Dk(hok:oF P w H h)(e:H a=some (.ins C dx fs)):∃mA,JX h a dx C mA∧(∀f,oE (fs.lookup f) (mA f))∧PySem.Within mA (fs.map (·.1))∧fs.length≤1000∧H dx=some (.own a):=by
 obtain⟨d,z,ne,ob,mA,n,r,q⟩:=(show eZ P w H h a (.ins C dx fs) from hok a _ e);exact⟨mA,⟨ob,n,ne⟩,r,q,z,d⟩
end
structure Cls(K:PySem.W.Frag)(C:Addr):Prop where
 pg:plainGet K C Str.empty=true
 hd:PySem.W.hasDictIn K C=true
 po:plainOver K C=true
 sa:PySem.W.findIn K (.ref C) "__setattr__"=some (some (.builtin "object.__setattr__"))
theorem Cls.get{K:PySem.W.Frag}{C:Addr}(c:Cls K C)(f:Str):plainGet K C f=true:=c.pg
def pQ(K:PySem.W.Frag)(C:Addr)(f:Str):Prop:=PySem.W.findIn K (.ref C) f=some none
theorem pQ.taker{K:PySem.W.Frag}{C:Addr}{f:Str}(n:pQ K C f):takerIn K C f=some none:=by
 unfold takerIn;rw[show PySem.W.findIn K (.ref C) f=some none from n];rfl
structure Meth(K:PySem.W.Frag)(C:Addr)(m:Str)(f:Addr):Prop where
 at_:PySem.W.findIn K (.ref C) m=some (some (.ref f))
 fn:isFn K (.ref f)=true
 kp:keepIn K (.ref f)=true
section
variable{X:Cx}{pins:List (Addr×Obj)}{σ:St}{H:Hp}{s:Shared}{a C dx:Addr}{fs:List (Str×V)}{f:Str}{v:V}{A:Around}{E:Value→Shared→Prop}
theorem yh{b:Bool}{Q:Value→Shared→Prop}(I:Inv X pins σ H s)(e:H a=some (.ins C dx fs))(c:Cls X.K C)(n:pQ X.K C f)(l:fs.lookup f=some v)(h:∀u s',Inv X pins σ H s'→RelV v u→Q u s'):wpAny (model X.prog X.w) A (getAttr (.ref a) f b) Q E s:=by
 obtain⟨mA,O,r,_,_,_⟩:=Dk I.hok e;obtain⟨u,hu,ru⟩:=oE.some_of (v:=v) (o:=mA f) (by rw[←l];exact r f);exact get_map I.rQ O (c.get f) c.hd n hu (Bx ru) (h u _ (I.tok _) ru)
theorem yj{m:Str}{g:Addr}{pl:Sem Bool}{Q:Value×List Value→Shared→Prop}(I:Inv X pins σ H s)(e:H a=some (.ins C dx fs))(c:Cls X.K C)(k:Meth X.K C m g)(l:fs.lookup m=none)(h:Q (.ref g,[.ref a]) s):wpAny (model X.prog X.w) A (getMethod (.ref a) m pl) Q E s:=by
 obtain⟨mA,O,r,_,_,_⟩:=Dk I.hok e;have hn:mA m=none:=oE.none_of (by rw[←l];exact r m);exact Sh I.rQ O (c.get m) k.at_ k.fn hn h
theorem yp{y:V}{u:Value}{Q:Unit→Shared→Prop}(I:Inv X pins σ H s)(e:H a=some (.ins C dx fs))(c:Cls X.K C)(n:pQ X.K C f)(hl:fs.length<1000)(ry:RelV y u)(h:∀s',Inv X pins σ (upd H a (.ins C dx (cX f y fs))) s'→Q () s'):wpAny (model X.prog X.w) A (setAttr (.ref a) f u) Q E s:=by
 obtain⟨mA,O,r,wi,_,ho⟩:=Dk I.hok e;have hz:(fs.map (·.1)).length≤sizeLine:=by rw[length_map,sizeLine_eq];omega
 refine WQ I.rQ O c.sa c.po n.taker c.hd wi hz fun h' O' sb=>h _ ?_;have hd:∃o,h'.get? dx=some o:=let ⟨o,_,_,e',_⟩:=O'.ns;⟨o,e'⟩;refine I.write (x:=a) (e:=dx) (by rw[e];exact True.intro) (.inr ho) (fun b q hb z=>(sb.2 b hb).trans z) hd ?_;refine⟨by rw[aj O.ne];exact ho,?_,O.ne,O'.obj,_,O'.ns,fun g=>?_,fun g hg=>?_⟩
 ·have:=lV f y fs;omega
 ·show oE ((cX f y fs).lookup g) (if g=f then some u else mA g);rw[vZ];by_cases q:g=f
  ·rw[if_pos q,if_pos q];exact ry
  ·rw[if_neg q,if_neg q];exact r g
 ·by_cases q:g=f
  ·rw[q];exact(uU f y fs).1
  ·refine(uU f y fs).2 g (wi g fun z=>hg ?_);show (if g=f then some u else mA g)=none;rw[if_neg q];exact z
theorem Inv.made(I:Inv X pins σ H s):Inv X pins σ (upd (upd H s.heap.objs.size (.own (s.heap.objs.size+1))) (s.heap.objs.size+1) (.ins C s.heap.objs.size []))
  { s with heap:=(s.heap.push PySem.W.emptyDict).push (instObj C s.heap.objs.size) }:=by
 have e1:(s.heap.push PySem.W.emptyDict).get? s.heap.objs.size=some PySem.W.emptyDict:=get?_push_size s.heap rfl;have e2:((s.heap.push PySem.W.emptyDict).push (instObj C s.heap.objs.size)).get? (s.heap.objs.size+1)=some (instObj C s.heap.objs.size):=by
  have:=get?_push_size (s.heap.push PySem.W.emptyDict) (o:=instObj C s.heap.objs.size) rfl
  rwa[size_push]at this
 have e3:(s.heap.push PySem.W.emptyDict).Ns s.heap.objs.size (fun _=>none):=⟨PySem.W.emptyDict,#[],_,e1,rfl,(fun e he=>absurd he (by simp)),fun _=>rfl⟩;have I1:=I.laid (a:=s.heap.objs.size) (o:=.own (s.heap.objs.size+1)) (h':=s.heap.push PySem.W.emptyDict) (t':=s.toks) (fun b u q=>get?_push_of_some _ q) (le_refl _) ⟨_,e1⟩;refine I1.laid (a:=s.heap.objs.size+1) (o:=.ins C s.heap.objs.size []) (t':=s.toks) (fun b u q=>get?_push_of_some _ q) (le_of_eq (size_push _ _)) ?_;have ne:s.heap.objs.size≠s.heap.objs.size+1:=ne_of_lt (lt_succ_self _);refine⟨by rw[aj ne,ao],zero_le _,ne,e2,fun _=>none,(Heap.Ns1.of_empty e3).at fun o q=>get?_push_of_some _ q,fun _=>True.intro,fun y hy=>absurd rfl hy⟩
theorem Ni{prog:Program}{w:World}{env:Env}{e:Expr}{f:Str}{pos:Pos}{s:Shared}{Q:Value→Shared→Prop}(hb:attributeBase e f env (eval e env)=eval e env)(h:wpAny (model prog w) A (eval e env) (fun o s₁=>wpAny (model prog w) A (getAttr o f true) Q E s₁) E s):wpAny (model prog w) A (eval (.Attribute e f pos) env) Q E s:=
 Attribute_any_ h (by rw[arm_eval_Attribute,hb])
end
def Ss(K:PySem.W.Frag)(ta:TE)(f:Str):TE:=fun σ H Q=>ta σ H fun x H1=>∃a C dx fs v,x=.ref a∧H1 a=some (.ins C dx fs)∧Cls K C∧pQ K C f∧fs.lookup f=some v∧Q v H1
def aeA(K:PySem.W.Frag)(ta tv:TE)(f:Str):TS:=fun D σ H=>tv σ H fun y H1=>ta σ H1 fun x H2=>∃a C dx fs,x=.ref a∧H2 a=some (.ins C dx fs)∧Cls K C∧pQ K C f∧fs.length<1000 ∧
 D.nx σ (upd H2 a (.ins C dx (cX f y fs)))
def abZ(X:Cx)(op:Operator)(rd:V→V→Hp→VK→Prop):Prop:=
 ∀(pins:List (Addr×Obj))(s:Shared)(σ:St)(H:Hp)(x y:V)(u v:Value)(Q:VK),Inv X pins σ H s→RelV x u→RelV y v→rd x y H Q→wpAny (model X.prog X.w) X.A (inplaceOp op u v) (EP X pins σ Q) X.xe s
def WR(K:PySem.W.Frag)(ta tv:TE)(rd:V→V→Hp→VK→Prop)(f:Str):TS:=fun D σ H=>ta σ H fun x H1=>∃a C dx fs v,x=.ref a∧H1 a=some (.ins C dx fs)∧Cls K C∧pQ K C f∧fs.lookup f=some v ∧
 tv σ H1 fun y H2=>rd v y H2 fun z H3=>∃dx' fs',H3 a=some (.ins C dx' fs')∧fs'.length<1000∧D.nx σ (upd H3 a (.ins C dx' (cX f z fs')))
section
variable{X:Cx}{o e value:Expr}{f:Str}{pos pos' tpos:Pos}{ta tv:TE}
theorem aM(he:PE X e ta)(hb:attributeBase e f X.env (eval e X.env)=eval e X.env):PE X (.Attribute e f pos) (Ss X.K ta f):=by
 intro pins s σ H Q I h;refine Ni hb (dH (he pins s σ H _ I h) fun u s1 ⟨x,H1,I1,rx,a,C,dx,fs,v,ex,ea,c,n,l,q⟩=>?_);subst ex;obtain rfl:u=Value.ref a:=rx;exact yh I1 ea c n l fun u' s2 I2 ru=>⟨v,H1,I2,ru,q⟩
theorem fG(ha:PE X o ta)(hv:PE X value tv)(hs:swapsWith value (some (.Attribute o f pos')) pos.line X.env=pure false):PS X (.Assign [.Attribute o f pos'] value pos) (aeA X.K ta tv f):=by
 intro pins s σ H D I h;refine plainObj_wpAny_Assign_Attribute (dH (hv pins s σ H _ I h) fun u s1 ⟨y,H1,I1,ry,q⟩=>dH (ha pins s1 σ H1 _ I1 q) fun ov s2 ⟨x,H2,I2,rx,a,C,dx,fs,ex,ea,c,n,l,q2⟩=>?_) hs;subst ex;obtain rfl:ov=Value.ref a:=rx;exact yp I2 ea c n l ry fun s3 I3=>⟨σ,_,I3,q2⟩
theorem Qa{op:Operator}{rd:V→V→Hp→VK→Prop}(ha:PE X o ta)(hv:PE X value tv)(hop:abZ X op rd):PS X (.AugAssign (.Attribute o f tpos) op value pos) (WR X.K ta tv rd f):=by
 intro pins s σ H D I h;refine wpAny_AugAssign_AttributeAny (dH (ha pins s σ H _ I h) fun ov s1 ⟨x,H1,I1,rx,a,C,dx,fs,v,ex,ea,c,n,l,q⟩=>?_);subst ex;obtain rfl:ov=Value.ref a:=rx;refine yh I1 ea c n l fun u s2 I2 ru=>dH (hv pins s2 σ H1 _ I2 q) fun w3 s3 ⟨y,H2,I3,ry,q3⟩=>dH (hop pins s3 σ H2 v y u w3 _ I3 ru ry q3) fun w4 s4 ⟨z,H3,I4,rz,dx',fs',ea',l',q4⟩=>?_;exact yp I4 ea' c n l' rz fun s5 I5=>⟨σ,_,I5,q4⟩
def aeB:V→V→Hp→VK→Prop:=fun x y H Q=>∃i j,x=.int i∧y=.int j∧Q (.int (i+j)) H
theorem ZC:abZ X .Add aeB:=by
 rintro pins s σ H x y u v Q I rx ry ⟨i,j,rfl,rfl,q⟩;obtain⟨t,rfl⟩:=(show ∃t,u=Value.int i t from rx);obtain⟨t',rfl⟩:=(show ∃t',v=Value.int j t' from ry);exact PyProof.Rows.iadd_int ⟨.int (i+j),H,I.tok _,⟨_,rfl⟩,q⟩
end
structure cY(k:Nat)(A:Around):Prop where
 hd:A.handled=none
 dp:A.depth+3*k+5<recursionLimit
 un:A.units+16*k+200<cLine
theorem cY.mono{j k:Nat}{A:Around}(r:cY k A)(h:j≤k):cY j A:=⟨r.hd,by have:=r.dp;omega,by have:=r.un;omega⟩
theorem cY.deeper{k:Nat}{A:Around}(r:cY (k+1) A)(env:Env):cY k (A.deeper env):=
 ⟨r.hd,by have:=r.dp;show A.depth+1+3*k+5<_;omega,by have:=r.un;show A.units+3+16*k+200<_;omega⟩
theorem cY.in1{k:Nat}{A:Around}(r:cY (k+1) A):cY k A.in1:=
 ⟨r.hd,by have:=r.dp;show A.depth+3*k+5<_;omega,by have:=r.un;show A.units+1+16*k+200<_;omega⟩
theorem JZ{A:Around}{C:Addr}{us:List Value}{kw:List (Str×Value)}:(A.under (.builtin "type.__call__" ⟨.ref C::us,kw⟩)).depth=A.depth+1:=by
 first|rfl|simp[Around.under,Code.weight,Code.isCreation,Code.isGuard,Code.isCaller,Code.frames,Code.isFrame,guardIds]
theorem J0{A:Around}{C:Addr}{us:List Value}{kw:List (Str×Value)}:(A.under (.builtin "type.__call__" ⟨.ref C::us,kw⟩)).units=A.units+1:=by
 first|rfl|simp[Around.under,Code.cUnits,Code.frames,Code.isFrame]
theorem cY.make{k:Nat}{A:Around}(r:cY (k+1) A)(C:Addr)(us:List Value)(kw:List (Str×Value)):cY k (A.under (.builtin "type.__call__" ⟨.ref C::us,kw⟩)):=
 ⟨r.hd,by have:=r.dp;rw[JZ];omega,by have:=r.un;rw[J0];omega⟩
theorem cY.depth{k:Nat}{A:Around}(r:cY k A):A.depth<recursionLimit:=by have:=r.dp;omega
theorem cY.units{k:Nat}{A:Around}(r:cY k A):A.units+64<cLine:=by have:=r.un;omega
def uV:TA:=fun _ H Q=>Q [] H
def FJ(ta:TE)(tr:TA):TA:=fun σ H Q=>ta σ H fun x H1=>tr σ H1 fun xs H2=>Q (x::xs) H2
section
variable{X:Cx}{e:Expr}{es:List Expr}{te:TE}{t:TA}{pos:Pos}
theorem aA:PA X [] uV:=fun _ _ _ _ H Q I h=>Calls.spliced_nil ⟨[],H,I,.nil,h⟩
theorem ak(ha:PE X e te)(hr:PA X es t)(hs:starEach (e::es) X.env=(false,eval e X.env)::starEach es X.env:=by rfl):PA X (e::es) (FJ te t):=by
 intro pos pins s σ H Q I h;rw[hs];show wpAny _ _ (spliced ((false,eval e X.env)::backTo pos (starEach es X.env))) _ _ s;refine Calls.spliced_cons (dH (ha pins s σ H _ I h) fun u s1 ⟨x,H1,I1,r1,q1⟩=>?_);exact dH (hr pos pins s1 σ H1 _ I1 q1) fun us s2 ⟨xs,H2,I2,r2,q2⟩=>⟨x::xs,H2,I2,.cons r1 r2,q2⟩
def aeC(t:TA):TE:=fun σ H Q=>t σ H fun xs H1=>xs.length≤sizeLine∧∀p,H1 p=none→Q (.ref p) (upd H1 p (.tup xs))
def aeD(t:TA):TE:=fun σ H Q=>t σ H fun xs H1=>xs.length≤sizeLine∧∀p,H1 p=none→Q (.ref p) (upd H1 p (.lst xs))
theorem J1{x1}(h:PA X es t):PE X (.Tuple es x1 pos) (aeC t):=by
 intro pins s σ H Q I hq;refine wpAny_Tuple_spliced (dH (h pos pins s σ H _ I hq) fun us s1 ⟨xs,H1,I1,r,z,q⟩=>⟨by rw[←r.length];exact z,?_⟩);have hf:H1 s1.heap.objs.size=none:=I1.hok.fresh (le_refl _);refine⟨.ref s1.heap.objs.size,upd H1 s1.heap.objs.size (.tup xs),I1.laid (t':=s1.toks) (fun b u e=>get?_push_of_some _ e) (le_refl _) ?_,rfl,q _ hf⟩;exact⟨z,us,r,⟨_,get?_push_size _ rfl,rfl,_,rfl⟩⟩
theorem gw(h:PA X es t):PE X (.List es pos) (aeD t):=by
 intro pins s σ H Q I hq;refine wpAny_List_spliced (dH (h pos pins s σ H _ I hq) fun us s1 ⟨xs,H1,I1,r,z,q⟩=>⟨by rw[←r.length];exact z,?_⟩);have hf:H1 s1.heap.objs.size=none:=I1.hok.fresh (le_refl _);refine⟨.ref s1.heap.objs.size,upd H1 s1.heap.objs.size (.lst xs),I1.laid (t':=s1.toks) (fun b u e=>get?_push_of_some _ e) (le_refl _) ?_,rfl,q _ hf⟩;exact⟨z,us,0,r,get?_push_size _ rfl⟩
end
abbrev Sp:=List V→Hp→VK→XK→Prop
abbrev Wr:=List Env→Hp→Shared→XK→Value→Shared→Prop
structure uc(P:Program)(w:World)(K:PySem.W.Frag)(mg:Str→Option Value)(base:Heap)(A:Around)(outer:List Env)(s:Shared)(H:Hp):Prop where
 frames:A.frames=some outer
 mod:Mod K mg base
 bs:∀b o,base.get? b=some o→s.heap.get? b=some o∧H b=none
 Px:base.objs.size≤s.heap.objs.size
 oG:s.heap.FunFrames base outer
 RP:∀b∈frs outer,H b=none
 hok:oF P w H s.heap
 bare:AllBare s.gens
def CE(outer:List Env)(P:Program)(w:World)(H:Hp)(s:Shared)(Q:VK)(u:Value)(s':Shared):Prop:=
 ∃v H',s'.os=s.os∧AllBare s'.gens∧Un (frs outer) [] H H' s.heap s'.heap∧oF P w H' s'.heap∧RelV v u∧Q v H'
def CR(CX:Wr)(outer:List Env)(P:Program)(w:World)(H:Hp)(s:Shared)(Q:VK)(E:XK)(r:Result)(s':Shared):Prop:=
 match r with
 | .ok (.ret u)=>CE outer P w H s Q u s'
 | .ok _=>False
 | .error e=>CX outer H s E e s'
structure iT(P:Program)(w:World)(K:PySem.W.Frag)(mg:Str→Option Value)(base:Heap)(CX:Wr)(k:Nat)(f:Addr)(fd:FuncData)(ps:List Str)(sp:Sp):Prop where
 len:∀vs H Q E,sp vs H Q E→vs.length=ps.length
 run:∀(A:Around)(outer:List Env)(s:Shared)(H:Hp)(args:Args)(us:List Value)(vs:List V)(Q:VK)(E:XK),cY k A→uc P w K mg base A outer s H→BindsTo s fd args (ps.zip us)→Vals vs us→sp vs H Q E →
  codeAny (model P w) A (.call (.ref f) args) (CR CX outer P w H s Q E) s
theorem iT.mono{P:Program}{w:World}{K:PySem.W.Frag}{mg:Str→Option Value}{base:Heap}{CX:Wr}{j k:Nat}{f:Addr}{fd:FuncData}{ps:List Str}{sp:Sp}(F:iT P w K mg base CX j f fd ps sp)(h:j≤k) :
  iT P w K mg base CX k f fd ps sp:=⟨F.len,fun A outer s H args us vs Q E hr=>F.run A outer s H args us vs Q E (hr.mono h)⟩
theorem uc.make{P:Program}{w:World}{K:PySem.W.Frag}{mg:Str→Option Value}{base:Heap}{A:Around}{outer:List Env}{s:Shared}{H:Hp}(e:uc P w K mg base A outer s H)(C:Addr)(us:List Value)(kw:List (Str×Value)) :
  uc P w K mg base (A.under (.builtin "type.__call__" ⟨.ref C::us,kw⟩)) outer s H:=⟨by first|exact e.frames | (simpa[Around.under,Code.envs,Code.isFrame,pushEnvs] using e.frames),e.mod,e.bs,e.Px,e.oG,e.RP,e.hok,e.bare⟩
section
variable{X:Cx}{pins:List (Addr×Obj)}{σ:St}{H:Hp}{s s':Shared}
theorem Inv.env0(I:Inv X pins σ H s):uc X.prog X.w X.K X.mg X.base X.A X.stack s H:=
 ⟨I.ok.frames,I.ok.mod,I.bs,le_trans I.ok.Px I.sz,I.stack,I.tR,I.hok,I.bare⟩
theorem Inv.after{Q:VK}{u:Value}(I:Inv X pins σ H s)(h:CE X.stack X.prog X.w H s Q u s'):EP X pins σ Q u s':=by
 obtain⟨v,H',os,bare,un,hok,r,q⟩:=h;obtain⟨hh,g,d,t,os'⟩:=s';obtain rfl:os'=s.os:=os;exact⟨v,H',I.call (h':=hh) (g':=g) (d':=d) (t':=t) (ch:=[]) un hok bare (fun b z=>absurd z (by simp)),r,q⟩
end
def Sw(sp:Sp)(Bf:List V)(E:XK)(t:TA):TE:=fun σ H Q=>t σ H fun vs H1=>sp (vs++Bf) H1 Q E
def ud(C:Addr)(m:Str)(sp:Sp)(Bf:List V)(E:XK)(ta:TE)(t:TA):TE:=fun σ H Q=>ta σ H fun x H1=>∃a dx fs,x=.ref a∧H1 a=some (.ins C dx fs)∧fs.lookup m=none ∧
 t σ H1 fun vs H2=>sp (x::(vs++Bf)) H2 Q E
def Sx(C:Addr)(sp:Sp)(Bf:List V)(E:XK)(t:TA):TE:=fun σ H Q=>t σ H fun vs H1=>∀x dx,H1 x=none→H1 dx=none→dx≠x →
 sp (.ref x::(vs++Bf)) (upd (upd H1 dx (.own x)) x (.ins C dx [])) (fun v H2=>v=.non∧Q (.ref x) H2) E
def Binds(K:PySem.W.Frag)(fd:FuncData)(ps:List Str)(ds:List Value):Prop:=
 ∀(s:Shared)(us:List Value),K.In s.heap→(us++ds).length=ps.length→BindsTo s fd ⟨us,[]⟩ (ps.zip (us++ds))
theorem Binds.all{K:PySem.W.Frag}{fd:FuncData}{ps:List Str}(h:∀us:List Value,us.length=ps.length→bindArgs fd ⟨us,[]⟩=pure (ps.zip us)):Binds K fd ps []:=fun s us _ hl=>by
 rw[append_nil]at hl ⊢;exact .of_eq (h us hl)
def Passes(CX:Wr)(X:Cx)(E:XK):Prop:=∀(pins:List (Addr×Obj))(σ:St)(H:Hp)(s:Shared)(e:Value)(s':Shared),Inv X pins σ H s→CX X.stack H s E e s'→X.xe e s'
section
variable{X:Cx}{CX:Wr}{k:Nat}{f C:Addr}{fd:FuncData}{ps:List Str}{sp:Sp}{Bf:List V}{ds:List Value}{E:XK}{x m:Str}{p pos apos:Pos}{e o:Expr}{es:List Expr}{ta:TE}{t:TA}
theorem Dl{pins:List (Addr×Obj)}{σ:St}{H:Hp}{s:Shared}{Q:VK}{us:List Value}{vs:List V}(F:iT X.prog X.w X.K X.mg X.base CX k f fd ps sp)(hr:cY k X.A)(hb:Binds X.K fd ps ds)(hd:Vals Bf ds)(hx:Passes CX X E)(I:Inv X pins σ H s)(r:Vals vs us)(h:sp (vs++Bf) H Q E):wpAny (model X.prog X.w) X.A (call (.ref f) us) (EP X pins σ Q) X.xe s:=by
 have r2:Vals (vs++Bf) (us++ds):=r.append hd;have hl:(us++ds).length=ps.length:=by rw[←r2.length];exact F.len _ _ _ _ h
 refine wpAny_call (codeAny_mono (F.run X.A X.stack s H ⟨us,[]⟩ (us++ds) (vs++Bf) Q E hr I.env0 (hb s us I.rQ hl) r2 h) fun r s' hq=>?_);cases r with
 |error e=>exact hx pins σ H s e s' I hq
 |ok fl=>
  cases fl with
  |ret u=>exact I.after hq
  |next=>exact False.elim hq
  |brk=>exact False.elim hq
  |cont=>exact False.elim hq
theorem WT(F:iT X.prog X.w X.K X.mg X.base CX k f fd ps sp)(hr:cY k X.A)(hg:Gl X x)(hm:X.mg x=some (.ref f))(hk:keepIn X.K (.ref f)=true)(hb:Binds X.K fd ps ds)(hd:Vals Bf ds)(hx:Passes CX X E)(ha:PA X (e::es) t)(hdb:(x==("__debug__":Str))=false:=by decide)(he:starEach (e::es) X.env=(false,eval e X.env)::starEach es X.env:=by rfl)(hpl:(backTo pos (starEach es X.env)).any (·.1)=false:=by rfl) :
  PE X (.Call (.Name x p) (e::es) [] pos) (Sw sp Bf E t):=by
 intro pins s σ H Q I h;refine wpAny_Call_Name_kw (jT I hg hm ?_ hdb);refine callWith_K (h₀:=X.base) I.ok.mod.Wo hk (dH (ha pos pins s σ H _ I h) fun us s1 ⟨vs,H1,I1,r,q⟩=>⟨I1.rQ,?_⟩) he hpl;exact Dl F hr hb hd hx I1 r q
theorem WW{pl:Sem Bool}(he:PE X o ta)(c:Cls X.K C)(hm:Meth X.K C m f)(F:iT X.prog X.w X.K X.mg X.base CX k f fd ps sp)(hr:cY k X.A)(hb:Binds X.K fd ps ds)(hd:Vals Bf ds)(hx:Passes CX X E)(ha:PA X (e::es) t)(hst:starEach (e::es) X.env=(false,eval e X.env)::starEach es X.env:=by rfl)(hpl:(backTo pos (starEach es X.env)).any (·.1)=false:=by rfl)(ht:eval (.Call (.Attribute o m apos) (e::es) [] pos) X.env=(do
   let ov ←eval o X.env
   standAt apos.atName
   let (f,first) ←holding [ov] (getMethod ov m pl)
   callWith pos f first (backTo pos (starEach (e::es) X.env)) (backToKw pos (keywordEach [] X.env))):=by rfl) :
  PE X (.Call (.Attribute o m apos) (e::es) [] pos) (ud C m sp Bf E ta t):=by
 intro pins s σ H Q I h;refine methodCall_KW (pl:=pl) (dH (he pins s σ H _ I h) fun u s1 ⟨x,H1,I1,rx,a,dx,fs,ex,ea,l,q⟩=>?_) ht;subst ex;obtain rfl:u=Value.ref a:=rx;refine yj I1 ea c hm l ?_;refine callWith_K (first:=[.ref a]) (h₀:=X.base) I.ok.mod.Wo hm.kp (dH (ha pos pins s1 σ H1 _ I1 q) fun us s2 ⟨vs,H2,I2,r,q2⟩=>⟨I2.rQ,?_⟩) hst hpl;exact Dl (us:=.ref a::us) (vs:=.ref a::vs) F hr hb hd hx I2 (.cons rfl r) q2
theorem Sy{pl:Sem Bool}(he:PE X o ta)(c:Cls X.K C)(hm:Meth X.K C m f)(F:iT X.prog X.w X.K X.mg X.base CX k f fd ps sp)(hr:cY k X.A)(hb:Binds X.K fd ps ds)(hd:Vals Bf ds)(hx:Passes CX X E)(ht:eval (.Call (.Attribute o m apos) [] [] pos) X.env=(do
   let ov ←eval o X.env
   standAt apos.atName
   let (f,first) ←holding [ov] (getMethod ov m pl)
   callWith pos f first (backTo pos (starEach [] X.env)) (backToKw pos (keywordEach [] X.env))):=by rfl) :
  PE X (.Call (.Attribute o m apos) [] [] pos) (ud C m sp Bf E ta uV):=by
 intro pins s σ H Q I h;refine methodCall_KW (pl:=pl) (dH (he pins s σ H _ I h) fun u s1 ⟨x,H1,I1,rx,a,dx,fs,ex,ea,l,q⟩=>?_) ht;subst ex;obtain rfl:u=Value.ref a:=rx;refine yj I1 ea c hm l ?_;exact callWith_K0 (first:=[.ref a]) I1.rQ hm.kp (Dl (us:=[.ref a]) (vs:=[.ref a]) F hr hb hd hx I1 (.cons rfl .nil) q)
structure Mk(K:PySem.W.Frag)(C f:Addr):Prop where
 makes:makesIn K C=true
 init:PySem.W.findIn K (.ref C) "__init__"=some (some (.ref f))
 fn:isFn K (.ref f)=true
 kp:keepIn K (.ref C)=true
theorem SJ{pins:List (Addr×Obj)}{σ:St}{H:Hp}{s:Shared}{Q:VK}{us:List Value}{vs:List V}(M:Mk X.K C f)(F:iT X.prog X.w X.K X.mg X.base CX k f fd ps sp)(hr:cY (k+1) X.A)(hb:Binds X.K fd ps ds)(hd:Vals Bf ds)(hx:Passes CX X E)(I:Inv X pins σ H s)(r:Vals vs us)(h:∀x dx,H x=none→H dx=none→dx≠x→sp (.ref x::(vs++Bf)) (upd (upd H dx (.own x)) x (.ins C dx [])) (fun v H2=>v=.non∧Q (.ref x) H2) E) :
  wpAny (model X.prog X.w) X.A (call (.ref C) us) (EP X pins σ Q) X.xe s:=by
 have hq:=h (s.heap.objs.size+1) s.heap.objs.size (I.hok.fresh (le_succ _)) (I.hok.fresh (le_refl _)) (ne_of_lt (lt_succ_self _));have I2:=Inv.made (C:=C) I;have r2:Vals (V.ref (s.heap.objs.size+1)::(vs++Bf)) (Value.ref (s.heap.objs.size+1)::(us++ds)):=.cons rfl (r.append hd);have hl:(Value.ref (s.heap.objs.size+1)::us++ds).length=ps.length:=by
  have e:=r2.length;rw[F.len _ _ _ _ hq]at e;exact e.symm
 refine wpAny_call (Sq (f:=f) I.rQ M.makes M.init (beq_iff_eq.mp M.fn) (codeAny_mono (F.run _ X.stack _ _ ⟨Value.ref (s.heap.objs.size+1)::us,[]⟩ (Value.ref (s.heap.objs.size+1)::(us++ds)) _ _ E (hr.make C us [])
  (I2.env0.make C us []) (hb _ (Value.ref (s.heap.objs.size+1)::us) I2.rQ hl) r2 hq) fun r s' hq'=>?_))
 cases r with
 |error e=>exact hx pins σ _ _ e s' I2 hq'
 |ok fl=>
  cases fl with
  |ret u=>
   obtain⟨v,H',I3,rv,ev,q3⟩:=I2.after hq';subst ev;exact⟨rv,⟨V.ref (s.heap.objs.size+1),H',I3,rfl,q3⟩⟩
  |next=>exact False.elim hq'
  |brk=>exact False.elim hq'
  |cont=>exact False.elim hq'
theorem WX(M:Mk X.K C f)(F:iT X.prog X.w X.K X.mg X.base CX k f fd ps sp)(hr:cY (k+1) X.A)(hg:Gl X x)(hm:X.mg x=some (.ref C))(hb:Binds X.K fd ps ds)(hd:Vals Bf ds)(hx:Passes CX X E)(ha:PA X (e::es) t)(hdb:(x==("__debug__":Str))=false:=by decide)(he:starEach (e::es) X.env=(false,eval e X.env)::starEach es X.env:=by rfl)(hpl:(backTo pos (starEach es X.env)).any (·.1)=false:=by rfl) :
  PE X (.Call (.Name x p) (e::es) [] pos) (Sx C sp Bf E t):=by
 intro pins s σ H Q I h;refine wpAny_Call_Name_kw (jT I hg hm ?_ hdb);refine callWith_K (h₀:=X.base) I.ok.mod.Wo M.kp (dH (ha pos pins s σ H _ I h) fun us s1 ⟨vs,H1,I1,r,q⟩=>⟨I1.rQ,?_⟩) he hpl;exact SJ M F hr hb hd hx I1 r q
end
structure aH(N P:List Str)(sc:Scope):Prop where
 kind:sc.kind=.function
 co:sc.isCoroutine=false
 gen:sc.isGenerator=false
 nd:N.Nodup
 pre:N.take P.length=P
 par:∀x∈P,sc.names.lookup x=some .local∨sc.names.lookup x=some .cell
 ZD:∀y∈sc.names,y.2≠.free
theorem BJ{kindOf:Str→Option NameKind}{x:Str}:∀{binds:List (Str×Value)}{m:Str→Option Value},(∀v,(x,v)∉binds)→bindL kindOf binds m x=m x
 | [],_,_=>rfl
 | (n,v)::r,m,h=>by
  unfold bindL;rw[BJ fun w hw=>h w (mem_cons_of_mem _ hw)];split
  ·have:x≠n:=by rintro rfl;exact h v mem_cons_self
   simp[this]
  ·rfl
theorem BL{kindOf:Str→Option NameKind}{x:Str}:∀{binds:List (Str×Value)}{m:Str→Option Value},(∀v,(x,v)∉binds)→bindC kindOf binds m x=m x
 | [],_,_=>rfl
 | (n,v)::r,m,h=>by
  unfold bindC;rw[BL fun w hw=>h w (mem_cons_of_mem _ hw)];split
  ·rfl
  ·have:x≠n:=by rintro rfl;exact h v mem_cons_self
   simp[this]
theorem BP{kindOf:Str→Option NameKind}{x:Str}{v:Value}:∀{P:List Str}{vs:List Value}{i:Nat}{m:Str→Option Value},P.Nodup→P[i]?=some x→vs[i]?=some v→kindOf x=some .local →
  bindL kindOf (P.zip vs) m x=some v
 | [],_,_,_,_,h,_,_=>by simp at h
 |_::_,[],_,_,_,_,h,_=>by simp at h
 |p::P,w::vs,0,m,nd,h1,h2,hk=>by
  simp at h1 h2;subst h1;subst h2;show bindL kindOf ((p,w)::P.zip vs) m p=_;unfold bindL;rw[BJ fun v hv=>(nodup_cons.mp nd).1 (of_mem_zip hv).1,if_pos hk];simp
 |p::P,w::vs,i+1,m,nd,h1,h2,hk=>by
  show bindL kindOf ((p,w)::P.zip vs) m x=_;unfold bindL;exact BP (i:=i) (nodup_cons.mp nd).2 (by simpa using h1) (by simpa using h2) hk
theorem BX{kindOf:Str→Option NameKind}{x:Str}{v:Value}:∀{P:List Str}{vs:List Value}{i:Nat}{m:Str→Option Value},P.Nodup→P[i]?=some x→vs[i]?=some v→kindOf x≠some .local →
  bindC kindOf (P.zip vs) m x=some v
 | [],_,_,_,_,h,_,_=>by simp at h
 |_::_,[],_,_,_,_,h,_=>by simp at h
 |p::P,w::vs,0,m,nd,h1,h2,hk=>by
  simp at h1 h2;subst h1;subst h2;show bindC kindOf ((p,w)::P.zip vs) m p=_;unfold bindC;rw[BL fun v hv=>(nodup_cons.mp nd).1 (of_mem_zip hv).1,if_neg hk];simp
 |p::P,w::vs,i+1,m,nd,h1,h2,hk=>by
  show bindC kindOf ((p,w)::P.zip vs) m x=_;unfold bindC;exact BX (i:=i) (nodup_cons.mp nd).2 (by simpa using h1) (by simpa using h2) hk
def start(N:List Str)(vs:List V):St:=vs.map some++List.replicate (N.length-vs.length) none
def aL(CX:Wr)(P:Program)(w:World)(K:PySem.W.Frag)(mg:Str→Option Value)(base:Heap)(N:List Str)(qual:Str)(scope:Scope)(f:Addr)(cd:Value)(A:Around)(outer:List Env)(s:Shared)(H:Hp)(E:XK):Cx where
 prog:=P
 w:=w
 K:=K
 mg:=mg
 base:=base
 A:=A.deeper (envOfC qual scope s.heap.objs.size f cd)
 N:=N
 s_0:=s
 Zq:=H
 env:=envOfC qual scope s.heap.objs.size f cd
 outer:=outer
 stack:=envOfC qual scope s.heap.objs.size f cd::outer
 ex:=[]
 calm:=true
 fn:=fun _=>true
 pn:=[]
 xe:=fun e s'=>wpAny (model P w) (A.deeper (envOfC qual scope s.heap.objs.size f cd)) (leaving (envOfC qual scope s.heap.objs.size f cd) e) (fun _ s''=>CX outer H s E e s'') (fun e' s''=>CX outer H s E e' s'') s'
theorem FP{sc:Scope}{n:Nat}{x:Str}(h:sc.names.lookup x=some .cell):∃c,(cellsFrom n sc.names []).lookup x=some c:=by
 have q:=cellsFrom_some sc.names n [] (.inl h);exact isSome_iff_exists.mp q
theorem BZ{CX:Wr}{P:Program}{w:World}{K:PySem.W.Frag}{mg:Str→Option Value}{base:Heap}{N ps:List Str}{qual:Str}{scope:Scope}{f:Addr}{cd:Value}{A:Around}{outer:List Env}{s s1:Shared}{H:Hp}{E:XK}{us:List Value}{vs:List V}(S:aH N ps scope)(hd:A.handled=none)(e0:uc P w K mg base A outer s H)(hl:vs.length=ps.length)(r:Vals vs us)(x:InCallC s s.heap.objs.size (bindL (envOfC qual scope s.heap.objs.size f cd).kindOf (ps.zip us) fun _=>none) (cellsFrom (s.heap.objs.size+1) scope.names []) (bindC (envOfC qual scope s.heap.objs.size f cd).kindOf (ps.zip us) fun _=>none) s1) :
  Inv (aL CX P w K mg base N qual scope f cd A outer s H E) [] (start N vs) H s1:=by
 have hpl:ps.length≤N.length:=by have:=congrArg List.length S.pre;rw[length_take]at this;omega
 obtain⟨h1,tk,rfl,hk⟩:=x.done;have ZF:∀b:Addr,b∉(aL CX P w K mg base N qual scope f cd A outer s H E).ex:=fun b z=>absurd (show b∈([]:List Addr) from z) (by simp);refine⟨⟨e0.mod,S.kind,rfl,rfl,le_refl _,fun y z c h1 h2=>?_,fun y hy=>?_,fun y c _ h=>?_,fun _=>hd,Around.frames_deeper e0.frames,.inr ⟨rfl,rfl⟩,fun b z=>absurd z (ZF b),e0.bs,e0.Px,fun b _ _=>ZF b,fun b z=>absurd z (ZF b),e0.oG,e0.RP⟩,
  rfl,e0.bare,Un.kept hk,⟨_,x.toInCall.ns,fun i y v h1 h2 h3=>?_⟩,fun y c h=>⟨_,x.cell y c h⟩,e0.hok.fresh (le_refl _),fun y c h=>?_,fun p hp=>absurd (show p∈([]:List (Addr×Obj)) from hp) (by simp),e0.hok.kept hk,?_⟩
 ·exact name_of_addr x.apart (PySem.mem_of_lookup h1) (PySem.mem_of_lookup h2)
 ·have hy:scope.names.lookup y=some .cell∨scope.names.lookup y=some .free:=hy;rcases hy with hy|hy
  ·exact FP hy
  ·exact absurd rfl (S.ZD _ (PySem.mem_of_lookup hy))
 ·exact le_of_lt (x.above y c (PySem.mem_of_lookup h))
 ·have hi:i<vs.length:=by
   unfold start at h2;by_cases hi:i<vs.length
   ·exact hi
   ·rw[getElem?_append_right (by simpa using hi)]at h2;rw[List.getElem?_replicate]at h2;split at h2<;>cases h2
  have ha:vs[i]?=some v:=by
   unfold start at h2;rw[getElem?_append_left (by simpa using hi),getElem?_map]at h2;cases e:vs[i]? with
   |none=>rw[e]at h2;cases h2
   |some a=>rw[e]at h2;cases h2;rfl
  obtain⟨u,hu,rv⟩:=r.get ha;have hp:ps[i]?=some y:=by
   rw[←S.pre,List.getElem?_take_of_lt (by omega)];exact h1
  have ndP:ps.Nodup:=by rw[←S.pre];exact S.nd.sublist (List.take_sublist _ _)
  refine⟨u,rv,?_⟩;rcases S.par y (mem_of_getElem? hp) with k|k
  ·exact .inl ⟨k,BP ndP hp hu k⟩
  ·obtain⟨c,e⟩:=FP (n:=s.heap.objs.size+1) k;refine .inr ⟨.inl k,c,e,?_⟩;have q:=x.cell y c e;rw[BX ndP hp hu (by show scope.names.lookup y≠_;rw[k];decide)]at q;exact q
 ·exact e0.hok.fresh (le_of_lt (x.above y c (PySem.mem_of_lookup h)))
 ·unfold start;show _=N.length;rw[length_append,length_map,length_replicate];omega
theorem Nj{CX:Wr}{P:Program}{w:World}{K:PySem.W.Frag}{mg:Str→Option Value}{base:Heap}{k:Nat}{f:Addr}{name qual:Str}{params:Arguments}{body:List Stmt}{scope:Scope}{dV kV doc pm cdv ct oc:Value}{an od:Option Addr}{osl:Array (Option Value)}{N ps:List Str}{sp:Sp}(lk:K.lookup f=some ⟨oc,od,.func (fnOf name qual params body scope dV kV doc pm an cdv ct),osl⟩)(hcd:codeIn K cdv qual=true)(S:aH N ps scope)(len:∀vs H Q E,sp vs H Q E→vs.length=ps.length)(hbody:∀(A:Around)(outer:List Env)(s:Shared)(H:Hp)(vs:List V)(Q:VK)(E:XK),cY k (A.deeper (envOfC qual scope s.heap.objs.size f cdv))→sp vs H Q E →
   ∃t,JH (aL CX P w K mg base N qual scope f cdv A outer s H E) body t∧t { nx:=fun _ H'=>Q .non H',rt:=Q } (start N vs) H) :
  iT P w K mg base CX (k+1) f (fnOf name qual params body scope dV kV doc pm an cdv ct) ps sp:=by
 refine⟨len,fun A outer s H args us vs Q E hr e0 hb r hsp=>?_⟩;have hl:=len _ _ _ _ hsp;have KX:K.In s.heap:=e0.mod.Wo.keeps fun b o e=>(e0.bs b o e).1;have lim:s.heap.NoLimit:=e0.mod.nolimit.keeps fun b o e=>(e0.bs b o e).1;have hkind:∀y∈ps.zip us,scope.names.lookup y.1=some .local∨(scope.names.lookup y.1=some .cell∧((cellsFrom (s.heap.objs.size+1) scope.names []).lookup y.1).isSome=true):=fun ⟨n,v⟩ hy=>by
  rcases S.par n (of_mem_zip hy).1 with q|q
  ·exact .inl q
  ·exact .inr ⟨q,cellsFrom_some _ _ _ (.inl q)⟩
 refine codeAny_call_function hr.depth (KX _ _ lk) rfl S.co S.gen rfl (codeRec_of KX hcd) (hb _ _ _ _ ?_);refine wpAny_newFunctionEnv_cells S.kind hkind fun env he s1 x=>?_;subst he;refine⟨lim.keeps x.toInCall.keep,codeAny_func ?_⟩;obtain⟨t,ht,hq⟩:=hbody A outer s H vs Q E (hr.deeper _) hsp;have I:Inv (aL CX P w K mg base N qual scope f cdv A outer s H E) [] (start N vs) H s1:=BZ S hr.hd e0 hl r x;refine wpAny_mono (ht [] s1 (start N vs) H _ I hq) (fun fl s' hs=>?_) fun e s' hs=>hs;have fin:∀{σ':St}{H':Hp}{v:V}{u:Value},Inv (aL CX P w K mg base N qual scope f cdv A outer s H E) [] σ' H' s'→RelV v u→Q v H'→CE outer P w H s Q u s':=
  fun {σ' H' v u} J rv q=>⟨v,H',J.os,J.bare,J.base,J.hok,rv,q⟩
 cases fl with
 |ret u=>
  obtain⟨v,σ',H',J,rv,q⟩:=hs;exact fin J rv q
 |next=>
  obtain⟨σ',H',J,q⟩:=hs;exact fin (v:=V.non) (u:=Value.none) J rfl q
 |brk=>
  obtain⟨_,_,_,q⟩:=hs;exact False.elim q
 |cont=>
  obtain⟨_,_,_,q⟩:=hs;exact False.elim q
section
variable{X:Cx}{x:Str}{p pos:Pos}{e:Expr}{es:List Expr}{t:TA}{id T:String}{r:List V→Hp→VK→Prop}
def tCB(r:List V→Hp→VK→Prop)(t:TA):TE:=fun σ H Q=>t σ H fun vs H1=>r vs H1 Q
theorem aQ(hc:pK X (.builtin id) r)(hg:Gl X x)(hm:X.mg x=none)(hv:bootBuiltins x=some (.builtin id))(ha:PA X (e::es) t)(hn:x≠"__name__":=by decide)(hdb:(x==("__debug__":Str))=false:=by decide)(he:starEach (e::es) X.env=(false,eval e X.env)::starEach es X.env:=by rfl)(hpl:(backTo pos (starEach es X.env)).any (·.1)=false:=by rfl):PE X (.Call (.Name x p) (e::es) [] pos) (tCB r t):=by
 intro pins s σ H Q I h;refine wpAny_Call_Name_kw (rR I hg hm hv ?_ hn hdb);exact PyProof.Rows.callWith_builtin1 (dH (ha pos pins s σ H _ I h) fun us s1 ⟨vs,H1,I1,r1,q1⟩=>hc pins s1 σ H1 vs us Q I1 r1 q1) he hpl
theorem j8(hc:pK X (.type T) r)(hg:Gl X x)(hm:X.mg x=none)(hv:bootBuiltins x=some (.type T))(ha:PA X (e::es) t)(hn:x≠"__name__":=by decide)(hdb:(x==("__debug__":Str))=false:=by decide)(he:starEach (e::es) X.env=(false,eval e X.env)::starEach es X.env:=by rfl)(hpl:(backTo pos (starEach es X.env)).any (·.1)=false:=by rfl):PE X (.Call (.Name x p) (e::es) [] pos) (tCB r t):=by
 intro pins s σ H Q I h;refine wpAny_Call_Name_kw (rR I hg hm hv ?_ hn hdb);exact PyProof.Rows.callWith_type1 (dH (ha pos pins s σ H _ I h) fun us s1 ⟨vs,H1,I1,r1,q1⟩=>hc pins s1 σ H1 vs us Q I1 r1 q1) he hpl
end
end L2
namespace HT
open PySem PyProof.Rows
section
variable{prog:Program}{w:World}{A:Around}{E:Value→Shared→Prop}{s:Shared}
def j9(n d:Nat):Option Int→Nat
 |none=>d
 |some v=>if v<0 then (v+(n:Int)).toNat else min v.toNat n
theorem FQ(n d:Nat):j9 n d none=d:=rfl
theorem xg(n d k:Nat):j9 n d (some (k:Int))=min k n:=by
 show (if (k:Int)<0 then ((k:Int)+(n:Int)).toNat else min (k:Int).toNat n)=min k n;rw[if_neg (by omega),toNat_natCast]
theorem SM(n d:Nat)(hd:d≤n)(o:Option Int):j9 n d o≤n:=by
 cases o with
 |none=>exact hd
 |some v=>
  show (if v<0 then (v+(n:Int)).toNat else min v.toNat n)≤n;by_cases hv:v<0
  ·rw[if_pos hv];omega
  ·rw[if_neg hv];exact Nat.min_le_right _ _
end
end HT
namespace L2
open PySem PySem.Spec PyProof.Rows
abbrev TO:=St→Hp→(Option Int→Hp→Prop)→Prop
def PO(X:Cx)(e:Option Expr)(t:TO):Prop:=
 ∀(pins:List (Addr×Obj))(s:Shared)(σ:St)(H:Hp)(Q:Option Int→Hp→Prop),Inv X pins σ H s→t σ H Q →
  wpAny (model X.prog X.w) X.A (evalPart e X.env) (fun u s'=>∃o H',Inv X pins σ H' s'∧IsPart u o∧Q o H') X.xe s
def WY:TO:=fun _ H Q=>Q none H
def ab0(t:TE):TO:=fun σ H Q=>t σ H fun x H1=>∃i,x=.int i∧Q (some i) H1
section
variable{X:Cx}{e:Expr}{te:TE}{lo hi:Option Expr}{tl th:TO}{pos p2:Pos}
theorem xq:PO X none WY:=by
 intro pins s σ H Q I h;rw[evalPart_none];exact wpAny_pure ⟨none,H,I,.none,h⟩
theorem qK(h:PE X e te):PO X (some e) (ab0 te):=by
 intro pins s σ H Q I hw;rw[evalPart_some];refine dH (h pins s σ H _ I hw) fun u s1 ⟨x,H1,I1,r1,q1⟩=>?_;obtain⟨i,rfl,q⟩:=q1;obtain⟨t,rfl⟩:=r1;exact⟨some i,H1,I1,.int i t,q⟩
def SlR(X:Cx)(r:V→Option Int→Option Int→Hp→VK→Prop):Prop:=
 ∀(pins:List (Addr×Obj))(s:Shared)(σ:St)(H:Hp)(x:V)(v vl vu:Value)(lo hi:Option Int)(sl:Addr)(Q:VK),Inv X pins σ H s→RelV x v→s.heap.IsSliceOf sl vl vu .none→IsPart vl lo→IsPart vu hi→r x lo hi H Q →
  ∃T id,typeLookup (.type T) "__getitem__"=pure (some (.builtin id))∧s.TypeIs v T∧wpAny (model X.prog X.w) X.A (getItem v (.ref sl)) (EP X pins σ Q) X.xe s
def tSl(r:V→Option Int→Option Int→Hp→VK→Prop)(te:TE)(tl th:TO):TE:=fun σ H Q=>te σ H fun x H1=>tl σ H1 fun l H2=>th σ H2 fun u H3=>r x l u H3 Q
theorem pR{r:V→Option Int→Option Int→Hp→VK→Prop}(hr:SlR X r)(he:PE X e te)(hl:PO X lo tl)(hu:PO X hi th):PE X (.Subscript e (.Slice lo hi none p2) pos) (tSl r te tl th):=by
 intro pins s σ H Q I h;refine Subscript_ (dH (he pins s σ H _ I h) fun v s1 ⟨x,H1,I1,r1,q1⟩=>?_);refine wpAny_Slice (dH (hl pins s1 σ H1 _ I1 q1) fun vl s2 ⟨l,H2,I2,pl,q2⟩=>dH (hu pins s2 σ H2 _ I2 q2) fun vu s3 ⟨u,H3,I3,pu,q3⟩=>?_);rw[evalPart_none];refine wpAny_pure ?_;have I4:Inv X pins σ H3 { s3 with heap:=s3.heap.push { cls:=.type "slice",data:=.fields #[vl,vu,.none] } }:=I3.kept (t':=s3.toks) fun b ob q=>get?_push_of_some _ q;obtain⟨T,id,hT,ht,hg⟩:=hr pins { s3 with heap:=s3.heap.push { cls:=.type "slice",data:=.fields #[vl,vu,.none] } } σ H3 x v vl vu l u s3.heap.objs.size Q I4 r1 (Heap.IsSliceOf.new ..) pl pu q3;show wpAny (model X.prog X.w) X.A (subscriptTail e (.Slice lo hi none p2) v (.ref s3.heap.objs.size)) (EP X pins σ Q) X.xe { s3 with heap:=s3.heap.push { cls:=.type "slice",data:=.fields #[vl,vu,.none] } };exact tail_any (ops:=[.ref s3.heap.objs.size,v]) ht hT hg (by with_unfolding_all rfl)
def FT(xs:List V)(lo hi:Option Int):List V:=(xs.drop (HT.j9 xs.length 0 lo)).take (HT.j9 xs.length xs.length hi-HT.j9 xs.length 0 lo)
theorem FW(xs:List V)(lo hi:Option Int):(FT xs lo hi).length≤xs.length:=by
 unfold FT;rw[length_take,length_drop];omega
end
def YK(n:Nat)(i:Int):Option Nat:=if 0≤i then (if i<n then some i.toNat else none) else if -(n:Int)≤i then some (i+n).toNat else none
def Ws{α:Type}(xs:List α)(i:Int):Option α:=(YK xs.length i).bind fun j=>xs[j]?
theorem W0{n:Nat}{i:Int}{j:Nat}(h:YK n i=some j):seqIndex? i n=some j∧j<n∧-(n:Int)≤i∧i<n:=by
 unfold YK at h;by_cases h0:0≤i
 ·rw[if_pos h0]at h;by_cases h1:i<n
  ·rw[if_pos h1]at h;have e:i.toNat=j:=Option.some.inj h;exact⟨by rw[seqIndex_of h0 h1,e],by omega,by omega,h1⟩
  ·rw[if_neg h1]at h;cases h
 ·rw[if_neg h0]at h;by_cases h1:-(n:Int)≤i
  ·rw[if_pos h1]at h;have e:(i+n).toNat=j:=Option.some.inj h;exact⟨by rw[seqIndex_neg (by omega) h1,e],by omega,h1,by omega⟩
  ·rw[if_neg h1]at h;cases h
theorem Dm{α:Type}{xs:List α}{i:Int}{v:α}(h:Ws xs i=some v):∃j,seqIndex? i xs.length=some j∧xs[j]?=some v∧j<xs.length∧-(xs.length:Int)≤i∧i<xs.length:=by
 unfold Ws at h;cases e:YK xs.length i with
 |none=>rw[e]at h;cases h
 |some j=>
  rw[e]at h;obtain⟨h1,h2,h3,h4⟩:=W0 e;exact⟨j,h1,h,h2,h3,h4⟩
theorem lW{α:Type}{xs:List α}{j:Nat}{v:α}(h:xs[j]?=some v):Ws xs (j:Int)=some v:=by
 have hj:j<xs.length:=(List.getElem?_eq_some_iff.mp h).1;have e:YK xs.length (j:Int)=some j:=by
  unfold YK;rw[if_pos (by omega),if_pos (by omega)];simp
 unfold Ws;rw[e];exact h
theorem yq{α:Type}(xs:List α)(v:α):Ws (xs++[v]) (-1)=some v:=by
 have hl:(xs++[v]).length=xs.length+1:=by simp
 have e:YK (xs++[v]).length (-1)=some xs.length:=by
  unfold YK;rw[hl,if_neg (by decide),if_pos (by omega)];congr 1;omega
 unfold Ws;rw[e];show (xs++[v])[xs.length]?=some v;simp
def W2(b:Expr):Prop:=∀o i,subscripted b false o i=operate [o,i] (getItem o i)
def IxR(X:Cx)(r:R2):Prop:=
 ∀(value slice:Expr)(pins:List (Addr×Obj))(s:Shared)(σ:St)(H:Hp)(x y:V)(v u:Value)(Q:VK),Inv X pins σ H s→RelV x v→RelV y u→r x y H Q →
  subscripted slice false v u=operate [v,u] (getItem v u)→wpAny (model X.prog X.w) X.A (subscriptTail value slice v u) (EP X pins σ Q) X.xe s
def MtR(X:Cx)(id:String)(r:V→List V→Hp→VK→Prop):Prop:=
 ∀(pins:List (Addr×Obj))(s:Shared)(σ:St)(H:Hp)(x:V)(xs:List V)(v:Value)(us:List Value)(Q:VK),Inv X pins σ H s→RelV x v→Vals xs us→r x xs H Q →
  wpAny (model X.prog X.w) X.A (call (.builtin id) (v::us)) (EP X pins σ Q) X.xe s
section
variable{X:Cx}{a b:Expr}{ta tb:TE}{pos:Pos}
theorem fK{r:R2}(hr:IxR X r)(ha:PE X a ta)(hb:PE X b tb)(hs:W2 b):PE X (.Subscript a b pos) (tOp r ta tb):=by
 intro pins s σ H Q I h;exact Subscript_ (Zw ha hb I h fun v u s2 x y H2 I2 rx ry q=>hr a b pins s2 σ H2 x y v u Q I2 rx ry q (hs _ _))
def ab2(K:PySem.W.Frag):R2:=fun x y H Q=>∃p xs i v,x=.ref p∧y=.int i∧bJ K H p xs∧Ws xs i=some v∧Q v H
def ab3(K:PySem.W.Frag):R2:=fun x y H Q=>∃p xs i v,x=.ref p∧y=.int i∧tL K H p xs∧Ws xs i=some v∧Q v H
def aeF:R2:=fun x y H Q=>∃z i c,x=.str z∧y=.int i∧z.length≤sizeLine∧Ws z.cps.toList i=some c∧Q (.str ⟨#[c]⟩) H
theorem dR:IxR X (ab2 X.K):=by
 intro value slice pins s σ H x y v u Q I rx ry h hs;obtain⟨p,xs,i,z,rfl,rfl,hq,he,q⟩:=h;cases rx;obtain⟨t,rfl⟩:=ry;obtain⟨its,r,pl,hz⟩:=I.list hq;obtain⟨j,h1,h2,h3,h4,h5⟩:=Dm he;obtain⟨w,ew,SN⟩:=r.get h2;have hl:=r.length;have hn:=yg;have fin:EP X pins σ Q w s:=⟨z,H,I,SN,q⟩;by_cases h0:0≤i
 ·have hj:i.toNat=j:=by
   rw[seqIndex_of h0 h5]at h1;exact Option.some.inj h1
  exact item_listR pl.isList h0 (by omega) (by rw[hj];simpa using ew) fin hs
 ·have hj:(i+(its.toArray.size:Int)).toNat=j:=by
   rw[seqIndex_neg (by omega) h4]at h1;rw[size_toArray,←hl];exact Option.some.inj h1
  exact subscriptTail_builtinR (x:=w) pl.isList.typeIs slot_list_getitem.lookup
   (wpAny_getItem_list_neg (Q:=fun r s'=>r=w∧EP X pins σ Q r s') pl.isList (by omega) (by rw[size_toArray]<;>omega) (by omega) (by rw[hj];simpa using ew) ⟨rfl,fin⟩) hs
theorem ZG:IxR X (ab3 X.K):=by
 intro value slice pins s σ H x y v u Q I rx ry h hs;obtain⟨p,xs,i,z,rfl,rfl,hq,he,q⟩:=h;cases rx;obtain⟨t,rfl⟩:=ry;obtain⟨its,r,pl,hz⟩:=I.tuple hq;obtain⟨j,h1,h2,h3,h4,h5⟩:=Dm he;obtain⟨w,ew,SN⟩:=r.get h2;have hl:=r.length;have hn:=yg;have fin:EP X pins σ Q w s:=⟨z,H,I,SN,q⟩;exact subscriptTail_builtinR (x:=w) pl.typeIs slot_tuple_getitem.lookup
  (getItem_tuple (j:=j) (Q:=fun r s'=>r=w∧EP X pins σ Q r s') pl (by omega) (by omega) (by rw[size_toArray,←hl];exact h1) (by simpa using ew) ⟨rfl,fin⟩) hs
theorem yr:IxR X aeF:=by
 intro value slice pins s σ H x y v u Q I rx ry h hs;obtain⟨z,i,c,rfl,rfl,hz,he,q⟩:=h;obtain⟨t,rfl⟩:=rx;obtain⟨t',rfl⟩:=ry;obtain⟨j,h1,h2,h3,h4,h5⟩:=Dm he;have hl:z.cps.toList.length=z.length:=by simp[Str.length]
 rw[hl]at h1 h4 h5;have hn:=yg;exact tail_any (typeIs_str s z t) slot_str_getitem.lookup (getItem_str (c:=c) (by
  have e1:decide (i < -(2^63:Int))=false:=decide_eq_false (by omega);have e2:decide (i ≥ 2^63)=false:=decide_eq_false (by omega);rw[e1,e2,Bool.or_false]) (by rw[h1];simpa using h2) ⟨.str ⟨#[c]⟩,H,I.tok _,⟨_,rfl⟩,q⟩) hs
theorem Dn(lo hi:Option Int)(n:Nat):(sliceBounds lo hi none n).1=((HT.j9 n 0 lo:Nat):Int)∧(sliceBounds lo hi none n).2.1=((HT.j9 n n hi:Nat):Int)∧(sliceBounds lo hi none n).2.2=1:=by
 refine⟨?_,?_,rfl⟩
 ·cases lo with
  |none=>simp[sliceBounds,HT.j9]
  |some i=>
   simp only[sliceBounds,HT.j9,getD_none,show (1:Int) > 0 by decide,if_true];by_cases h:i<0
   ·simp only[h,if_true]<;>omega
   ·simp only[h,if_false]<;>omega
 ·cases hi with
  |none=>simp[sliceBounds,HT.j9]
  |some i=>
   simp only[sliceBounds,HT.j9,getD_none,show (1:Int) > 0 by decide,if_true];by_cases h:i<0
   ·simp only[h,if_true]<;>omega
   ·simp only[h,if_false]<;>omega
theorem Bg(its:List Value)(lo hi:Option Int):slicePick its.toArray lo hi none=((its.drop (HT.j9 its.length 0 lo)).take (HT.j9 its.length its.length hi-HT.j9 its.length 0 lo)).toArray:=by
 obtain⟨h1,h2,h3⟩:=Dn lo hi its.toArray.size;unfold slicePick;rw[h1,h2,h3];simp only[sliceRange_one,pick_run,size_toArray]<;>rfl
def aeG(K:PySem.W.Frag):V→Option Int→Option Int→Hp→VK→Prop:=fun x lo hi H Q=>∃a xs,x=.ref a∧bJ K H a xs∧∀p,H p=none→Q (.ref p) (upd H p (.lst (FT xs lo hi)))
theorem xr:SlR X (aeG X.K):=by
 intro pins s σ H x v vl vu lo hi sl Q I rx hs pl pu h;obtain⟨a,xs,rfl,hx,q⟩:=h;cases rx;obtain⟨its,r,ht,hz⟩:=I.list hx;have hlen:=r.length;refine⟨"list",_,slot_list_getitem.lookup,ht.isList.typeIs,?_⟩;refine wpAny_getItem_list_slice ht.isList hs pl pu .none (by simp) ?_ (by rw[size_toArray]<;>omega);rw[Bg,←hlen];refine⟨.ref s.heap.objs.size,_,I.laid (t':=s.toks) (o:=.lst (FT xs lo hi)) (fun b ob q=>get?_push_of_some _ q) (le_refl _) ?_,rfl,q _ (I.hok.fresh (le_refl _))⟩;exact⟨le_trans (FW xs lo hi) hz,_,0,(r.drop (HT.j9 xs.length 0 lo)).take (HT.j9 xs.length xs.length hi-HT.j9 xs.length 0 lo),get?_push_size _ rfl⟩
def uf:V→Bool
 | .non=>true
 | .bl _=>true
 | .int _=>true
 | .str _=>true
 |_=>false
def Wt:V→V→Bool
 | .non,.non=>true
 | .bl a,.bl b=>a==b
 | .bl a,.int b=>(if a then 1 else 0)==b
 | .int a,.bl b=>a==(if b then 1 else 0)
 | .int a,.int b=>a==b
 | .str a,.str b=>a==b
 |_,_=>false
theorem ZJ{A:Around}{s:Shared}{y x:V}{u v:Value}(ry:RelV y u)(rx:RelV x v)(fy:uf y=true)(fx:uf x=true):SeqAt.EqAt A s u v (Wt y x):=by
 cases y with
 |non=>
  cases ry;cases x with
  |non=>cases rx;exact SeqAt.EqAt.same _
  |bl b=>cases rx;exact SeqAt.EqAt.none_bool b
  |int b=>obtain⟨t,rfl⟩:=rx;exact SeqAt.EqAt.none_int b t
  |str b=>obtain⟨t,rfl⟩:=rx;exact SeqAt.EqAt.none_str b t
  |_=>exact absurd (show false=true from fx) Bool.false_ne_true
 |bl a=>
  cases ry;cases x with
  |non=>cases rx;exact SeqAt.EqAt.bool_none a
  |bl b=>cases rx;exact SeqAt.EqAt.bool_bool a b
  |int b=>obtain⟨t,rfl⟩:=rx;exact SeqAt.EqAt.bool_int a b t
  |str b=>obtain⟨t,rfl⟩:=rx;exact SeqAt.EqAt.bool_str a b t
  |_=>exact absurd (show false=true from fx) Bool.false_ne_true
 |int a=>
  obtain⟨t',rfl⟩:=ry;cases x with
  |non=>cases rx;exact SeqAt.EqAt.int_none a t'
  |bl b=>cases rx;exact SeqAt.EqAt.int_bool a t' b
  |int b=>obtain⟨t,rfl⟩:=rx;exact SeqAt.EqAt.int_int a t' b t
  |str b=>obtain⟨t,rfl⟩:=rx;exact SeqAt.EqAt.int_str a t' b t
  |_=>exact absurd (show false=true from fx) Bool.false_ne_true
 |str a=>
  obtain⟨t',rfl⟩:=ry;cases x with
  |non=>cases rx;exact SeqAt.EqAt.str_none a t'
  |bl b=>cases rx;exact SeqAt.EqAt.str_bool a t' b
  |int b=>obtain⟨t,rfl⟩:=rx;exact SeqAt.EqAt.str_int a t' b t
  |str b=>obtain⟨t,rfl⟩:=rx;exact SeqAt.EqAt.str_str a t' b t
  |_=>exact absurd (show false=true from fx) Bool.false_ne_true
 |_=>exact absurd (show false=true from fy) Bool.false_ne_true
def J2(x:V)(u:Value):Bool:=match u with
 | .none=>Wt .non x
 | .bool b=>Wt (.bl b) x
 | .int i _=>Wt (.int i) x
 | .str z _=>Wt (.str z) x
 |_=>false
theorem SQ{x y:V}{u:Value}(r:RelV y u)(f:uf y=true):J2 x u=Wt y x:=by
 cases y with
 |non=>cases r;rfl
 |bl b=>cases r;rfl
 |int i=>obtain⟨t,rfl⟩:=r;rfl
 |str z=>obtain⟨t,rfl⟩:=r;rfl
 |_=>exact absurd (show false=true from f) Bool.false_ne_true
theorem ug{x:V}:∀{xs:List V}{us:List Value},Vals xs us→xs.all uf=true→us.any (J2 x)=xs.any fun y=>Wt y x
 |_,_,.nil,_=>rfl
 |y::xs,u::us,.cons r t,f=>by
  rw[all_cons,and_eq_true]at f;rw[any_cons,any_cons,SQ r f.1,ug t f.2]
theorem pU{A:Around}{s:Shared}{x:V}{v:Value}(rx:RelV x v)(fx:uf x=true):∀{xs:List V}{us:List Value},Vals xs us→xs.all uf=true→∀u∈us,SeqAt.EqAt A s u v (J2 x u)
 |_,_,.nil,_=>fun u hu=>by cases hu
 |y::xs,u::us,.cons r t,f=>fun u' hu=>by
  rw[all_cons,and_eq_true]at f;rcases mem_cons.mp hu with rfl|hu
  ·rw[SQ r f.1];exact ZJ r rx f.1 fx
  ·exact pU rx fx t f.2 u' hu
def inV(x:V)(xs:List V):Bool:=xs.any fun y=>Wt y x
def rIn(K:PySem.W.Frag)(neg:Bool):R2:=fun x y H Q=>∃p xs,y=.ref p∧(bJ K H p xs∨tL K H p xs)∧uf x=true∧xs.all uf=true∧Q (.bl (if neg then !inV x xs else inV x xs)) H
theorem Qc:wI X (compareOp .In) (rIn X.K false):=by
 intro pins s σ H x y v u Q I rx ry h;obtain⟨p,xs,rfl,hq,fx,fs,q⟩:=h;cases ry;rcases hq with hq|hq
 ·obtain⟨its,r,pl,hz⟩:=I.list hq;refine SeqAt.in_listAt (J2 x) pl.isList (fun w hw=>pU rx fx r fs w (by simpa using hw)) ⟨.bl _,H,I,rfl,?_⟩;rw[show its.toArray.any (J2 x)=its.any (J2 x) by simp,ug r fs];exact q
 ·obtain⟨its,r,pl,hz⟩:=I.tuple hq;refine SeqAt.in_tupleAt (J2 x) pl (fun w hw=>pU rx fx r fs w (by simpa using hw)) ⟨.bl _,H,I,rfl,?_⟩;rw[show its.toArray.any (J2 x)=its.any (J2 x) by simp,ug r fs];exact q
theorem Dp:wI X (compareOp .NotIn) (rIn X.K true):=by
 intro pins s σ H x y v u Q I rx ry h;obtain⟨p,xs,rfl,hq,fx,fs,q⟩:=h;cases ry;rcases hq with hq|hq
 ·obtain⟨its,r,pl,hz⟩:=I.list hq;refine SeqAt.notIn_listAt (J2 x) pl.isList (fun w hw=>pU rx fx r fs w (by simpa using hw)) ⟨.bl _,H,I,rfl,?_⟩;rw[show its.toArray.any (J2 x)=its.any (J2 x) by simp,ug r fs];exact q
 ·obtain⟨its,r,pl,hz⟩:=I.tuple hq;refine SeqAt.notIn_tupleAt (J2 x) pl (fun w hw=>pU rx fx r fs w (by simpa using hw)) ⟨.bl _,H,I,rfl,?_⟩;rw[show its.toArray.any (J2 x)=its.any (J2 x) by simp,ug r fs];exact q
theorem aO:pK X (.builtin "len") (fun xs H Q=>∃p ys,xs=[.ref p]∧(bJ X.K H p ys∨tL X.K H p ys)∧Q (.int ys.length) H):=by
 intro pins s σ H xs us Q I r h;obtain⟨p,ys,rfl,hq,q⟩:=h;obtain⟨u,rfl,rx⟩:=vals1 r;cases rx;have hn:=yg;rcases hq with hq|hq
 ·obtain⟨its,r',pl,hz⟩:=I.list hq;have hlen:=r'.length;exact Calls.call_len_list pl.isList (by simp only[size_toArray]<;>omega) ⟨.int ys.length,H,I.tok _,⟨s.toks+1,by rw[size_toArray,hlen]⟩,q⟩
 ·obtain⟨its,r',pl,hz⟩:=I.tuple hq;have hlen:=r'.length;exact len_tuple pl (by simp only[size_toArray]<;>omega) ⟨.int ys.length,H,I.tok _,⟨s.toks+1,by rw[size_toArray,hlen]⟩,q⟩
theorem f9:pK X (.builtin "len") (fun xs H Q=>∃z,xs=[.str z]∧z.length≤sizeLine∧Q (.int z.length) H):=by
 intro pins s σ H xs us Q I r h;obtain⟨z,rfl,hz,q⟩:=h;obtain⟨u,rfl,t,rfl⟩:=vals1 r;have hn:=yg;exact len_str (by omega) ⟨.int z.length,H,I.tok _,⟨_,rfl⟩,q⟩
def tyV(K:PySem.W.Frag)(T:String)(x:V)(H:Hp):Prop:=match x with
 | .str _=>T="str"
 | .int _=>T="int"
 | .ref p=>(T="list"∧∃xs,bJ K H p xs)∨(T="tuple"∧∃o,K.lookup p=some o∧o.cls=.type "tuple"∧o.dict=none) ∨
   (T="dict"∧((∃kvs,H p=some (.dK kvs))∨∃kvs,H p=some (.dT kvs)))∨(T="set"∧∃S n,H p=some (.set S n))
 |_=>False
theorem SX{pins:List (Addr×Obj)}{σ:St}{H:Hp}{s:Shared}{T:String}{x:V}{v:Value}(I:Inv X pins σ H s)(r:RelV x v)(ty:tyV X.K T x H) :
  s.TypeIs v T∧∀a,v=.ref a→∃ob,s.heap.get? a=some ob∧ob.dict=none:=by
 cases x with
 |str z=>
  obtain⟨t,rfl⟩:=r;cases (show T="str" from ty);exact⟨typeIs_str s z t,fun _ e=>nomatch e⟩
 |int i=>
  obtain⟨t,rfl⟩:=r;cases (show T="int" from ty);exact⟨typeIs_int s i t,fun _ e=>nomatch e⟩
 |ref p=>
  cases r;rcases ty with⟨rfl,xs,hq⟩|⟨rfl,o,hk,hc,hd⟩|⟨rfl,hk⟩|⟨rfl,S,n,hk⟩
  ·obtain⟨its,_,pl,_⟩:=I.list hq;refine⟨pl.isList.typeIs,fun a e=>?_⟩;cases e;obtain⟨o,n,e,c,hd,_⟩:=pl;exact⟨o,e,hd⟩
  ·refine⟨⟨o,I.rQ p o hk,hc⟩,fun a e=>?_⟩;cases e;exact⟨o,I.rQ _ o hk,hd⟩
  ·have z:∃o,s.heap.get? p=some o∧o.ExactDict:=by
    rcases hk with⟨kvs,hk⟩|⟨kvs,hk⟩
    ·obtain⟨_,_,_,_,o,_,_,e,ex,_⟩:=I.hok p _ hk;exact⟨o,e,ex⟩
    ·obtain⟨_,_,_,_,o,_,_,e,ex,_⟩:=I.hok p _ hk;exact⟨o,e,ex⟩
   obtain⟨o,e,ex⟩:=z;refine⟨⟨o,e,ex.1⟩,fun a e2=>?_⟩;cases e2;exact⟨o,e,ex.2.1⟩
  ·obtain⟨o,_,_,_,e,ex,_⟩:=I.hok p _ hk;refine⟨⟨o,e,ex.1⟩,fun a e2=>?_⟩;cases e2;exact⟨o,e,ex.2.1⟩
 |_=>exact False.elim ty
def aeI(K:PySem.W.Frag)(T:String)(r:V→List V→Hp→VK→Prop)(to:TE):TE:=fun σ H Q=>to σ H fun x H1=>tyV K T x H1∧r x [] H1 Q
def tBM(K:PySem.W.Frag)(T:String)(r:V→List V→Hp→VK→Prop)(to:TE)(t:TA):TE:=fun σ H Q=>to σ H fun x H1=>tyV K T x H1∧t σ H1 fun xs H2=>r x xs H2 Q
variable{o e:Expr}{es:List Expr}{to:TE}{t:TA}{name:Str}{apos cpos:Pos}{T id:String}{r:V→List V→Hp→VK→Prop}
theorem J3(pa:PlainAttrs T)(slot:Slot T name id)(hty:typeOf (.builtin id)=pure (.type "method_descriptor"))(hm:MtR X id r)(ho:PE X o to)(hbase:attributeBase o name X.env (eval o X.env)=eval o X.env:=by rfl)(hline:(apos.endLine==cpos.line)=true:=by rfl):PE X (.Call (.Attribute o name apos) [] [] cpos) (aeI X.K T r to):=by
 intro pins s σ H Q I h;refine wpAny_Call_method0_late hbase hline (dH (ho pins s σ H _ I h) fun v s1 ⟨x,H1,I1,r1,ty,q1⟩=>?_);obtain⟨h1,h2⟩:=SX I1 r1 ty;exact⟨T,id,pa,slot,hty,h1,h2,Calls.callWith_builtin rfl (PySem.evalArgs_none (hm pins s1 σ H1 x [] v [] Q I1 r1 .nil q1))⟩
theorem kY(pa:PlainAttrs T)(slot:Slot T name id)(hty:typeOf (.builtin id)=pure (.type "method_descriptor"))(hm:MtR X id r)(ho:PE X o to)(ha:PA X (e::es) t)(hbase:attributeBase o name X.env (eval o X.env)=eval o X.env:=by rfl)(hfew:((backTo cpos (starEach (e::es) X.env)).all (fun x=>!x.1)&&(backToKw cpos (keywordEach [] X.env)).all (fun x=>x.1.isSome)
   && decide ((e::es).length+([]:List Keyword).length+(if ([]:List Keyword).isEmpty then 0 else 1)<30))=true:=by rfl)(hline:(apos.endLine==cpos.line)=true:=by rfl)(hs:starEach (e::es) X.env=(false,eval e X.env)::starEach es X.env:=by rfl)(hplain:(backTo cpos (starEach es X.env)).any (·.1)=false:=by rfl) :
  PE X (.Call (.Attribute o name apos) (e::es) [] cpos) (tBM X.K T r to t):=by
 intro pins s σ H Q I h;refine wpAny_Call_method_late hbase hfew hline rfl (dH (ho pins s σ H _ I h) fun v s1 ⟨x,H1,I1,r1,ty,q1⟩=>?_);obtain⟨h1,h2⟩:=SX I1 r1 ty;refine⟨T,id,pa,slot,hty,h1,h2,?_⟩;have hA:=ha cpos pins s1 σ H1 _ I1 q1;rw[hs]at hA ⊢;refine Calls.callWith_builtin (by show (false||(backTo cpos (starEach es X.env)).any (·.1))=false;rw[hplain]<;>rfl) (Calls.evalArgs_plain ?_);exact dH hA fun us s2 ⟨vs,H2,I2,r2,q2⟩=>hm pins s2 σ H2 x vs v us Q I2 r1 r2 q2
end
def MtM(X:Cx)(id:String)(r:V→List V→Hp→VK→Prop):Prop:=
 ∀(pins:List (Addr×Obj))(s:Shared)(σ:St)(H:Hp)(x:V)(xs:List V)(v:Value)(us:List Value)(Q:VK),Inv X pins σ H s→RelV x v→Vals xs us→r x xs H Q →
  wpAny (model X.prog X.w) X.A (call (.builtin id) (v::us)) (EP X pins σ Q) X.xe s
theorem Vals.one:∀{x:V}{us:List Value},Vals [x] us→∃u,us=[u]∧RelV x u
 |_,_,.cons r .nil=>⟨_,rfl,r⟩
theorem Vals.zero:∀{us:List Value},Vals [] us→us=[]
 |_,.nil=>rfl
theorem Vals.dropLast{xs:List V}{us:List Value}(h:Vals xs us):Vals xs.dropLast us.dropLast:=by
 induction h with
 |nil=>exact .nil
 |cons r t ih=>
  cases t with
  |nil=>exact .nil
  |cons q t'=>exact .cons r ih
theorem Vals.reverse{xs:List V}{us:List Value}(h:Vals xs us):Vals xs.reverse us.reverse:=by
 induction h with
 |nil=>exact .nil
 |cons r t ih=>rw[reverse_cons,reverse_cons];exact Vals.append ih (.cons r .nil)
theorem J4{α:Type}(l:List α):l.eraseIdx (l.length-1)=l.dropLast:=by
 induction l with
 |nil=>rfl
 |cons a r ih=>
  cases r with
  |nil=>rfl
  |cons b r=>
   have e:(a::b::r).length-1=((b::r).length-1)+1:=by
    have h1:(a::b::r).length=r.length+2:=rfl;have h2:(b::r).length=r.length+1:=rfl;omega
   rw[e,List.eraseIdx_cons_succ,ih]
   all_goals rfl
section
variable{X:Cx}{pins:List (Addr×Obj)}{σ:St}{H:Hp}{s:Shared}{l b:Addr}{xs ys zs:List V}
theorem Inv.W3{its its':List Value}{n:Nat}{f:Array Value→Array Value}{t':Nat}(I:Inv X pins σ H s)(hH:H l=some (.lst xs))(e:s.heap.get? l=some { cls:=.type "list",data:=.seq its.toArray n })(hf:f its.toArray=its'.toArray)(hv:Vals ys its')(hz:ys.length≤sizeLine) :
  Inv X pins σ (upd H l (.lst ys)) { s with heap:=s.heap.update l (Obj.mapSeq f),toks:=t' }:=by
 have q:=PySem.IsL.update e f;rw[hf]at q;refine I.write (x:=l) (e:=l) (by rw[hH];exact trivial) (.inl rfl) (fun b' u hb hu=>(Heap.get?_update_other s.heap (Obj.mapSeq f) (Ne.symm hb)).trans hu) ⟨_,q⟩ ?_;exact⟨hz,its',_,hv,q⟩
theorem Inv.aeJ{its:List Value}{t':Nat}(I:Inv X pins σ H s)(hv:Vals ys its)(hz:ys.length≤sizeLine) :
  Inv X pins σ (upd H s.heap.objs.size (.lst ys)) { s with heap:=s.heap.push { cls:=.type "list",data:=.seq its.toArray },toks:=t' }:=
 I.laid (fun _ _ q=>get?_push_of_some _ q) (le_refl _) ⟨hz,its,0,hv,get?_push_size _ rfl⟩
theorem Inv.fresh(I:Inv X pins σ H s):H s.heap.objs.size=none:=I.hok.fresh (le_refl _)
theorem Inv.J5(I:Inv X pins σ H s)(hH:H l=some (.lst xs)):xs.length≤sizeLine∧∃(its:List Value)(n:Nat),Vals xs its∧xs.length=its.length∧s.heap.get? l=some { cls:=.type "list",data:=.seq its.toArray n }:=by
 obtain⟨z,its,n,r,e⟩:=I.hok l _ hH;exact⟨z,its,n,r,r.length,e⟩
theorem S7{n:Nat}(h:n≤sizeLine):Builtin.List.listTooLong n=false:=by
 unfold Builtin.List.listTooLong;exact decide_eq_false (by omega)
end
section
variable{X:Cx}
def Nk:V→List V→Hp→VK→Prop:=fun x vs H Q=>∃l xs y,x=.ref l∧vs=[y]∧H l=some (.lst xs)∧xs.length<sizeLine∧Q .non (upd H l (.lst (xs++[y])))
theorem cZ:MtM X "list.append" Nk:=by
 intro pins s σ H x vs v us Q I rx rv h;obtain⟨l,xs,y,rfl,rfl,hH,hz,q⟩:=h;cases rx;obtain⟨u,rfl,ru⟩:=rv.one;obtain⟨z,its,n,r,hl,e⟩:=I.J5 hH;refine call_meets F.slot_list_append ⟨_,e,rfl⟩ F.entry_list_append (F.args_list_append_2 _ _) (PySem.list_append l its.toArray n u (by rw[size_toArray];omega)) ⟨e,?_⟩;refine⟨.non,_,I.W3 (its':=its++[u]) hH e (by simp) (r.append (.cons ru .nil)) ?_,rfl,q⟩;rw[length_append,length_singleton];omega
def W4:V→List V→Hp→VK→Prop:=fun x vs H Q=>∃l b xs zs,x=.ref l∧vs=[.ref b]∧H l=some (.lst xs)∧H b=some (.lst zs)∧xs.length+zs.length≤sizeLine∧Q .non (upd H l (.lst (xs++zs)))
theorem Qe:MtM X "list.extend" W4:=by
 intro pins s σ H x vs v us Q I rx rv h;obtain⟨l,b,xs,zs,rfl,rfl,hH,hB,hz,q⟩:=h;cases rx;obtain⟨u,rfl,ru⟩:=rv.one;cases ru;obtain⟨z,its,n,r,hl,e⟩:=I.J5 hH;obtain⟨z2,its2,n2,r2,hl2,e2⟩:=I.J5 hB;have hsz:its.toArray.size+its2.toArray.size≤sizeLine:=by rw[size_toArray,size_toArray];omega
 have ab4:¬(!its.toArray.isEmpty&&Builtin.List.listTooLong (its.toArray.size+its2.toArray.size))=true:=by
  rw[S7 hsz,Bool.and_false];exact Bool.false_ne_true
 refine call_meets F.slot_list_extend ⟨_,e,rfl⟩ F.entry_list_extend (F.args_list_extend_2 _ _)
  (AutoSeq1.list_extend_list_list_0 l its.toArray n b its2.toArray n2 ab4 (by rw[size_toArray];omega) (by omega)) ⟨e,e2,?_⟩
 refine⟨.non,_,I.W3 (its':=its++its2) hH e (by simp) (r.append r2) ?_,rfl,q⟩;rw[length_append];omega
def aeK:V→List V→Hp→VK→Prop:=fun x vs H Q=>∃l xs y,x=.ref l∧vs=[]∧H l=some (.lst xs)∧xs[xs.length-1]?=some y∧Q y (upd H l (.lst xs.dropLast))
theorem S8:MtM X "list.pop" aeK:=by
 intro pins s σ H x vs v us Q I rx rv h;obtain⟨l,xs,y,rfl,rfl,hH,hy,q⟩:=h;cases rx;have hus:=rv.zero;subst hus;obtain⟨z,its,n,r,hl,e⟩:=I.J5 hH;obtain⟨u,hu,ru⟩:=r.get hy;have hy':its.toArray[its.toArray.size-1]?=some u:=by
  show its.toArray[its.length-1]?=some u;rw[←Array.getElem?_toList,←hl];exact hu
 refine call_meets F.slot_list_pop ⟨_,e,rfl⟩ F.entry_list_pop (F.args_list_pop_1 _) (MeetsSeq.list_pop_last l its.toArray n u hy' (by rw[size_toArray];omega)) ⟨e,?_⟩;refine⟨y,_,I.W3 (its':=its.dropLast) hH e ?_ r.dropLast ?_,ru,q⟩
 ·show its.toArray.eraseIdxIfInBounds (its.toArray.size-1)=its.dropLast.toArray;rw[size_toArray,List.eraseIdxIfInBounds_toArray,J4]
 ·rw[List.length_dropLast];omega
def S9:V→List V→Hp→VK→Prop:=fun x vs H Q=>∃l xs,x=.ref l∧vs=[]∧H l=some (.lst xs)∧Q .non (upd H l (.lst xs.reverse))
theorem J6:MtM X "list.reverse" S9:=by
 intro pins s σ H x vs v us Q I rx rv h;obtain⟨l,xs,rfl,rfl,hH,q⟩:=h;cases rx;have hus:=rv.zero;subst hus;obtain⟨z,its,n,r,hl,e⟩:=I.J5 hH;refine call_meets F.slot_list_reverse ⟨_,e,rfl⟩ F.entry_list_reverse (F.args_list_reverse_1 _) (AutoSeq1.list_reverse_list_0 l its.toArray n (by rw[size_toArray];omega)) ⟨e,?_⟩;refine⟨.non,_,I.W3 (its':=its.reverse) hH e (by simp) r.reverse ?_,rfl,q⟩;rw[length_reverse];omega
def aeL:R2:=fun x y H Q=>∃l b xs zs,x=.ref l∧y=.ref b∧H l=some (.lst xs)∧H b=some (.lst zs)∧xs.length+zs.length≤sizeLine∧∀p,H p=none→Q (.ref p) (upd H p (.lst (xs++zs)))
theorem ZK:wI X (binaryOp .Add) aeL:=by
 intro pins s σ H x y v u Q I rx ry h;obtain⟨l,b,xs,zs,rfl,rfl,hH,hB,hz,q⟩:=h;cases rx;cases ry;obtain⟨z,its,n,r,hl,e⟩:=I.J5 hH;obtain⟨z2,its2,n2,r2,hl2,e2⟩:=I.J5 hB;refine PySem.P.add_list e e2 ?_ (by rw[size_toArray,size_toArray];omega);have ea:its.toArray++its2.toArray=(its++its2).toArray:=by simp
 rw[ea];exact⟨.ref _,_,I.aeJ (t':=s.toks) (r.append r2) (by rw[length_append];omega),rfl,q _ I.fresh⟩
end
theorem Vals.ints:∀{ns:List Int}{us:List Value},Vals (ns.map V.int) us→IntsAre us ns
 | [],us,h=>by
  rw[map_nil]at h;cases h;exact IntsAre.nil
 |n::ns,us,h=>by
  rw[map_cons]at h;cases h with
  |cons r t=>
   obtain⟨k,rfl⟩:=r;exact IntsAre.cons n k (Vals.ints t)
theorem Vals.bls:∀{bs:List Bool}{us:List Value},Vals (bs.map V.bl) us→us=bs.map Value.bool
 | [],us,h=>by
  rw[map_nil]at h;cases h;rfl
 |b::bs,us,h=>by
  rw[map_cons]at h;cases h with
  |cons r t=>
   cases r;rw[Vals.bls t,map_cons]
theorem Vals.ZL{a:Addr}{us:List Value}(r:Vals [V.ref a] us):us=[Value.ref a]:=by
 cases r with
 |cons r t=>
  cases t;cases r;rfl
section
variable{prog:Program}{w:World}{A:Around}{E:Value→Shared→Prop}{s:Shared}{l:Addr}{its:List Value}{ns:List Int}{Q:Value→Shared→Prop}
theorem W5(hh:A.handled=none)(hl:s.heap.IsList l its.toArray)(hi:IntsAre its ns)(h:∀h' tk t',(∀b o,s.heap.get? b=some o→h'.get? b=some o)→Q (.int ns.sum t') { s with heap:=h',toks:=tk }):wpAny (model prog w) A (call (.builtin "sum") [.ref l]) Q E s:=by
 obtain⟨xs,e⟩:=hi.allInts.items;have hn:numsOf (intItems xs).toList=ns:=by rw[←e];exact hi.numsOf
 rw[nums_intItems]at hn;rw[e]at hl;refine PySem.sum_intListG hh hl fun h' tk t' hk=>?_;have:=h h' tk t' hk;rw[preSum_eq,take_of_length_le (by simp),hn];exact this
end
section
variable{X:Cx}
def aeN(K:PySem.W.Frag):List V→Hp→VK→Prop:=fun vs H Q=>∃(a:Addr)(ns:List Int),vs=[V.ref a]∧bJ K H a (ns.map V.int)∧Q (.int ns.sum) H
theorem Tc(hc:X.calm=true):pK X (.builtin "sum") (aeN X.K):=by
 intro pins s σ H vs us Q I r h;obtain⟨a,ns,rfl,hs,q⟩:=h;obtain⟨its,rv,hl,_⟩:=I.list hs;rw[Vals.ZL r];exact W5 (I.ok.hd hc) hl.isList rv.ints fun h' tk t' hk=>⟨.int _,H,I.kept hk,⟨_,rfl⟩,q⟩
end
theorem FZ{prog:Program}{w:World}{A:Around}{E:Value→Shared→Prop}{s:Shared}{l:Addr}{items:Array Value}{Q:Value→Shared→Prop}(hl:s.heap.IsList l items)(h:∀s₂:Shared,s₂={ s with heap:=s.heap.push { cls:=.type "list_iterator",data:=.fields #[.ref l,.int 0 0] } } →
   (s₂.heap.IsListIter s.heap.objs.size l 0∧s₂.heap.IsList l items)→l≠s.heap.objs.size→Q (.ref s.heap.objs.size) s₂):wpAny (model prog w) A (pyIter (.ref l)) Q E s:=by
 have hlt:l<s.heap.objs.size:=by obtain⟨_,e,_⟩:=hl;exact lt_size e
 exact wpAny_pyIter_list hl (h _ rfl ⟨⟨_,get?_push_size _ rfl,rfl,rfl⟩,hl.push _⟩ (ne_of_lt hlt))
theorem v7{prog:Program}{w:World}{A:Around}{bs:List Bool}{its:List Value}(e:its=bs.map Value.bool) :
  TruthOf prog w A (fun i v=>its.toArray[i]?=some v) (fun i=>bs.getD i false):=fun i v s Q E hv hq=>by
 have hv':its[i]?=some v:=by simpa using hv
 rw[e,getElem?_map]at hv';obtain⟨b,hb,rfl⟩:=map_eq_some_iff.mp hv';have hg:bs.getD i false=b:=by rw[getD_eq_getElem?_getD,hb]<;>rfl
 have hq':Q (bs.getD i false) s:=hq;rw[hg]at hq';exact wpAny_truthy_bool hq'
theorem any_range:∀bs:List Bool,(List.range bs.length).any (fun i=>bs.getD i false)=bs.any id
 | []=>rfl
 |b::bs=>by
  rw[length_cons,range_succ_eq_map,any_cons,List.any_map,any_cons,←any_range bs]
  all_goals rfl
theorem all_range:∀bs:List Bool,(List.range bs.length).all (fun i=>bs.getD i false)=bs.all id
 | []=>rfl
 |b::bs=>by
  rw[length_cons,range_succ_eq_map,all_cons,List.all_map,all_cons,←all_range bs]
  all_goals rfl
section
variable{X:Cx}
def aeO(K:PySem.W.Frag):List V→Hp→VK→Prop:=fun vs H Q=>∃(a:Addr)(bs:List Bool),vs=[V.ref a]∧bJ K H a (bs.map V.bl)∧Q (.bl (bs.any id)) H
def aeP(K:PySem.W.Frag):List V→Hp→VK→Prop:=fun vs H Q=>∃(a:Addr)(bs:List Bool),vs=[V.ref a]∧bJ K H a (bs.map V.bl)∧Q (.bl (bs.all id)) H
theorem Dq(hc:X.calm=true):pK X (.builtin "any") (aeO X.K):=by
 intro pins s σ H vs us Q I r h;obtain⟨a,bs,rfl,hs,q⟩:=h;obtain⟨its,rv,hl,_⟩:=I.list hs;rw[Vals.ZL r];have hb:=rv.bls;refine call_any_walk (FZ hl.isList fun s₂ e2 st hne=>?_);subst e2;refine⟨_,_,_,_,_,_,_,rfl,Walks.list (A:=X.A.in1) (I.ok.hd hc) _ a hne its.toArray,st,v7 hb,fun h' tk hk=>?_⟩;refine⟨.bl _,H,I.kept fun b o eo=>hk b o (fun hmem=>?_) (get?_push_of_some _ eo),?_,q⟩
 ·rcases mem_cons.mp hmem with e1|hmem
  ·exact absurd (e1▸lt_size eo) (lt_irrefl _)
  ·cases hmem
 ·show Value.bool _=Value.bool _;rw[←any_range,hb,size_toArray,length_map]
theorem ZM(hc:X.calm=true):pK X (.builtin "all") (aeP X.K):=by
 intro pins s σ H vs us Q I r h;obtain⟨a,bs,rfl,hs,q⟩:=h;obtain⟨its,rv,hl,_⟩:=I.list hs;rw[Vals.ZL r];have hb:=rv.bls;refine call_all_walk (FZ hl.isList fun s₂ e2 st hne=>?_);subst e2;refine⟨_,_,_,_,_,_,_,rfl,Walks.list (A:=X.A.in1) (I.ok.hd hc) _ a hne its.toArray,st,v7 hb,fun h' tk hk=>?_⟩;refine⟨.bl _,H,I.kept fun b o eo=>hk b o (fun hmem=>?_) (get?_push_of_some _ eo),?_,q⟩
 ·rcases mem_cons.mp hmem with e1|hmem
  ·exact absurd (e1▸lt_size eo) (lt_irrefl _)
  ·cases hmem
 ·show Value.bool _=Value.bool _;rw[←all_range,hb,size_toArray,length_map]
end
abbrev Td(h:Heap)(c:Addr)(v:Option Value):Prop:=h.IsCell c v
def aeQ(scope sc:Scope):Scope:=
 { scope with names:=scope.names.map fun (n,k)=>if (k==.free&&sc.kind==.function&&sc.names.lookup n==some .cell) then (n,.cell) else (n,k) }
def cO(cells:List (Str×Addr)):List (Str×NameKind)→List (Str×Addr)→List (Str×Addr)
 | [],acc=>acc
 | (n,k)::r,acc=>if k==.free then cO cells r ((n,(cells.lookup n).getD 0)::acc) else cO cells r acc
theorem uh(env:Env)(f:Str×NameKind→List (Str×Addr)→Sem (ForInStep (List (Str×Addr))))(hf:∀n k c,f (n,k) c=if k==.free then (do let a ←cellOf env n;pure (.yield ((n,a)::c))) else pure (.yield c)) :
  ∀(names:List (Str×NameKind))(acc:List (Str×Addr)),(∀y∈names,y.2=.free→∃c,env.cells.lookup y.1=some c)→forIn names acc f=pure (cO env.cells names acc)
 | [],acc,_=>by rw[forIn_nil];rfl
 | (n,k)::r,acc,h=>by
  rw[List.forIn_cons,hf];have ih:=fun acc=>uh env f hf r acc fun y hy=>h y (mem_cons_of_mem _ hy);unfold cO;by_cases hk:(k==NameKind.free)=true
  ·rw[if_pos hk,if_pos hk];obtain⟨c,hc⟩:=h (n,k) mem_cons_self (by simpa using hk);have e:cellOf env n=pure c:=by unfold cellOf;rw[hc]
   rw[e];have e2:(env.cells.lookup n).getD 0=c:=by rw[hc];rfl
   rw[e2];exact ih _
  ·rw[if_neg hk,if_neg hk];exact ih _
theorem J7{scope:Scope}{env:Env}(h:∀y∈scope.names,y.2=.free→∃c,env.cells.lookup y.1=some c):closureFor scope env=pure (cO env.cells scope.names []):=by
 simp only[closureFor];rw[uh env _ (fun n k c=>rfl) scope.names [] h];rfl
theorem mem_lookup{α:Type}:∀{l:List (Str×α)}{n:Str}{c:α},(n,c)∈l→∃c',l.lookup n=some c'
 | (k,v)::r,n,c,h=>by
  rw[lookup_cons];cases hb:n==k with
  |true=>exact⟨_,rfl⟩
  |false=>
   rcases mem_cons.mp h with e|h
   ·cases e;simp at hb
   ·exact mem_lookup h
theorem lX{cells:List (Str×Addr)}:∀{names:List (Str×NameKind)}{acc:List (Str×Addr)}{n:Str}{c:Addr},(n,c)∈cO cells names acc→(n,c)∈acc∨((n,.free)∈names∧c=(cells.lookup n).getD 0)
 | [],_,_,_,h=>.inl h
 | (m,k)::r,acc,n,c,h=>by
  unfold cO at h;split at h
  ·rename_i hk;have hk:k=.free:=by simpa using hk
   rcases lX h with h|⟨h1,h2⟩
   ·rcases mem_cons.mp h with e|h
    ·cases e;exact .inr ⟨hk▸mem_cons_self,rfl⟩
    ·exact .inl h
   ·exact .inr ⟨mem_cons_of_mem _ h1,h2⟩
  ·rcases lX h with h|⟨h1,h2⟩
   ·exact .inl h
   ·exact .inr ⟨mem_cons_of_mem _ h1,h2⟩
theorem pW{cells:List (Str×Addr)}:∀{names:List (Str×NameKind)}{acc:List (Str×Addr)}{p:Str×Addr},p∈acc→p∈cO cells names acc
 | [],_,_,h=>h
 | (m,k)::r,acc,p,h=>by
  unfold cO;split
  ·exact pW (mem_cons_of_mem _ h)
  ·exact pW h
theorem pX{cells:List (Str×Addr)}:∀{names:List (Str×NameKind)}{acc:List (Str×Addr)}{n:Str},(n,.free)∈names→(n,(cells.lookup n).getD 0)∈cO cells names acc
 | (m,k)::r,acc,n,h=>by
  unfold cO;rcases mem_cons.mp h with e|h
  ·cases e;exact pW mem_cons_self
  ·split
   ·exact pX h
   ·exact pX h
theorem nq:∀{names:List (Str×NameKind)}{h:Heap}{acc:List (Str×Addr)}{x:Str}{c:Addr},(x,c)∈cellsFrom h.objs.size names acc →
  (x,c)∈acc∨((x,.cell)∈names∧h.objs.size≤c∧Td (pushCells h names) c none)
 | [],_,_,_,_,h=>.inl h
 | (n,k)::r,h,acc,x,c,hm=>by
  unfold cellsFrom at hm;unfold pushCells;split at hm
  ·rename_i hk;rw[if_pos hk];have hk:k=.cell:=by simpa using hk
   rw[←size_push h { cls:=.type "cell",data:=.cell none }]at hm;rcases nq hm with hm|⟨h1,h2,h3⟩
   ·rcases mem_cons.mp hm with e|hm
    ·cases e;exact .inr ⟨hk▸mem_cons_self,le_refl _,_,pushCells_keeps r _ _ _ (get?_push_size _ rfl),rfl⟩
    ·exact .inl hm
   ·rw[size_push]at h2;exact .inr ⟨mem_cons_of_mem _ h1,le_of_succ_le h2,h3⟩
  ·rename_i hk;rw[if_neg hk];rcases nq hm with hm|⟨h1,h2,h3⟩
   ·exact .inl hm
   ·exact .inr ⟨mem_cons_of_mem _ h1,h2,h3⟩
theorem qL:∀{names:List (Str×NameKind)}{n:Nat}{acc:List (Str×Addr)}{p:Str×Addr},p∈acc→p∈cellsFrom n names acc
 | [],_,_,_,h=>h
 | (m,k)::r,n,acc,p,h=>by
  unfold cellsFrom;split
  ·exact qL (mem_cons_of_mem _ h)
  ·exact qL h
theorem uW:∀{names:List (Str×NameKind)}{n:Nat}{acc:List (Str×Addr)}{x:Str},(x,.cell)∈names→∃c,(x,c)∈cellsFrom n names acc
 | (m,k)::r,n,acc,x,h=>by
  unfold cellsFrom;rcases mem_cons.mp h with e|h
  ·cases e;exact⟨n,qL mem_cons_self⟩
  ·split
   ·exact uW h
   ·exact uW h
theorem uX:∀{names:List (Str×NameKind)}{h:Heap}{acc:List (Str×Addr)}{x y:Str}{c:Addr},(∀p∈acc,p.2<h.objs.size)→(∀x y c,(x,c)∈acc→(y,c)∈acc→x=y) →
  (x,c)∈cellsFrom h.objs.size names acc→(y,c)∈cellsFrom h.objs.size names acc→x=y
 | [],_,_,_,_,_,_,hi,h1,h2=>hi _ _ _ h1 h2
 | (n,k)::r,h,acc,x,y,c,hl,hi,h1,h2=>by
  unfold cellsFrom at h1 h2;split at h1
  ·rename_i hk;rw[if_pos hk]at h2;rw[←size_push h { cls:=.type "cell",data:=.cell none }]at h1 h2;refine uX (h:=h.push _) (fun p hp=>?_) (fun x y c a b=>?_) h1 h2
   ·rw[size_push];rcases mem_cons.mp hp with rfl|hp
    ·exact lt_succ_self _
    ·exact Nat.lt_succ_of_lt (hl p hp)
   ·rcases mem_cons.mp a with e|a<;>rcases mem_cons.mp b with e'|b
    ·cases e;cases e';rfl
    ·cases e;exact absurd (hl _ b) (lt_irrefl _)
    ·cases e';exact absurd (hl _ a) (lt_irrefl _)
    ·exact hi _ _ _ a b
  ·rename_i hk;rw[if_neg hk]at h2;exact uX hl hi h1 h2
theorem Gd{M:Model}{A:Around}{E:Value→Shared→Prop}{s:Shared}{scope:Scope}{globals:Addr}{closure:List (Str×Addr)}{qual:Str}{func:Option Addr}{code:Value}{around:Env}{builtins:Addr}{Q:Env→Shared→Prop}(h:Q (newEnv scope s.heap.objs.size globals (cellsFrom (s.heap.objs.size+1) scope.names closure) qual func code (some around) builtins)
   { s with heap:=pushCells (s.heap.push { cls:=.type "dict",data:=.dict #[] }) scope.names }) :
  wpAny M A (newFunctionEnv scope globals closure [] qual func code (some around) builtins) Q E s:=by
 simp only[newFunctionEnv,isSome_some,if_true];refine wpAny_bind (wpAny_alloc ?_);refine wpAny_bind (wpAny_layCells _ (fun n k c=>rfl) scope.names closure _ _ ?_);rw[show ({ s with heap:=s.heap.push { cls:=.type "dict",data:=.dict #[] } }:Shared).heap.objs.size=s.heap.objs.size+1 from size_push ..];rw[forIn_nil];exact wpAny_bind (wpAny_pure (wpAny_pure h))
theorem pY{sc:Scope}:∀{names:List (Str×NameKind)}{x:Str}{k:NameKind},
  (names.map fun (n,k)=>if (k==NameKind.free&&sc.kind==.function&&sc.names.lookup n==some .cell) then (n,NameKind.cell) else (n,k)).lookup x=some k →
  ∃k',names.lookup x=some k'∧(k=k'∨(k'=.free∧k=.cell))
 | [],_,_,h=>by simp at h
 | (n,k₀)::r,x,k,h=>by
  have ih:=@pY sc r x k;have h':List.lookup x ((if (k₀==NameKind.free&&sc.kind==.function&&sc.names.lookup n==some .cell)=true then (n,NameKind.cell) else (n,k₀))::(r.map _))=some k:=h;cases hx:x==n with
  |true=>
   simp only[lookup_cons,hx];by_cases hc:(k₀==NameKind.free&&sc.kind==.function&&sc.names.lookup n==some .cell)=true
   ·rw[if_pos hc]at h';simp only[lookup_cons,hx]at h';cases h';simp only[and_eq_true,beq_iff_eq]at hc;exact⟨k₀,rfl,.inr ⟨hc.1.1,rfl⟩⟩
   ·rw[if_neg hc]at h';simp only[lookup_cons,hx]at h';cases h';exact⟨_,rfl,.inl rfl⟩
  |false=>
   simp only[lookup_cons,hx];by_cases hc:(k₀==NameKind.free&&sc.kind==.function&&sc.names.lookup n==some .cell)=true
   ·rw[if_pos hc]at h';simp only[lookup_cons,hx]at h';exact ih h'
   ·rw[if_neg hc]at h';simp only[lookup_cons,hx]at h';exact ih h'
structure Ge(N:List Str)(sc scope:Scope)(own:List (Str×Nat)):Prop where
 kind:scope.kind=.function
 uniq:∀y∈scope.names,scope.names.lookup y.1=some y.2
 ix:∀p∈own,N[p.2]?=some p.1
 free:∀y∈scope.names,y.2=.free→sc.names.lookup y.1=some .cell∨sc.names.lookup y.1=some .free
 own:∀y∈scope.names,y.2=.local∨y.2=.cell→y.1∈own.map (·.1)∨y.1∉N
def wipe(σ:St):List Nat→St
 | []=>σ
 |v::vs=>(wipe σ vs).set v none
theorem pZ(σ:St):∀vs:List Nat,(wipe σ vs).length=σ.length
 | []=>rfl
 |v::vs=>by unfold wipe;rw[List.length_set,pZ σ vs]
theorem uY{σ:St}{i:Nat}{x:V}:∀{vs:List Nat},(wipe σ vs)[i]?=some (some x)→σ[i]?=some (some x)∧i∉vs
 | [],h=>⟨h,by simp⟩
 |v::vs,h=>by
  unfold wipe at h;by_cases hi:v=i
  ·subst hi;by_cases hv:v<(wipe σ vs).length
   ·rw[getElem?_set_self hv]at h;cases h
   ·rw[List.getElem?_eq_none (by simpa using hv)]at h;cases h
  ·rw[List.getElem?_set_ne hi]at h;obtain⟨h1,h2⟩:=uY h;exact⟨h1,by simp only[mem_cons,not_or];exact⟨fun e=>hi e.symm,h2⟩⟩
abbrev Cx.blk(X:Cx)(s:Shared)(H:Hp)(scope:Scope)(cenv:Env)(fp:List Addr):Cx:={ X with s_0:=s,Zq:=H,env:=cenv,outer:=X.stack,ex:=fp,fn:=fun x=>scope.names.lookup x==some .cell,pn:=[],xe:=fun _ _=>False }
section
variable{X:Cx}{pins:List (Addr×Obj)}{σ:St}{H:Hp}{s:Shared}
theorem Gf{scope:Scope}{own:List (Str×Nat)}{fp:List Addr}(I:Inv X pins σ H s)(ok:Ge X.N X.env.scope scope own)(hN:X.N.Nodup)(hfp:∀b∈fp,wH X pins H b∧b<s.heap.objs.size) :
  Inv (X.blk s H scope (compEnvC scope (cellsFrom (s.heap.objs.size+1) scope.names (cO X.env.cells scope.names [])) s.heap.objs.size X.env) fp) [] (wipe σ (own.map (·.2))) H { s with heap:=pushCells (s.heap.push { cls:=.type "dict",data:=.dict #[] }) scope.names }:=by
 have hfree:∀y∈scope.names,y.2=.free→∃c,X.env.cells.lookup y.1=some c:=fun y hy e=>by
  rcases ok.free y hy e with k|k
  ·exact I.ok.has _ (.inl k)
  ·exact I.ok.has _ (.inr k)
 generalize Gg:compEnvC scope (cellsFrom (s.heap.objs.size+1) scope.names (cO X.env.cells scope.names [])) s.heap.objs.size X.env=cenv;have kp:∀b o,s.heap.get? b=some o→(pushCells (s.heap.push { cls:=.type "dict",data:=.dict #[] }) scope.names).get? b=some o:=fun b o e=>pushCells_keeps _ _ _ _ (get?_push_of_some _ e);have hL:cenv.locals=s.heap.objs.size:=by rw[←Gg];rfl
 have hcl:cenv.cells=cellsFrom (s.heap.objs.size+1) scope.names (cO X.env.cells scope.names []):=by rw[←Gg];rfl
 have hsc:cenv.scope=aeQ scope X.env.scope:=by rw[←Gg];rfl
 rw[←size_push s.heap { cls:=.type "dict",data:=.dict #[] }]at hcl;have cm:∀{y c},(y,c)∈cO X.env.cells scope.names []→X.env.cells.lookup y=some c∧c<s.heap.objs.size:=fun {y c} hm=>by
  rcases lX hm with hm|⟨h1,rfl⟩
  ·cases hm
  ·obtain⟨c,hc⟩:=hfree _ h1 rfl;rw[hc];obtain⟨w,z⟩:=I.cell _ _ hc;exact⟨rfl,z.lt⟩
 have mem:∀{y c},cenv.cells.lookup y=some c→(X.env.cells.lookup y=some c∧c<s.heap.objs.size)∨(s.heap.objs.size+1≤c∧Td (pushCells (s.heap.push { cls:=.type "dict",data:=.dict #[] }) scope.names) c none):=fun {y c} e=>by
  rw[hcl]at e;rcases nq (PySem.mem_of_lookup e) with hm|⟨_,h2,h3⟩
  ·exact .inl (cm hm)
  ·rw[size_push]at h2;exact .inr ⟨h2,h3⟩
 have look:∀{y},scope.names.lookup y=some .free→∃c,cenv.cells.lookup y=some c∧X.env.cells.lookup y=some c:=fun {y} hl=>by
  have hy:(y,NameKind.free)∈scope.names:=PySem.mem_of_lookup hl;obtain⟨c',e'⟩:=mem_lookup (qL (names:=scope.names) (n:=(s.heap.push { cls:=.type "dict",data:=.dict #[] }).objs.size) (pX (cells:=X.env.cells) (acc:=[]) hy));rw[←hcl]at e';refine⟨c',e',?_⟩;rw[hcl]at e';rcases nq (PySem.mem_of_lookup e') with hm|⟨h1,_,_⟩
  ·exact(cm hm).1
  ·have:=ok.uniq _ h1;rw[hl]at this;cases this
 have okB:(X.blk s H scope cenv fp).Ok:=by
  refine⟨I.ok.mod,by show cenv.scope.kind=_;rw[hsc];exact ok.kind,by show cenv.globals=_;rw[←Gg];exact I.ok.glob,by show cenv.builtins=_;rw[←Gg];exact I.ok.blt,by show s.heap.objs.size≤cenv.locals;rw[hL];exact le_refl _,
   fun y z c e1 e2=>?_,fun y hy=>?_,fun y c z e=>?_,I.ok.hd,I.ok.frames,.inl rfl,fun b hb=>⟨?_,fun y c e z=>?_⟩,I.bs,le_trans I.ok.Px I.sz,fun b o e hb=>?_,fun b hb z=>?_,I.stack,I.tR⟩
  ·have e1:cenv.cells.lookup y=some c:=e1;have e2:cenv.cells.lookup z=some c:=e2;rw[hcl]at e1 e2;refine uX (fun p hp=>?_) (fun y z c a b=>I.ok.inj y z c (cm a).1 (cm b).1) (PySem.mem_of_lookup e1) (PySem.mem_of_lookup e2);rw[size_push];exact Nat.lt_succ_of_lt (cm (y:=p.1) (c:=p.2) hp).2
  ·show ∃c,cenv.cells.lookup y=some c;have key:∀k,cenv.kindOf y=some k→(k=.cell∨k=.free)→∃c,cenv.cells.lookup y=some c:=fun k hk hk'=>by
    unfold Env.kindOf at hk;rw[hsc]at hk;obtain⟨k',e,r⟩:=pY hk;have:k'=.cell∨k'=.free:=by
     rcases r with rfl|⟨rfl,_⟩
     ·exact hk'
     ·exact .inr rfl
    rcases this with rfl|rfl
    ·obtain⟨c,hm⟩:=uW (n:=(s.heap.push { cls:=.type "dict",data:=.dict #[] }).objs.size) (acc:=cO X.env.cells scope.names []) (PySem.mem_of_lookup e);obtain⟨c',e'⟩:=mem_lookup hm;exact⟨c',by rw[hcl];exact e'⟩
    ·obtain⟨c,h1,_⟩:=look e;exact⟨c,h1⟩
   rcases hy with hy|hy
   ·exact key _ hy (.inl rfl)
   ·exact key _ hy (.inr rfl)
  ·have z:(scope.names.lookup y==some NameKind.cell)=true:=z;have z:scope.names.lookup y=some .cell:=by simpa using z
   have e:cenv.cells.lookup y=some c:=e;rw[hcl]at e;rcases nq (PySem.mem_of_lookup e) with hm|⟨_,h2,_⟩
   ·rcases lX hm with hm|⟨h1,_⟩
    ·cases hm
    ·have q:=ok.uniq _ h1;rw[z]at q;cases q
   ·rw[size_push]at h2;exact le_of_succ_le h2
  ·show b≠cenv.locals;rw[hL];exact ne_of_lt (hfp b hb).2
  ·have e:cenv.cells.lookup y=some c:=e;rcases mem e with⟨h1,_⟩|⟨h1,_⟩
   ·exact(hfp b hb).1.2.2.2.2.1 y c h1 z
   ·have h2:s.heap.objs.size+1≤b:=by rw[←z];exact h1
    exact absurd (lt_of_lt_of_le (hfp b hb).2 (le_of_succ_le h2)) (lt_irrefl _)
  ·rcases (hfp b hb).1.2.2.2.1 with z|z
   ·exact I.ok.Py b o e z
   ·exact absurd (lt_of_lt_of_le (lt_size e) (le_trans I.ok.Px z)) (lt_irrefl _)
  ·rcases mem_cons.mp (I.mK b z) with z|z
   ·exact(hfp b hb).1.2.1 z
   ·exact(hfp b hb).1.2.2.1 z
 refine⟨okB,rfl,I.bare,Un.kept kp,⟨fun _=>none,?_,fun i y av e1 e2 e3=>?_⟩,fun y c e=>?_,?_,fun y c e=>?_,fun p hp=>?_,I.hok.kept kp,by rw[pZ];exact I.len⟩
 ·show Heap.Ns _ cenv.locals _;rw[hL];exact Heap.Ns.keeps (Heap.Ns.new ..) fun b o e=>pushCells_keeps _ _ _ _ e
 ·obtain⟨e2,hne⟩:=uY e2;have hfr:scope.names.lookup y=some .free∧(cenv.kindOf y=some .cell∨cenv.kindOf y=some .free):=by
   have key:∀k,cenv.scope.names.lookup y=some k→k=.local∨k=.cell∨k=.free→scope.names.lookup y=some .free∧(cenv.kindOf y=some .cell∨cenv.kindOf y=some .free):=fun k hk hk'=>by
    have hk0:=hk;rw[hsc]at hk;obtain⟨k',e,r⟩:=pY hk;have no:¬(k'=.local∨k'=.cell):=fun hh=>by
     rcases ok.own _ (PySem.mem_of_lookup e) hh with e'|e'
     ·obtain⟨p,hp,hpy⟩:=mem_map.mp e';have e3:=ok.ix p hp;have:p.1=y:=hpy;rw[this]at e3;exact hne (mem_map.mpr ⟨p,hp,xV hN e3 e1⟩)
     ·exact e' (mem_of_getElem? e1)
    rcases r with rfl|⟨rfl,rfl⟩
    ·rcases hk' with rfl|rfl|rfl
     ·exact absurd (.inl rfl) no
     ·exact absurd (.inr rfl) no
     ·exact⟨e,.inr hk0⟩
    ·exact⟨e,.inl hk0⟩
   have e3:Zr cenv.scope y:=e3;rcases e3 with e3|e3|e3
   ·exact key _ e3 (.inl rfl)
   ·exact key _ e3 (.inr (.inl rfl))
   ·exact key _ e3 (.inr (.inr rfl))
  obtain⟨m,hn,hl⟩:=I.loc;have aeR:Zr X.env.scope y:=(ok.free _ (PySem.mem_of_lookup hfr.1) rfl).elim (fun k=>.inr (.inl k)) (fun k=>.inr (.inr k));obtain⟨w,r,q⟩:=hl i y av e1 e2 aeR;refine⟨w,r,.inr ⟨hfr.2,?_⟩⟩;obtain⟨c,h1,h2⟩:=look hfr.1;rcases q with⟨k,_⟩|⟨_,c',e',z⟩
  ·have k:X.env.scope.names.lookup y=some .local:=k;rcases ok.free _ (PySem.mem_of_lookup hfr.1) rfl with k'|k'<;>rw[show X.env.scope.names.lookup y=_ from k']at k<;>cases k
  ·rw[h2]at e';cases e';exact⟨c,h1,z.keeps kp⟩
 ·have e:cenv.cells.lookup y=some c:=e;rcases mem e with⟨h1,_⟩|⟨_,z⟩
  ·obtain⟨w,z⟩:=I.cell y c h1;exact⟨w,z.keeps kp⟩
  ·exact⟨_,z⟩
 ·show H cenv.locals=none;rw[hL];exact I.hok.fresh (le_refl _)
 ·have e:cenv.cells.lookup y=some c:=e;rcases mem e with⟨h1,_⟩|⟨h1,_⟩
  ·exact I.jQ y c h1
  ·exact I.hok.fresh (le_of_succ_le h1)
 ·exact absurd (show p∈([]:List (Addr×Obj))++[] from hp) (by simp)
theorem ZP{E:Value→Shared→Prop}{D:Addr}{xs:List V}{y:V}{v:Value}{Q:Value→Shared→Prop}(I:Inv X pins σ H s)(hD:H D=some (.lst xs))(hz:xs.length<sizeLine)(r:RelV y v)(h:∀s',Inv X pins σ (upd H D (.lst (xs++[y]))) s'→Q .none s'):wpAny (model X.prog X.w) X.A (call (.builtin "list.append") [.ref D,v]) Q E s:=by
 obtain⟨hz',its,n,ri,e⟩:=I.hok D _ hD;have hl:=ri.length;refine append_at (hsz:=by rw[size_toArray];omega) e fun h' sb ho'=>?_;refine h { s with heap:=h' } (I.write (t':=s.toks) (by rw[hD];trivial) (.inl rfl) (fun b u hb q=>(sb.2 b hb).trans q) ⟨_,ho'⟩ ⟨by rw[length_append];exact hz,its++[v],n+1,ri.append (.cons r .nil),?_⟩);rw[ho'];simp
def PTs(X:Cx)(ifs:List Expr)(t:TT):Prop:=
 ∀(pins:List (Addr×Obj))(s:Shared)(σ:St)(H:Hp)(Q:Bool→Hp→Prop),Inv X pins σ H s→t σ H Q →
  wpAny (model X.prog X.w) X.A (forIn ifs true fun c r=>if r=true then do let ok ←isTrue c X.env (eval c X.env);pure (ForInStep.yield ok) else pure (ForInStep.yield r)) (TP X pins σ Q) X.xe s
def aeS:TT:=fun _ H Q=>Q true H
theorem gb:PTs X [] aeS:=fun _ _ _ H _ I h=>wpAny_tests_nil ⟨H,I,h⟩
theorem Dr{c:Expr}{t:TT}(h:PT X c t):PTs X [c] t:=fun pins s σ H Q I hw=>wpAny_tests_one (h pins s σ H Q I hw)
end
theorem Qg{α:Type}{t:Sem α}{Q Q':α→Shared→Prop}{M:Model}{A:Around}{E:Value→Shared→Prop}{s:Shared}(h:wpAny M A t Q (fun _ _=>False) s)(hQ:∀a s,Q a s→Q' a s):wpAny M A t Q' E s:=wpAny_mono h hQ fun _ _ z=>False.elim z
theorem Ds{prog:Program}{w:World}{A:Around}{R:Result→Shared→Prop}{s:Shared}{elt target iter:Expr}{ifs:List Expr}{scope:Scope}{pos:Pos}{it acc:Value}{env:Env}(I:Nat→Shared→Prop)(turn:∀n s,I n s→wpAny (model prog w) A (pyNext it) (fun r s₁=>match r with
   |none=>R (.ok .next) s₁
   |some v=>wpAny (model prog w) A (letOwnedTupleGo target it v) (fun _ s₁'=>wpAny (model prog w) A (assign target env v) (fun _ s₂=>
     wpAny (model prog w) A (forIn ifs true fun c r=>if r=true then do let ok ←isTrue c env (eval c env);pure (ForInStep.yield ok) else pure (ForInStep.yield r)) (fun ok s₃=>
      if ok=true then wpAny (model prog w) A (eval elt env) (fun x s₄=>
       wpAny (model prog w) A (call (.builtin "list.append") [acc,x]) (fun _ s₅=>∃m,m<n∧I m s₅) (notedBy (model prog w) A env fun e s'=>R (.error e) s') s₄) (notedBy (model prog w) A env fun e s'=>R (.error e) s') s₃
      else ∃m,m<n∧I m s₃) (notedBy (model prog w) A env fun e s'=>R (.error e) s') s₂) (notedBy (model prog w) A env fun e s'=>R (.error e) s') s₁') (notedBy (model prog w) A env fun e s'=>R (.error e) s') s₁) (notedBy (model prog w) A env fun e s'=>R (.error e) s') s)(n:Nat)(h:I n s) :
  codeAny (model prog w) A (.compLoop (.ListComp elt [⟨target,iter,ifs,0⟩] scope pos) 0 it acc env) R s:=by
 refine codeAny_loop rfl I (fun n s hI=>?_) n h;show wpAny _ A ((compTurn (.ListComp elt [⟨target,iter,ifs,0⟩] scope pos) 0 it acc env).onRaise (fun x=>do noteFrame x env;theTreesLotGoes x)) _ _ s;refine wpAny_noted ?_;rw[compTurn_list];refine wpAny_bind (wpAny_standAt (wpAny_bind (wpAny_mono (turn n s hI) (fun r s₁ h₁=>?_) fun _ _ h'=>h')));cases r with
 |none=>exact wpAny_pure h₁
 |some v=>
  refine wpAny_bind (wpAny_mono h₁ (fun _ s₁' h₁'=>?_) fun _ _ h'=>h');refine wpAny_bind (wpAny_mono h₁' (fun _ s₂ h₂=>wpAny_bind (wpAny_mono h₂ (fun ok s₃ h₃=>?_) fun _ _ h'=>h')) fun _ _ h'=>h');cases ok with
  |false=>exact wpAny_pure ⟨rfl,h₃⟩
  |true=>
   exact wpAny_bind (wpAny_bind (wpAny_mono h₃ (fun x s₄ h₄=>wpAny_bind (wpAny_mono h₄ (fun _ s₅ h₅=>wpAny_pure (wpAny_pure ⟨rfl,h₅⟩)) fun _ _ h'=>h')) fun _ _ h'=>h'))
section
variable{X:Cx}
def tLc(wi:TI)(g:TG)(tt:TT)(te:TE)(vs:List Nat):TE:=fun σ H Q=>wi σ H fun J H1=>∀D,H1 D=none→∃W:Nat→Nat→Hp→Prop,(∃m,W 0 m (upd H1 D (.lst [])))∧∀i m H,W i m H →
 (J.stop i H∧Q (.ref D) H)∨(J.go i H∧∃Nx:Hp→Prop,(∀H',Nx H'→∃m',m'<m∧W (i+1) m' H')∧∀x H',J.Wq i H x H'→g x (wipe σ vs) H' fun σ2 H2=>wipe σ2 vs=wipe σ vs∧tt σ2 H2 fun b H3=>
  if b=true then te σ2 H3 fun y H4=>∃acc,H4 D=some (.lst acc)∧acc.length<sizeLine∧Nx (upd H4 D (.lst (acc++[y]))) else Nx H3)
theorem Nm{pins:List (Addr×Obj)}{s:Shared}{σ:St}{H:Hp}{Q:VK}{elt tg iter:Expr}{ifs:List Expr}{scope:Scope}{own:List (Str×Nat)}{pos pos':Pos}{wi:TI}{g:TG}{tt:TT}{te:TE}{use:Option (Value→Sem Unit)}{Qf:Value→Shared→Prop}(hc:X.calm=true)(hN:X.N.Nodup)(I:Inv X pins σ H s)(hi:PI X tg iter wi)(ok:Ge X.N X.env.scope scope own)(hg:∀(s:Shared)(H:Hp)(C:Addr)(cl:List (Str×Addr))(fp:List Addr),PG (X.blk s H scope (compEnvC scope cl C X.env) fp) tg g)(ht:∀(s:Shared)(H:Hp)(C:Addr)(cl:List (Str×Addr))(fp:List Addr),PTs (X.blk s H scope (compEnvC scope cl C X.env) fp) ifs tt)(he:∀(s:Shared)(H:Hp)(C:Addr)(cl:List (Str×Addr))(fp:List Addr),PE (X.blk s H scope (compEnvC scope cl C X.env) fp) elt te)(hs:∀x,foldedSetIterable iter X.env x=pure x)(h:tLc wi g tt te (own.map (·.2)) σ H Q)(hRR:∀D C s' m H',Inv X pins σ H' s'→Q (.ref D) H'→s'.heap.Ns C m→wH X pins H' C→compPost (model X.prog X.w) X.A X.xe use Qf (.ref D) C (.ok .next) s') :
  wpAny (model X.prog X.w) X.A (comprehension (.ListComp elt [⟨tg,iter,ifs,0⟩] scope pos) scope X.env pos' (newList []) false (eval iter X.env) use) Qf X.xe s:=by
 have hfree:∀y∈scope.names,y.2=.free→∃c,X.env.cells.lookup y.1=some c:=fun y hy e=>by
  rcases ok.free y hy e with k|k
  ·exact I.ok.has _ (.inl k)
  ·exact I.ok.has _ (.inr k)
 refine wpAny_comprehension_free (use:=use) rfl hs (J7 hfree) ok.kind (fun y hy e=>by rw[ok.uniq y hy,e])
  (dH (hi pins s σ H _ I h) fun xv s1 hx=>dH hx fun itv s2 h2=>?_)
 obtain⟨it,fp,tn,J,H2,e,I2,T,st2,f2,q⟩:=h2;subst e;refine wpAny_newObj_type (Gd ?_) (by show 0≤sizeLine;decide);generalize hD:s2.heap.objs.size=D;have hDn:H2 D=none:=I2.hok.fresh (le_of_eq hD);obtain⟨W,⟨m0,w0⟩,turn⟩:=q D hDn;generalize hs3:({ s2 with heap:=s2.heap.push { cls:=.type "list",data:=.seq ([]:List Value).toArray } }:Shared)=s3;have I3:Inv X pins σ (upd H2 D (.lst [])) s3:=by
  rw[←hs3];refine I2.laid (t':=s2.toks) (fun b o e=>get?_push_of_some _ e) (le_of_eq hD) ⟨zero_le _,[],0,.nil,?_⟩;rw[←hD];exact get?_push_size _ rfl
 have h3:s3.heap=s2.heap.push { cls:=.type "list",data:=.seq ([]:List Value).toArray }:=by rw[←hs3]
 have sz:∀b∈fp,b<s2.heap.objs.size:=fun b hb=>by
  obtain⟨o,e,_⟩:=T.obj _ _ st2 b hb;exact lt_size e
 have f3:∀b∈fp,wH X pins (upd H2 D (.lst [])) b∧b<s3.heap.objs.size:=fun b hb=>by
  have hlt:=sz b hb;refine⟨⟨?_,(f2 b hb).2⟩,by rw[h3,size_push];exact Nat.lt_succ_of_lt hlt⟩;rw[aj (by rw[←hD];exact ne_of_lt hlt)];exact(f2 b hb).1
 have st3:tn 0 s3.heap:=T.keep _ _ _ st2 fun b _ o e=>by rw[h3];exact get?_push_of_some _ e
 have I4:=Gf I3 ok hN f3;have pg:=hg s3 (upd H2 D (.lst [])) s3.heap.objs.size (cellsFrom (s3.heap.objs.size+1) scope.names (cO X.env.cells scope.names [])) fp;have pt:=ht s3 (upd H2 D (.lst [])) s3.heap.objs.size (cellsFrom (s3.heap.objs.size+1) scope.names (cO X.env.cells scope.names [])) fp;have pe:=he s3 (upd H2 D (.lst [])) s3.heap.objs.size (cellsFrom (s3.heap.objs.size+1) scope.names (cO X.env.cells scope.names [])) fp;show codeAny _ _ (.compStart (.ListComp elt [⟨tg,iter,ifs,0⟩] scope pos) 0 (.ref it) (.ref D) (compEnvC scope (cellsFrom (s3.heap.objs.size+1) scope.names (cO X.env.cells scope.names [])) s3.heap.objs.size X.env)) (compPost (model X.prog X.w) X.A X.xe use Qf (.ref D) s3.heap.objs.size) { s3 with heap:=pushCells (s3.heap.push { cls:=.type "dict",data:=.dict #[] }) scope.names };have nfp:∀b∈fp,(upd H2 D (.lst [])) b=none:=fun b hb=>(f3 b hb).1.1;generalize hce:compEnvC scope (cellsFrom (s3.heap.objs.size+1) scope.names (cO X.env.cells scope.names [])) s3.heap.objs.size X.env=ce at I4 pg pt pe ⊢;have cL:ce.locals=s3.heap.objs.size:=by subst hce;rfl
 generalize hH3:upd H2 D (.lst [])=H3 at I3 I4 pg pt pe w0 nfp f3;generalize hs4:({ s3 with heap:=pushCells (s3.heap.push { cls:=.type "dict",data:=.dict #[] }) scope.names }:Shared)=s4 at I4 ⊢;have st4:tn 0 s4.heap:=T.keep _ _ _ st3 fun b _ o e=>by rw[←hs4];exact pushCells_keeps _ _ _ _ (get?_push_of_some _ e)
 have stat:∀{σ':St}{H':Hp}{s':Shared},Inv (X.blk s3 H3 scope ce fp) [] σ' H' s'→(∀b∈fp,H' b=none)→∀b∈fp,wH (X.blk s3 H3 scope ce fp) [] H' b:=fun {σ' H' s'} I' hn b hb=>
  ⟨hn b hb,(I'.ok.exf b hb).1,I'.ok.Pz b hb,.inl hb,fun x c e=>(I'.ok.exf b hb).2 x c e,fun p hp=>absurd (show p∈([]:List (Addr×Obj))++[] from hp) (by simp)⟩
 have loop:codeAny (model X.prog X.w) X.A (.compLoop (.ListComp elt [⟨tg,iter,ifs,0⟩] scope pos) 0 (.ref it) (.ref D) ce) (compPost (model X.prog X.w) X.A X.xe use Qf (.ref D) s3.heap.objs.size) s4:=by
  refine Ds (fun n s'=>∃i H',Inv (X.blk s3 H3 scope ce fp) [] (wipe σ (own.map (·.2))) H' s'∧tn i s'.heap∧(∀b∈fp,H' b=none)∧W i n H') ?_ m0 ⟨0,H3,I4,st4,nfp,w0⟩;rintro n s5 ⟨i,H5,I5,st5,n5,w5⟩;rcases turn i n H5 w5 with⟨stop,qq⟩|⟨go,Nx,hNx,step⟩
  ·have td:=T.done (X.blk s3 H3 scope ce fp) rfl rfl rfl hc i [] s5 _ H5 (fun _ _=>False) I5 (stat I5 n5) st5 stop;refine Qg td fun r s6 ⟨hr,I6⟩=>?_;subst hr;have I7:Inv X pins σ H5 s6:=I3.call' (ch:=fp) I6.os I6.base I6.hok I6.bare fun b hb=>⟨(f3 b hb).1.2.2.2.1,(f3 b hb).1.2.1,(f3 b hb).1.2.2.2.2.1,(f3 b hb).1.2.2.2.2.2⟩;have nC:H5 s3.heap.objs.size=none:=by
    have z:H5 ce.locals=none:=I6.free;rw[cL]at z;exact z
   obtain⟨m,hn,_⟩:=I6.loc;have hn:s6.heap.Ns ce.locals m:=hn;rw[cL]at hn;exact hRR D s3.heap.objs.size s6 m H5 I7 qq hn (I3.JN (le_refl _) nC)
  ·have ti:=T.item (X.blk s3 H3 scope ce fp) rfl rfl rfl hc i [] s5 _ H5 (fun _ _=>False) I5 (stat I5 n5) st5 go;refine Qg ti fun r s6 ⟨u,hr,h6⟩=>?_;subst hr;refine Qg h6 fun _ s7 ⟨x,H7,I7,r7,y7,st7,n7⟩=>?_;have I7':=I7.pinned (stat I7 n7) (T.obj _ _ st7);refine Qg (pg _ s7 _ H7 x u _ I7' r7 (step x H7 y7)) fun _ s8 ⟨σ8,H8,I8,hw8,q8⟩=>?_;refine Qg (pt _ s8 σ8 H8 _ I8 q8) fun b s9 ⟨H9,I9,q9⟩=>?_;have fin:∀{s':Shared}{H':Hp},Inv (X.blk s3 H3 scope ce fp) ([]++xY fp s7.heap) σ8 H' s'→Nx H'→∃m,m<n∧∃i H',Inv (X.blk s3 H3 scope ce fp) [] (wipe σ (own.map (·.2))) H' s'∧tn i s'.heap∧(∀b∈fp,H' b=none)∧W i m H':=fun {s' H'} I' nx=>by
    obtain⟨m',hm,w'⟩:=hNx H' nx;have ab7:∀b∈fp,∀o,s7.heap.get? b=some o→s'.heap.get? b=some o∧H' b=none:=fun b hb o e=>
     let z:=I'.pin (b,o) (mem_append_right _ (mem_append_right _ (rT hb e)))
     ⟨z.1,z.2.1⟩
    have hl:(wipe σ (own.map (·.2))).length=σ8.length:=by rw[←hw8,pZ]
    refine⟨m',hm,i+1,H',(I'.tX (pins:=[])).weak hl (fun j v e=>?_),T.keep _ _ _ st7 fun b hb o e=>(ab7 b hb o e).1,fun b hb=>?_,w'⟩
    ·rw[←hw8]at e;exact(uY e).1
    ·obtain⟨o,e,_⟩:=T.obj _ _ st7 b hb;exact(ab7 b hb o e).2
   cases b with
   |false=>
    simp only[false_eq_true,if_false]at q9 ⊢;exact fin I9 q9
   |true=>
    simp only[if_true]at q9 ⊢;refine Qg (pe _ s9 σ8 H9 _ I9 q9) fun z s10 ⟨yv,H10,I10,r10,acc,aeU,aeV,nx⟩=>?_;exact ZP (X:=X.blk s3 H3 scope ce fp) I10 aeU aeV r10 fun s11 I11=>fin I11 nx
 exact codeAny_compStart_list loop (T.self X.A 0 _ _ _ st4 loop)
theorem lY{elt tg iter:Expr}{ifs:List Expr}{scope:Scope}{own:List (Str×Nat)}{pos:Pos}{wi:TI}{g:TG}{tt:TT}{te:TE}(hc:X.calm=true)(hN:X.N.Nodup)(hi:PI X tg iter wi)(ok:Ge X.N X.env.scope scope own)(hg:∀(s:Shared)(H:Hp)(C:Addr)(cl:List (Str×Addr))(fp:List Addr),PG (X.blk s H scope (compEnvC scope cl C X.env) fp) tg g)(ht:∀(s:Shared)(H:Hp)(C:Addr)(cl:List (Str×Addr))(fp:List Addr),PTs (X.blk s H scope (compEnvC scope cl C X.env) fp) ifs tt)(he:∀(s:Shared)(H:Hp)(C:Addr)(cl:List (Str×Addr))(fp:List Addr),PE (X.blk s H scope (compEnvC scope cl C X.env) fp) elt te)(hs:∀x,foldedSetIterable iter X.env x=pure x:=by intro _;rfl) :
  PE X (.ListComp elt [⟨tg,iter,ifs,0⟩] scope pos) (tLc wi g tt te (own.map (·.2))):=by
 intro pins s σ H Q I h;rw[eval_ListComp];refine Nm hc hN I hi ok hg ht he hs h fun D C s' m H' I' q hn f=>⟨m,hn,fun h'' sb=>?_⟩;obtain⟨f0,f1,f2,f3,f4,f5⟩:=f;exact⟨.ref D,H',I'.turned (t':=s'.toks) (fun b o hb e=>(sb.2 b hb).trans e) f0 f1 f3 f4 f5,rfl,q⟩
theorem Gh{i:Nat}{y:Str}{py:Pos}{elt tg iter:Expr}{ifs:List Expr}{scope:Scope}{own:List (Str×Nat)}{pos spos:Pos}{wi:TI}{g:TG}{tt:TT}{te:TE}(hc:X.calm=true)(hN:X.N.Nodup)(hy:X.N[i]?=some y)(hyl:X.env.scope.names.lookup y=some .local)(hsw:swapsWith (.ListComp elt [⟨tg,iter,ifs,0⟩] scope pos) (some (.Name y py)) spos.line X.env=pure true)(hi:PI X tg iter wi)(ok:Ge X.N X.env.scope scope own)(hg:∀(s:Shared)(H:Hp)(C:Addr)(cl:List (Str×Addr))(fp:List Addr),PG (X.blk s H scope (compEnvC scope cl C X.env) fp) tg g)(ht:∀(s:Shared)(H:Hp)(C:Addr)(cl:List (Str×Addr))(fp:List Addr),PTs (X.blk s H scope (compEnvC scope cl C X.env) fp) ifs tt)(he:∀(s:Shared)(H:Hp)(C:Addr)(cl:List (Str×Addr))(fp:List Addr),PE (X.blk s H scope (compEnvC scope cl C X.env) fp) elt te)(hs:∀x,foldedSetIterable iter X.env x=pure x:=by intro _;rfl) :
  PS X (.Assign [.Name y py] (.ListComp elt [⟨tg,iter,ifs,0⟩] scope pos) spos) (abS (tLc wi g tt te (own.map (·.2))) (M8 i)):=by
 intro pins s σ H D I h;rw[exec_Assign_Name_used _ _ _ _ hsw];refine wpAny_bind (wpAny_standAt (wpAny_bind ?_));show wpAny _ X.A (do let _ ←comprehension (.ListComp elt [⟨tg,iter,ifs,0⟩] scope pos) scope X.env (firstIterPos [⟨tg,iter,ifs,0⟩] pos) (newList []) false (eval iter X.env) (some (assign (.Name y py) X.env))) _ _ s;have h:tLc wi g tt te (own.map (·.2)) σ H (fun x H1=>M8 i x σ H1 D.nx):=h;refine wpAny_bind (dH (Nm (Qf:=fun _ s'=>SP X pins D .next s') hc hN I hi ok hg ht he hs h fun L C s' m H' I' q hn f=>?_) fun _ s' hq=>wpAny_pure (wpAny_pure hq));show wpAny _ _ (assign (.Name y py) X.env (.ref L)) _ _ _;refine wpAny_assign_Name (Bu (v:=V.ref L) I' hN hy (.inl hyl) rfl (fun s2 I2 ⟨a,sb,ha⟩=>?_) (.inr hyl));obtain⟨f0,f1,f2,f3,f4,f5⟩:=f;have haC:C≠a:=by
  rcases ha with z|z
  ·rw[z];exact f1
  ·exact fun e=>f4 y a z e.symm
 refine⟨m,hn.sameBut sb haC,fun h3 sb3=>?_⟩;exact⟨_,H',I2.turned (t':=s2.toks) (fun b o hb e=>(sb3.2 b hb).trans e) f0 f1 f3 f4 f5,q⟩
theorem Np{elt:Expr}{gs:List Comprehension}{scope:Scope}{pos py:Pos}{y:Str}{l:Nat}{env:Env}(hk:env.scope.kind=.function)(hy:env.scope.names.lookup y=some .local)(hl:(py.line==pos.line)=true)(ha:(scope.names.any fun (n,k)=>n==y&&(k==.local||k==.cell))=false):swapsWith (.ListComp elt gs scope pos) (some (.Name y py)) l env=pure true:=by
 have ky:env.kindOf y=some .local:=hy;have hb:env.blockKind=.function:=by unfold Env.blockKind;rw[hk];rfl
 unfold swapsWith;simp only[hb,ky,ha,Expr.pos,hl];rfl
end
theorem Gi{lo:Int}{n:Nat}{g:TG}{tt:TT}{te:TE}{vs:List Nat}{σ:St}{H1:Hp}{D:Addr}{Qd:Hp→Prop}(Pv:Nat→Hp→Prop)(h0:Pv 0 (upd H1 D (.lst [])))(hs:∀i H,i<n→Pv i H→g (.int (lo+i)) (wipe σ vs) H fun σ2 H2=>wipe σ2 vs=wipe σ vs∧tt σ2 H2 fun b H3=>
   if b=true then te σ2 H3 fun y H4=>∃acc,H4 D=some (.lst acc)∧acc.length<sizeLine∧Pv (i+1) (upd H4 D (.lst (acc++[y]))) else Pv (i+1) H3)(hd:∀H,Pv n H→Qd H) :
  ∃W:Nat→Nat→Hp→Prop,(∃m,W 0 m (upd H1 D (.lst [])))∧∀i m H,W i m H →
   ((Zu lo n).stop i H∧Qd H)∨((Zu lo n).go i H∧∃Nx:Hp→Prop,(∀H',Nx H'→∃m',m'<m∧W (i+1) m' H')∧∀x H',(Zu lo n).Wq i H x H'→g x (wipe σ vs) H' fun σ2 H2=>wipe σ2 vs=wipe σ vs∧tt σ2 H2 fun b H3=>
    if b=true then te σ2 H3 fun y H4=>∃acc,H4 D=some (.lst acc)∧acc.length<sizeLine∧Nx (upd H4 D (.lst (acc++[y]))) else Nx H3):=by
 refine⟨fun i m H=>m=n-i∧i≤n∧Pv i H,⟨n,by simp,zero_le _,h0⟩,?_⟩;rintro i m H ⟨rfl,hi,p⟩;by_cases hlt:i<n
 ·refine .inr ⟨hlt,Pv (i+1),fun H' p'=>⟨n-(i+1),by omega,rfl,hlt,p'⟩,fun x H' y=>?_⟩;obtain⟨e,y⟩:=y;subst e y;exact hs i _ hlt p
 ·have e:i=n:=by omega
  subst e;exact .inl ⟨le_refl _,hd H p⟩
theorem gZ{K:PySem.W.Frag}{a:Addr}{xs:List V}{g:TG}{tt:TT}{te:TE}{vs:List Nat}{σ:St}{H1:Hp}{D:Addr}{Qd:Hp→Prop}(Pv:Nat→Hp→Prop)(h0:Pv 0 (upd H1 D (.lst [])))(hl:∀i H,i≤xs.length→Pv i H→bJ K H a xs)(hs:∀i x H,xs[i]?=some x→Pv i H→g x (wipe σ vs) H fun σ2 H2=>wipe σ2 vs=wipe σ vs∧tt σ2 H2 fun b H3=>
   if b=true then te σ2 H3 fun y H4=>∃acc,H4 D=some (.lst acc)∧acc.length<sizeLine∧Pv (i+1) (upd H4 D (.lst (acc++[y]))) else Pv (i+1) H3)(hd:∀H,Pv xs.length H→Qd H) :
  ∃W:Nat→Nat→Hp→Prop,(∃m,W 0 m (upd H1 D (.lst [])))∧∀i m H,W i m H →
   ((YJ K a).stop i H∧Qd H)∨((YJ K a).go i H∧∃Nx:Hp→Prop,(∀H',Nx H'→∃m',m'<m∧W (i+1) m' H')∧∀x H',(YJ K a).Wq i H x H'→g x (wipe σ vs) H' fun σ2 H2=>wipe σ2 vs=wipe σ vs∧tt σ2 H2 fun b H3=>
    if b=true then te σ2 H3 fun y H4=>∃acc,H4 D=some (.lst acc)∧acc.length<sizeLine∧Nx (upd H4 D (.lst (acc++[y]))) else Nx H3):=by
 refine⟨fun i m H=>m=xs.length-i∧i≤xs.length∧Pv i H,⟨xs.length,by simp,zero_le _,h0⟩,?_⟩;rintro i m H ⟨rfl,hi,p⟩;have q:=hl i H hi p;by_cases hlt:i<xs.length
 ·refine .inr ⟨⟨xs,xs[i],q,by simp[hlt]⟩,Pv (i+1),fun H' p'=>⟨xs.length-(i+1),by omega,rfl,hlt,p'⟩,fun x H' y=>?_⟩;obtain⟨e,y⟩:=y;subst e;exact hs i x _ (y xs q) p
 ·have e:i=xs.length:=by omega
  subst e;exact .inl ⟨⟨xs,q,le_refl _⟩,hd H p⟩
def pN(N:List Str)(sc scope:Scope)(own:List (Str×Nat)):Bool:=
 (match scope.kind with | .function=>true|_=>false)&&(scope.names.all fun y=>decide (scope.names.lookup y.1=some y.2))&&(own.all fun p=>decide (N[p.2]?=some p.1)) &&
  (scope.names.all fun y=>match y.2 with
   | .free=>(match sc.names.lookup y.1 with|some .cell=>true|some .free=>true|_=>false)
   | .local=>decide (y.1∈own.map (·.1))||decide (y.1∉N)
   | .cell=>decide (y.1∈own.map (·.1))||decide (y.1∉N)
   |_=>true)
theorem cU{N:List Str}{sc scope:Scope}{own:List (Str×Nat)}(h:pN N sc scope own=true):Ge N sc scope own:=by
 unfold pN at h;simp only[and_eq_true,all_eq_true,decide_eq_true_eq]at h;obtain⟨⟨⟨h1,h2⟩,h3⟩,h4⟩:=h;refine⟨?_,h2,h3,fun y hy e=>?_,fun y hy e=>?_⟩
 ·split at h1
  ·assumption
  ·cases h1
 ·have q:=h4 y hy;simp only[e]at q;split at q<;>first|exact .inl (by assumption)|exact .inr (by assumption)|cases q
 ·have q:=h4 y hy;rcases e with e|e<;>(simp only[e,Bool.or_eq_true,decide_eq_true_eq]at q;exact q)
section
variable{κ:Type}[DecidableEq κ]
def lR(kvs:List (κ×V))(k:κ):Option V:=(kvs.find? fun kv=>decide (kv.1=k)).map (·.2)
def putK(kvs:List (κ×V))(k:κ)(v:V):List (κ×V):=
 if (kvs.any fun kv=>decide (kv.1=k))=true then kvs.map (fun kv=>if kv.1=k then (kv.1,v) else kv) else kvs++[(k,v)]
theorem yt{p:κ×V}{r:List (κ×V)}{k:κ}(e:p.1=k):lR (p::r) k=some p.2:=by simp[lR,find?_cons,e]
theorem yu{p:κ×V}{r:List (κ×V)}{k:κ}(e:¬p.1=k):lR (p::r) k=lR r k:=by simp[lR,find?_cons,e]
theorem yw(k:κ):∀kvs:List (κ×V),(kvs.any fun kv=>decide (kv.1=k))=(lR kvs k).isSome
 | []=>rfl
 |p::r=>by
  rw[any_cons];by_cases e:p.1=k
  ·simp only[yt e,decide_eq_true e,Bool.true_or,isSome_some]
  ·rw[yu e,decide_eq_false e,Bool.false_or];exact yw k r
theorem ju(kvs:List (κ×V))(k:κ)(v:V):(putK kvs k v).length≤kvs.length+1:=by
 unfold putK;split
 ·rw[length_map];omega
 ·rw[length_append,length_cons,length_nil];omega
theorem Te{kvs:List (κ×V)}{k:κ}(v:V)(h:lR kvs k=none):putK kvs k v=kvs++[(k,v)]:=by
 unfold putK;rw[yw,h];exact if_neg (by decide)
theorem oE.nu{o:Option V}{u:Option Value}(r:oE o u):o.isSome=u.isSome:=by
 cases o with
 |none=>cases u with
  |none=>rfl
  |some _=>exact(show False from r).elim
 |some _=>cases u with
  |none=>exact(show False from r).elim
  |some _=>rfl
theorem oE.getD{o:Option V}{u:Option Value}{d:V}{d':Value}(r:oE o u)(rd:RelV d d'):RelV (o.getD d) (u.getD d'):=by
 cases o with
 |none=>cases u with
  |none=>exact rd
  |some _=>exact(show False from r).elim
 |some _=>cases u with
  |none=>exact(show False from r).elim
  |some _=>exact r
theorem KV.val{kvs:List (κ×V)}{vs:List (κ×Value)}(r:KV kvs vs)(k:κ):oE (lR kvs k) (valueAt vs k):=by
 unfold KV at r
 induction r with
 |nil=>exact True.intro
 | @cons p q ps qs h t ih=>
  obtain⟨h1,h2⟩:=h;by_cases e:p.1=k
  ·have e':q.1=k:=h1.symm.trans e;have b:valueAt (q::qs) k=some q.2:=by simp[valueAt,find?_cons,e']
   rw[yt e,b];exact h2
  ·have e':¬q.1=k:=fun z=>e (h1.trans z);have b:valueAt (q::qs) k=valueAt qs k:=by simp[valueAt,find?_cons,e']
   rw[yu e,b];exact ih
theorem KV.any{kvs:List (κ×V)}{vs:List (κ×Value)}(r:KV kvs vs)(k:κ):(kvs.any fun kv=>decide (kv.1=k))=vs.any fun kv=>decide (kv.1=k):=by
 unfold KV at r
 induction r with
 |nil=>rfl
 |cons h t ih=>rw[any_cons,any_cons,ih,h.1]
theorem KV.repl{kvs:List (κ×V)}{vs:List (κ×Value)}(r:KV kvs vs)(k:κ){y:V}{u:Value}(ry:RelV y u) :
  KV (kvs.map fun kv=>if kv.1=k then (kv.1,y) else kv) (vs.map fun kv=>if kv.1=k then (kv.1,u) else kv):=by
 unfold KV at r ⊢
 induction r with
 |nil=>exact .nil
 | @cons p q ps qs h t ih=>
  rw[map_cons,map_cons];refine .cons ?_ ih;obtain⟨h1,h2⟩:=h;by_cases e:p.1=k
  ·rw[if_pos e,if_pos (h1.symm.trans e)];exact⟨h1,ry⟩
  ·rw[if_neg e,if_neg (fun z=>e (h1.trans z))];exact⟨h1,h2⟩
theorem KV.put{kvs:List (κ×V)}{vs:List (κ×Value)}(r:KV kvs vs)(k:κ){y:V}{u:Value}(ry:RelV y u):KV (putK kvs k y) (stored vs k u):=by
 unfold putK stored;rw[r.any k];by_cases e:(vs.any fun kv=>decide (kv.1=k))=true
 ·rw[if_pos e,if_pos e];exact r.repl k ry
 ·rw[if_neg e,if_neg e];exact Paired.snoc r ⟨rfl,ry⟩
theorem KV.length{kvs:List (κ×V)}{vs:List (κ×Value)}(r:KV kvs vs):kvs.length=vs.length:=Paired.length r
end
theorem yx{P:Program}{w:World}{k:Key}{u:Value}(r:RelV (kV k) u):(cN P w).is k u=true:=by
 cases k with
 |inl i=>obtain⟨t,e⟩:=(show ∃t,u=Value.int i t from r);subst e;exact Fj P w i t
 |inr x=>obtain⟨t,e⟩:=(show ∃t,u=Value.str x t from r);subst e;exact Fo P w x t
theorem Ca{P:Program}{w:World}:∀{ks:List Key}{us:List Value},Vals (ks.map kV) us→ItemsAre (cN P w) ks us
 | [],_,r=>by rw[map_nil]at r;cases r;exact .nil
 |k::ks,_,r=>by
  rw[map_cons]at r;cases r with
  |cons h t=>exact .cons (yx h) (Ca t)
abbrev KT(H:Hp):List (List Key×V)→List (List Key×Addr×Value)→Prop:=Paired fun p q=>p.1=q.1∧H q.2.1=some (.tup (p.1.map kV))∧RelV p.2 q.2.2
theorem KT.val{H:Hp}{kvs:List (List Key×V)}{xs:List (List Key×Addr×Value)}(r:KT H kvs xs)(k:List Key):oE (lR kvs k) ((atKey xs k).map (·.2)):=by
 induction r with
 |nil=>exact True.intro
 | @cons p q ps qs h t ih=>
  obtain⟨h1,_,h2⟩:=h;by_cases e:p.1=k
  ·have e':q.1=k:=h1.symm.trans e;have b:atKey (q::qs) k=some q.2:=by simp[atKey,find?_cons,e']
   rw[yt e,b];exact h2
  ·have e':¬q.1=k:=fun z=>e (h1.trans z);have b:atKey (q::qs) k=atKey qs k:=by simp[atKey,find?_cons,e']
   rw[yu e,b];exact ih
theorem KT.repl{H:Hp}{kvs:List (List Key×V)}{xs:List (List Key×Addr×Value)}(r:KT H kvs xs)(k:List Key){y:V}{u:Value}(ry:RelV y u) :
  KT H (kvs.map fun kv=>if kv.1=k then (kv.1,y) else kv) (xs.map (putAt k u)):=by
 induction r with
 |nil=>exact .nil
 | @cons p q ps qs h t ih=>
  rw[map_cons,map_cons];refine .cons ?_ ih;obtain⟨h1,h2,h3⟩:=h;unfold putAt;by_cases e:p.1=k
  ·rw[if_pos e,if_pos (h1.symm.trans e)];exact⟨h1,h2,ry⟩
  ·rw[if_neg e,if_neg (fun z=>e (h1.trans z))];exact⟨h1,h2,h3⟩
theorem KT.put{H:Hp}{kvs:List (List Key×V)}{xs:List (List Key×Addr×Value)}(r:KT H kvs xs)(k:List Key){b:Addr}{y:V}{u:Value}(hb:H b=some (.tup (k.map kV)))(ry:RelV y u) :
  KT H (putK kvs k y) (storedH xs k b u):=by
 have e:(kvs.any fun kv=>decide (kv.1=k))=(atKey xs k).isSome:=by
  rw[yw,(r.val k).nu,isSome_map]
 unfold putK storedH;rw[e];by_cases q:(atKey xs k).isSome=true
 ·rw[if_pos q,if_pos q];exact r.repl k ry
 ·rw[if_neg q,if_neg q];exact Paired.snoc r ⟨rfl,hb,ry⟩
theorem KT.keeps{H H':Hp}{kvs:List (List Key×V)}{xs:List (List Key×Addr×Value)}(r:KT H kvs xs)(ht:∀b ys,H b=some (.tup ys)→H' b=some (.tup ys)):KT H' kvs xs:=
 Paired.RN r fun _ _ z=>⟨z.1,ht _ _ z.2.1,z.2.2⟩
section
variable{P:Program}{w:World}{H:Hp}{h:Heap}{a:Addr}
theorem YL{u:HO}(ok:oF P w H h)(e:Rd H a u):eZ P w H h a u:=e.ok ok
theorem yC{kvs:List (Key×V)}(ok:oF P w H h)(e:Rd H a (.dK kvs)):kvs.length≤sizeLine∧(a==sysModules)=false∧∃vs,KV kvs vs∧h.DictOf (cN P w) a vs:=
 show eZ P w H h a (.dK kvs) from YL ok e
theorem ab8{kvs:List (Key×V)}(ok:oF P w H h)(e:H a=some (.dK kvs)):kvs.length≤sizeLine∧(a==sysModules)=false∧∃vs,KV kvs vs∧h.DictOf (cN P w) a vs:=yC ok (.inl e)
theorem uZ{ks:List Key}(ok:oF P w H h)(e:H a=some (.tup (ks.map kV))):(tupleKind (cN P w)).is h ks a:=by
 obtain⟨_,its,r,o,h1,h2,n,h3⟩:=(show eZ P w H h a (.tup (ks.map kV)) from ok a _ e);exact⟨o,its.toArray,n,h1,h2,h3,by simpa using Ca r⟩
theorem yD{kvs:List (List Key×V)}(ok:oF P w H h)(e:Rd H a (.dT kvs)):kvs.length≤sizeLine∧(a==sysModules)=false ∧
  ∃xs,KT H kvs xs∧h.DictOfH (tupleKind (cN P w)) a xs:=by
 obtain⟨z,y,xs,r,o,es,ep,h1,h2,h3,h4,h5⟩:=(show eZ P w H h a (.dT kvs) from YL ok e);refine⟨z,y,xs,r,o,es,ep,h1,h2,h3,h4,fun x hx=>?_,h5⟩;have all:∀{l:List (List Key×V)}{m:List (List Key×Addr×Value)},KT H l m→∀x∈m,(tupleKind (cN P w)).is h x.1 x.2.1:=by
  intro l m q
  induction q with
  |nil=>intro x hx;exact nomatch hx
  | @cons p q ps qs hq t ih=>
   intro x hx;rcases mem_cons.mp hx with e|hx
   ·subst e;exact uZ ok (by rw[←hq.1];exact hq.2.1)
   ·exact ih x hx
 exact all r x hx
theorem ab9{kvs:List (List Key×V)}(ok:oF P w H h)(e:H a=some (.dT kvs)):kvs.length≤sizeLine∧(a==sysModules)=false ∧
  ∃xs,KT H kvs xs∧h.DictOfH (tupleKind (cN P w)) a xs:=yD ok (.inl e)
end
def rD(H:Hp)(a:Addr)(y:V)(r:Option V):Prop:=
 (∃kvs k,Rd H a (.dK kvs)∧y=kV k∧r=lR kvs k)∨∃kvs k b,Rd H a (.dT kvs)∧y=.ref b∧H b=some (.tup (k.map kV))∧r=lR kvs k
def J8(H:Hp)(a:Addr)(y v:V)(H':Hp):Prop:=
 (∃kvs k,H a=some (.dK kvs)∧y=kV k∧kvs.length<sizeLine∧H'=upd H a (.dK (putK kvs k v))) ∨
 ∃kvs k b,H a=some (.dT kvs)∧y=.ref b∧H b=some (.tup (k.map kV))∧kvs.length<sizeLine∧H'=upd H a (.dT (putK kvs k v))
theorem rD.k{H:Hp}{a:Addr}{kvs:List (Key×V)}{k:Key}(e:H a=some (.dK kvs)):rD H a (kV k) (lR kvs k):=.inl ⟨kvs,k,.inl e,rfl,rfl⟩
theorem J8.k{H:Hp}{a:Addr}{kvs:List (Key×V)}{k:Key}{v:V}(e:H a=some (.dK kvs))(hl:kvs.length<sizeLine):J8 H a (kV k) v (upd H a (.dK (putK kvs k v))):=.inl ⟨kvs,k,e,rfl,hl,rfl⟩
section
variable{X:Cx}{pins:List (Addr×Obj)}{σ:St}{H:Hp}{s:Shared}{a:Addr}{y v:V}{u r:Value}{o:Option V}{A:Around}{E:Value→Shared→Prop}
theorem Inv.big(I:Inv X pins σ H s):sysModules<s.heap.objs.size:=by
 have h:mainGlobals<s.heap.objs.size:=(I.mod.glob.keeps I.bk).lt;exact lt_trans (by decide) h
theorem Qh{Q:Value→Shared→Prop}(hu:A.units+1<cLine)(I:Inv X pins σ H s)(g:rD H a y (some v))(ry:RelV y u)(h:∀w' s',Inv X pins σ H s'→RelV v w'→Q w' s') :
  wpAny (model X.prog X.w) A (getItem (.ref a) u) Q E s:=by
 rcases g with⟨kvs,k,e,ey,l⟩|⟨kvs,k,b,e,ey,eb,l⟩
 ·subst ey;obtain⟨z,hd,vs,rel,dd⟩:=yC I.hok e;obtain⟨w',hw,SN⟩:=oE.some_of (v:=v) (o:=valueAt vs k) (by rw[l];exact rel.val k);exact wpAny_getItem_of (yx ry) dd.mapOf hw (h w' _ (I.tok _) SN)
 ·subst ey;cases (show u=Value.ref b from ry);obtain⟨z,hd,xs,rel,dd⟩:=yD I.hok e;obtain⟨w',hw,SN⟩:=oE.some_of (v:=v) (o:=(atKey xs k).map (·.2)) (by rw[l];exact rel.val k);obtain⟨p,hp,hp2⟩:=map_eq_some_iff.mp hw;refine wpAny_getItem_heap (tupleKind_room_in1 hu) (uZ I.hok eb) dd hp ?_;rw[hp2];exact h w' _ (I.tok _) SN
theorem aeW{Q:Value→Shared→Prop}(hu:A.units+1<cLine)(I:Inv X pins σ H s)(g:rD H a y o)(ry:RelV y u)(h:∀s',Inv X pins σ H s'→Q (.bool o.isSome) s') :
  wpAny (model X.prog X.w) A (compareOp .In u (.ref a)) Q E s:=by
 rcases g with⟨kvs,k,e,ey,l⟩|⟨kvs,k,b,e,ey,eb,l⟩
 ·subst ey;obtain⟨z,hd,vs,rel,dd⟩:=yC I.hok e;refine wpAny_in_of (yx ry) hd dd.mapOf ?_;rw[←(rel.val k).nu,←l];exact h _ (I.tok _)
 ·subst ey;cases (show u=Value.ref b from ry);obtain⟨z,hd,xs,rel,dd⟩:=yD I.hok e;refine wpAny_in_heap (tupleKind_room_in1 hu) (uZ I.hok eb) hd dd ?_;have q:=(rel.val k).nu;rw[isSome_map]at q;rw[←q,←l];exact h _ (I.tok _)
theorem W6{Q:Value→Shared→Prop}(hu:A.units+1<cLine)(I:Inv X pins σ H s)(g:rD H a y o)(ry:RelV y u)(h:∀s',Inv X pins σ H s'→Q (.bool (!o.isSome)) s') :
  wpAny (model X.prog X.w) A (compareOp .NotIn u (.ref a)) Q E s:=by
 rcases g with⟨kvs,k,e,ey,l⟩|⟨kvs,k,b,e,ey,eb,l⟩
 ·subst ey;obtain⟨z,hd,vs,rel,dd⟩:=yC I.hok e;refine wpAny_notIn_of (yx ry) hd dd.mapOf ?_;rw[←(rel.val k).nu,←l];exact h _ (I.tok _)
 ·subst ey;cases (show u=Value.ref b from ry);obtain⟨z,hd,xs,rel,dd⟩:=yD I.hok e;refine wpAny_notIn_heap (tupleKind_room_in1 hu) (uZ I.hok eb) hd dd ?_;have q:=(rel.val k).nu;rw[isSome_map]at q;rw[←q,←l];exact h _ (I.tok _)
theorem Nq{h':Heap}{t':Nat}{ob:HO}(I:Inv X pins σ H s)(mu:Mut (H a))(hs:Heap.SameBut a s.heap h')(he:∃q,h'.get? a=some q)(new:eZ X.prog X.w (upd H a ob) h' a ob) :
  Inv X pins σ (upd H a ob) { s with heap:=h',toks:=t' }:=
 I.write (x:=a) (e:=a) mu (.inl rfl) (fun b q hb z=>(hs.2 b hb).trans z) he new
theorem ZQ{P:Program}{w:World}{H':Hp}{h':Heap}{kvs:List (Key×V)}{vs:List (Key×Value)}(z:kvs.length≤sizeLine)(hd:(a==sysModules)=false)(rel:KV kvs vs)(dd:h'.DictOf (cN P w) a vs) :
  eZ P w H' h' a (.dK kvs):=⟨z,hd,vs,rel,dd⟩
theorem Qi{H':Hp}{Q:Unit→Shared→Prop}(hu:A.units+1<cLine)(I:Inv X pins σ H s)(g:J8 H a y v H')(ry:RelV y u)(rv:RelV v r)(h:∀s',Inv X pins σ H' s'→Q () s') :
  wpAny (model X.prog X.w) A (setItem (.ref a) u r) Q E s:=by
 rcases g with⟨kvs,k,e,ey,l,eH⟩|⟨kvs,k,b,e,ey,eb,l,eH⟩
 ·subst ey eH;obtain⟨z,hd,vs,rel,dd⟩:=ab8 I.hok e;have hz:vs.length≤sizeLine:=by rw[←rel.length];exact z
  have hl:(putK kvs k v).length≤sizeLine:=by have:=ju kvs k v;omega
  refine wpAny_setItem_pairs (hsz:=hz) (yx ry) dd fun h' dd' hs=>h _ ?_;have he:∃q,h'.get? a=some q:=let ⟨q,_,_,hq,_⟩:=dd';⟨q,hq⟩;exact Nq I (by rw[e];exact True.intro) hs he (ZQ hl hd (rel.put k rv) dd')
 ·subst ey eH;cases (show u=Value.ref b from ry);obtain⟨z,hd,xs,rel,dd⟩:=ab9 I.hok e;have hz:xs.length≤sizeLine:=by rw[←Paired.length rel];exact z
  have hl:(putK kvs k v).length≤sizeLine:=by have:=ju kvs k v;omega
  refine wpAny_setItem_heap (hsz:=hz) (tupleKind_room_in1 hu) (uZ I.hok eb) dd fun h' dd' hs=>h _ ?_;obtain⟨q,es,ep,hq,h2,h3,h4,_,h5⟩:=dd';refine Nq I (by rw[e];exact True.intro) hs ⟨q,hq⟩ ⟨hl,hd,_,(rel.put k eb rv).keeps fun c ys ec=>?_,q,es,ep,hq,h2,h3,h4,h5⟩;rw[aj (iW ec e (fun z=>nomatch z))];exact ec
end
def acd(i:Expr):Prop:=∀ov iv,subscripted i false ov iv=operate [ov,iv] (getItem ov iv)
theorem W7{prog:Program}{w:World}{A:Around}{E:Value→Shared→Prop}{s:Shared}{env:Env}{value slice:Expr}{pos:Pos}{T id:String}{Q:Value→Shared→Prop}(hl:typeLookup (.type T) "__getitem__"=pure (some (.builtin id)))(hs:acd slice)(h:wpAny (model prog w) A (eval value env) (fun o s₁=>wpAny (model prog w) A (eval slice env) (fun i s₂=>s₂.TypeIs o T∧wpAny (model prog w) A (getItem o i) Q E s₂) E s₁) E s) :
  wpAny (model prog w) A (eval (.Subscript value slice pos) env) Q E s:=by
 refine Subscript_ (wpAny_mono h (fun o s₁ h₁=>wpAny_mono h₁ (fun i s₂ h₂=>?_) fun _ _ x=>x) fun _ _ x=>x);obtain⟨hT,h₂⟩:=h₂;unfold subscriptTail;refine wpAny_bind ?_;rw[getitemInPython_of_ne hT.not_modules];refine wpAny_bind (wpAny_specialOf hT hl ?_);have fin:wpAny (model prog w) A (subscripted slice false o i) (fun r s₃=>wpAny (model prog w) A (letTemporaryGo value o r >>= fun _=>pure r) Q E s₃) E s₂:=by
  rw[hs o i];exact wpAny_operating (wpAny_mono h₂ (fun r s₃ h₃=>wpAny_bind (wpAny_letTemporaryGo (wpAny_pure h₃))) fun _ _ x=>x)
 first
  |exact wpAny_pure (wpAny_bind fin)
  |exact wpAny_bind (wpAny_pure (wpAny_bind fin))
  |exact wpAny_bind fin
theorem Gj{X:Cx}{pins:List (Addr×Obj)}{σ:St}{H:Hp}{s:Shared}{a:Addr}{y:V}{o:Option V}(I:Inv X pins σ H s)(g:rD H a y o):s.TypeIs (.ref a) "dict":=by
 rcases g with⟨kvs,k,e,_,_⟩|⟨kvs,k,b,e,_,_,_⟩
 ·obtain⟨_,_,vs,_,dd⟩:=yC I.hok e;exact dd.typeIs
 ·obtain⟨_,_,xs,_,dd⟩:=yD I.hok e;exact dd.typeIs
def ace(td ty:TE):TE:=fun σ H Q=>td σ H fun x H1=>ty σ H1 fun y H2=>∃a v,x=.ref a∧rD H2 a y (some v)∧Q v H2
def aeX(ty td:TE):TE:=fun σ H Q=>ty σ H fun y H1=>td σ H1 fun x H2=>∃a o,x=.ref a∧rD H2 a y o∧Q (.bl o.isSome) H2
def W8(ty td:TE):TE:=fun σ H Q=>ty σ H fun y H1=>td σ H1 fun x H2=>∃a o,x=.ref a∧rD H2 a y o∧Q (.bl (!o.isSome)) H2
def acf(td ty tv:TE):TS:=fun D σ H=>tv σ H fun v H1=>td σ H1 fun x H2=>ty σ H2 fun y H3=>∃a H4,x=.ref a∧J8 H3 a y v H4∧D.nx σ H4
section
variable{X:Cx}{o i e value:Expr}{pos pos' tpos:Pos}{td ty tv:TE}
theorem W9(hu:X.A.units+1<cLine)(ho:PE X o td)(hi:PE X i ty)(hs:acd i):PE X (.Subscript o i pos) (ace td ty):=by
 intro pins s σ H Q I h;refine W7 PySem.F.slot_dict_getitem.lookup hs (dH (ho pins s σ H _ I h) fun u s1 ⟨x,H1,I1,rx,q1⟩=>dH (hi pins s1 σ H1 _ I1 q1) fun iv s2 ⟨y,H2,I2,ry,a,v,ex,g,q2⟩=>?_);subst ex;obtain rfl:u=Value.ref a:=rx;exact⟨Gj I2 g,Qh hu I2 g ry fun w' s3 I3 SN=>⟨v,H2,I3,SN,q2⟩⟩
theorem ZR(hu:X.A.units+1<cLine)(hi:PE X i ty)(ho:PE X o td):PC X .In i o (aeX ty td):=by
 intro pins s σ H Q I h;refine dH (hi pins s σ H _ I h) fun iv s1 ⟨y,H1,I1,ry,q1⟩=>dH (ho pins s1 σ H1 _ I1 q1) fun u s2 ⟨x,H2,I2,rx,a,ov,ex,g,q2⟩=>?_;subst ex;obtain rfl:u=Value.ref a:=rx;exact aeW hu I2 g ry fun s3 I3=>⟨.bl ov.isSome,H2,I3,rfl,q2⟩
theorem Qj(hu:X.A.units+1<cLine)(hi:PE X i ty)(ho:PE X o td):PC X .NotIn i o (W8 ty td):=by
 intro pins s σ H Q I h;refine dH (hi pins s σ H _ I h) fun iv s1 ⟨y,H1,I1,ry,q1⟩=>dH (ho pins s1 σ H1 _ I1 q1) fun u s2 ⟨x,H2,I2,rx,a,ov,ex,g,q2⟩=>?_;subst ex;obtain rfl:u=Value.ref a:=rx;exact W6 hu I2 g ry fun s3 I3=>⟨.bl (!ov.isSome),H2,I3,rfl,q2⟩
theorem Dt(hu:X.A.units+1<cLine)(ho:PE X o td)(hi:PE X i ty)(hv:PE X value tv)(hs:swapsWith value (some (.Subscript o i pos')) pos.line X.env=pure false) :
  PS X (.Assign [.Subscript o i pos'] value pos) (acf td ty tv):=by
 intro pins s σ H D I h;refine wpAny_Assign_Subscript (dH (hv pins s σ H _ I h) fun r s1 ⟨v,H1,I1,rv,q1⟩=>dH (ho pins s1 σ H1 _ I1 q1) fun u s2 ⟨x,H2,I2,rx,q2⟩=>dH (hi pins s2 σ H2 _ I2 q2) fun iv s3 ⟨y,H3,I3,ry,a,H4,ex,g,q3⟩=>?_) hs;subst ex;obtain rfl:u=Value.ref a:=rx;exact Qi hu I3 g ry rv fun s4 I4=>⟨σ,H4,I4,q3⟩
end
theorem Tf{P:Program}{w:World}{H:Hp}(h:Heap)(hb:sysModules<h.objs.size):eZ P w H (h.push { cls:=.type "dict",data:=.dict #[] }) h.objs.size (.dK []):=
 ⟨zero_le _,beq_eq_false_iff_ne.mpr (Ne.symm (ne_of_lt hb)),[],.nil,Heap.DictOf.new h⟩
def ZS:TE:=fun _ H Q=>∀p,H p=none→Q (.ref p) (upd H p (.dK []))
section
variable{X:Cx}{pos:Pos}
theorem Tg:PE X (.Dict [] [] pos) ZS:=fun pins s σ H Q I h=>
 wpAny_Dict_empty ⟨.ref s.heap.objs.size,_,I.laid (a:=s.heap.objs.size) (o:=.dK []) (t':=s.toks) (fun _ _ q=>get?_push_of_some _ q) (le_refl _) (Tf s.heap I.big),rfl,h _ (I.hok.fresh (le_refl _))⟩
end
def mO(kvs more:List (Key×V)):List (Key×V):=more.foldl (fun acc kv=>putK acc kv.1 kv.2) kvs
theorem KV.merge:∀{more:List (Key×V)}{rs:List (Key×Value)}{kvs:List (Key×V)}{vs:List (Key×Value)},KV more rs→KV kvs vs→KV (mO kvs more) (merged vs rs):=by
 intro more rs kvs vs r;unfold KV at r
 induction r generalizing kvs vs with
 |nil=>intro q;exact q
 | @cons p q ps qs h t ih=>
  intro r0;have e:KV (putK kvs p.1 p.2) (stored vs q.1 q.2):=by
   have:=r0.put p.1 h.2;rw[←h.1];exact this
  exact ih e
theorem rG:∀(more kvs:List (Key×V)),(mO kvs more).length≤kvs.length+more.length
 | [],kvs=>by show kvs.length≤kvs.length+0;omega
 |p::r,kvs=>by
  have h1:=rG r (putK kvs p.1 p.2);have h2:=ju kvs p.1 p.2;show (mO (putK kvs p.1 p.2) r).length≤_;rw[length_cons];omega
structure M2(X:Cx)(o:Expr)(m:Str)(apos:Pos)(e f:Expr)(cpos:Pos):Prop where
 base:attributeBase o m X.env (eval o X.env)=eval o X.env
 few:((backTo cpos (starEach [e,f] X.env)).all (fun x=>!x.1)&&(backToKw cpos (keywordEach [] X.env)).all (fun x=>x.1.isSome)
  && decide (([e,f]:List Expr).length+([]:List Keyword).length+(if ([]:List Keyword).isEmpty then 0 else 1)<30))=true
 line:(apos.endLine==cpos.line)=true
 trees:backTo cpos (starEach [e,f] X.env)=[(false,eval e X.env),(false,eval f X.env)]
def IsD(H:Hp)(a:Addr):Prop:=(∃kvs,Rd H a (.dK kvs))∨∃kvs,Rd H a (.dT kvs)
theorem ZV{X:Cx}{pins:List (Addr×Obj)}{σ:St}{H:Hp}{s:Shared}{a:Addr}(I:Inv X pins σ H s)(d:IsD H a) :
  s.TypeIs (.ref a) "dict"∧(∀b,Value.ref a=.ref b→∃ob,s.heap.get? b=some ob∧ob.dict=none)∧(a==sysModules)=false:=by
 rcases d with⟨kvs,e⟩|⟨kvs,e⟩
 ·obtain⟨_,hd,vs,_,dd⟩:=yC I.hok e;refine⟨dd.typeIs,fun b q=>?_,hd⟩;cases q;obtain⟨ob,_,_,h1,h2,_⟩:=dd;exact⟨ob,h1,h2.2.1⟩
 ·obtain⟨_,hd,xs,_,dd⟩:=yD I.hok e;refine⟨dd.typeIs,fun b q=>?_,hd⟩;cases q;obtain⟨ob,_,_,h1,h2,_⟩:=dd;exact⟨ob,h1,h2.2.1⟩
section
variable{X:Cx}{pins:List (Addr×Obj)}{σ:St}{H:Hp}{s:Shared}{a:Addr}{y d:V}{u r:Value}{o:Option V}{A:Around}{E:Value→Shared→Prop}
theorem ZW{Q:Value→Shared→Prop}(hu:A.units+1<cLine)(I:Inv X pins σ H s)(g:rD H a y o)(ry:RelV y u)(rd:RelV d r)(h:∀w' s',Inv X pins σ H s'→RelV (o.getD d) w'→Q w' s') :
  wpAny (model X.prog X.w) A (call (.builtin "dict.get") [.ref a,u,r]) Q E s:=by
 rcases g with⟨kvs,k,e,ey,l⟩|⟨kvs,k,b,e,ey,eb,l⟩
 ·subst ey;obtain⟨z,hd,vs,rel,dd⟩:=yC I.hok e;refine call_meetsIn slot_dict_get dd.typeIs PySem.F.entry_dict_get (PySem.F.args_dict_get_3 _ _ _) (meets_dict_get_default (cN X.prog X.w) a (yx ry) hd r) ⟨_,dd.mapOf,h _ _ (I.tok _) ?_⟩;rw[l];exact(rel.val k).getD rd
 ·subst ey;cases (show u=Value.ref b from ry);obtain⟨z,hd,xs,rel,dd⟩:=yD I.hok e;refine call_meetsIn slot_dict_get dd.typeIs PySem.F.entry_dict_get (PySem.F.args_dict_get_3 _ _ _) (meetsH_dict_get_default (tupleKind (cN X.prog X.w)) a b hd r) ⟨tupleKind_room_in1 hu,k,xs,uZ I.hok eb,dd,h _ _ (I.tok _) ?_⟩;rw[l];exact(rel.val k).getD rd
end
def ZX(td ty tx:TE):TE:=fun σ H Q=>td σ H fun x H1=>∃a,x=.ref a∧IsD H1 a∧ty σ H1 fun y H2=>tx σ H2 fun z H3=>∃o,rD H3 a y o∧Q (o.getD z) H3
section
variable{X:Cx}{o e f:Expr}{apos cpos:Pos}{td ty tx:TE}
theorem Ti(hu:X.A.units+1<cLine)(ho:PE X o td)(he:PE X e ty)(hf:PE X f tx)(m:M2 X o "get" apos e f cpos):PE X (.Call (.Attribute o "get" apos) [e,f] [] cpos) (ZX td ty tx):=by
 intro pins s σ H Q I h;refine wpAny_Call_method m.base m.few m.line PySem.F.plainAttrs_dict slot_dict_get PySem.F.type_dict_get (dH (ho pins s σ H _ I h) fun u s1 ⟨x,H1,I1,rx,a,ex,d,q1⟩=>?_);subst ex;obtain rfl:u=Value.ref a:=rx;obtain⟨t1,t2,_⟩:=ZV I1 d;refine⟨t1,t2,?_⟩;rw[m.trees];refine Calls.callWith_builtin rfl (Calls.evalArgs_plain (Calls.spliced_cons (dH (he pins s1 σ H1 _ I1 q1) fun iv s2 ⟨y,H2,I2,ry,q2⟩=>
  Calls.spliced_cons (dH (hf pins s2 σ H2 _ I2 q2) fun fv s3 ⟨z,H3,I3,rz,ov,g,q3⟩=>Calls.spliced_nil ?_))))
 exact ZW hu I3 g ry rz fun w' s4 I4 SN=>⟨_,H3,I4,SN,q3⟩
end
theorem yE:typeLookup (.type "list") "keys"=pure none:=am_miss_of_fast (by first|decide +kernel|rfl)
theorem Gk:entryFor table "dict.update.loop"=some Builtin.«dict.update.loop»:=entryFor_of_tree (by kernel_rfl)
theorem p7:plainId "dict.update.loop"=true:=by decide +kernel
section
variable{prog:Program}{w:World}{A:Around}{E:Value→Shared→Prop}
theorem Qk{s:Shared}{a:Addr}{o:Obj}{xs:Array Value}{k:Nat}{Q:Option Value→Shared→Prop}(hx:s.heap.get? a=some o)(hc:o.cls=.type "list")(hdat:o.data=.seq xs k)(hd:o.dict=none)(hA:A.handled=none)(h:∀h' tk,(∀b ob,s.heap.get? b=some ob→h'.get? b=some ob)→Q none { s with heap:=h',toks:=tk }):wpAny (model prog w) A (getAttr? (.ref a) "keys") Q E s:=by
 obtain⟨c,dct,dat,sl⟩:=o;simp only at hc hdat hd;subst hc hdat hd;obtain⟨hp,g,d,tk,os⟩:=s;have hT:∀tk',(⟨hp,g,d,tk',os⟩:Shared).TypeIs (.ref a) "list":=fun _=>⟨_,hx,rfl⟩;have hmiss:=yE;have hname:(["__module__","__name__","__qualname__","__doc__","__annotations__"]:List Str).contains "keys"=false:=by decide +kernel
 have hsz:("keys":Str).length+100≤sizeLine:=by first|size_fits|decide +kernel
 have f1:=sub_AttributeError;have f3:=PySem.F.slot_list_getattribute.lookup;have f4:=PySem.F.slot_list_getattribute.bind (.ref a);have f5:=am_list_getattr_none;unfold getAttr? getAttrBy? getAttrBy
 repeat (any_goals (first|assumption|exact hT _ | ((with_reducible show wpAny _ _ (call (Value.builtin "list.__getattribute__") _ _) _ _ _);refine call_meets PySem.F.slot_list_getattribute (hT _) am_entry_list_getattribute (PySem.F.args_list_getattribute_2 _ _) (meets_getattribute_miss_list a xs k sl "keys" _ hmiss hname hsz) ⟨hx,hA,fun h' tk' e hx'=>?_⟩)|wp_step))
 obtain⟨t',u',he⟩:=hx'.there;show wpAny _ _ (getattributeRaised _ _ _ _ _ _ _) _ _ _;unfold getattributeRaised
 repeat (any_goals (first|assumption|wp_step))
 all_goals first|exact h _ _ hx'.keeps | (dsimp only;repeat (any_goals (first|assumption|exact h _ _ hx'.keeps|wp_step)))
theorem Gm{R:Result→Shared→Prop}{S I l:Addr}{items:Array Value}{res:Value}(hh:A.handled=none)(hlI:l≠I)(hSI:S≠I)(hSl:S≠l) :
  ∀(rest:List (Key×Value))(i:Nat)(acc:List (Key×Value))(ix:Int)(t:Tok)(s:Shared),items.size=i+rest.length→acc.length+rest.length≤sizeLine →
   (∀(j:Nat)(q:Key×Value),rest[j]?=some q→∃(b:Addr)(u:Value),items[i+j]?=some (.ref b)∧b≠S∧b≠I∧IsTup s.heap b #[u,q.2]∧tO q.1 u=true) →
   s.heap.IsListIter I l i→s.heap.IsList l items→s.heap.DictOf (cN prog w) S acc →
   (∀h' tk,h'.DictOf (cN prog w) S (merged acc rest)→(∀b o,b≠S→b≠I→s.heap.get? b=some o→h'.get? b=some o)→R (.ok (.ret res)) { s with heap:=h',toks:=tk }) →
   codeAny (model prog w) A (.builtin "dict.update.loop" ⟨[.ref S,.ref I,.int ix t,res],[]⟩) R s
 | [],i,acc,ix,t,s,hsz,hln,ht,hit,hl,hm,hR=>by
  refine codeAny_builtin Gk ?_;rw[Around.under_plainId p7 _];show wpAny _ A.in1 (pyNext (.ref I) >>= _) _ _ s;refine wpAny_bind (wpAny_pyNext_list_end (A:=A.in1) hh hit hl (by first|exact Array.getElem?_eq_none (le_of_eq hsz) | (simp at hsz;simp;omega)) fun h' he=>?_);show wpAny _ A.in1 (Builtin.Dict.addKeywords S [] >>= _) _ _ _;refine wpAny_bind (wpAny_pure (wpAny_pure ?_));exact hR h' s.toks (hm.extBut he hSI) fun b o _ hb e=>he b o hb e
 |q::rest,i,acc,ix,t,s,hsz,hln,ht,hit,hl,hm,hR=>by
  obtain⟨b,u,hb,hbS,hbI,htup,hk⟩:=ht 0 q rfl;rw[length_cons]at hsz hln;refine codeAny_builtin Gk ?_;rw[Around.under_plainId p7 _];show wpAny _ A.in1 (pyNext (.ref I) >>= _) _ _ s;refine wpAny_bind (wpAny_pyNext_list_item (x:=.ref b) hit hl (by simpa using hb) fun h1 hit1 hs1=>?_);have ht1:IsTup h1 b #[u,q.2]:=htup.extBut hs1.extBut hbI;have hl1:h1.IsList l items:=hl.extBut hs1.extBut hlI;have hm1:h1.DictOf (cN prog w) S acc:=hm.extBut hs1.extBut hSI;obtain⟨o,ho,hc,n,hd⟩:=id ht1;show wpAny _ A.in1 (holding [Value.ref b] _ >>= _) _ _ _;refine wpAny_bind (wpAny_holding ?_);refine wpAny_bind (wpAny_tryCatch ?_);unfold Builtin.Dict.pairItems;refine wpAny_bind (wpAny_typeOf (T:="tuple") ⟨o,ho,hc⟩ ?_);rw[if_pos (by first|decide|rfl|simp)];refine wpAny_bind (wpAny_seqItems ho hd (wpAny_pure ?_));show wpAny _ A.in1 (holding [u,q.2] (dictSet S u q.2)) _ _ _;refine wpAny_holding (wpAny_dictSet_pairs (knd:=cN prog w) (k:=q.1) hk hm1 (fun h2 hm2 hs2=>?_) (by omega));refine wpAny_pure ⟨plainId_quiet p7 _,Gm (items:=items) hh hlI hSI hSl rest (i+1) (stored acc q.1 q.2) (ix+1) 0 _ (show items.size=i+1+rest.length by omega) ?_ (fun j q' e=>?_) ?_ ?_ hm2 fun h' tk hd' k=>?_⟩
  ·have z:=stored_length_le acc q.1 q.2;omega
  ·obtain⟨b',u',hb',ach,aci,acj,hk'⟩:=ht (j+1) q' (by simpa using e);refine⟨b',u',?_,ach,aci,(acj.extBut hs1.extBut aci).extBut hs2.extBut ach,hk'⟩;rw[show i+1+j=i+(j+1) by omega];exact hb'
  ·exact hit1.at fun o' e=>hs2.extBut I o' (Ne.symm hSI) e
  ·exact hl1.extBut hs2.extBut (Ne.symm hSl)
  ·exact hR h' tk hd' fun c oc h3 h4 e=>k c oc h3 h4 (hs2.extBut c oc h3 (hs1.extBut c oc h4 e))
theorem wJ{s:Shared}{l:Addr}{ol:Obj}{items:Array Value}{n:Nat}{prs:List (Key×Value)}{Q:Value→Shared→Prop}(hh:A.handled=none)(hl:s.heap.get? l=some ol)(hc:ol.cls=.type "list")(hd:ol.dict=none)(hdat:ol.data=.seq items n)(hsz:items.size=prs.length)(hln:prs.length≤sizeLine)(ht:∀(j:Nat)(q:Key×Value),prs[j]?=some q→∃(b:Addr)(u:Value),items[j]?=some (.ref b)∧IsTup s.heap b #[u,q.2]∧tO q.1 u=true)(h:∀h' tk,h'.DictOf (cN prog w) s.heap.objs.size (merged [] prs)→(∀b o,s.heap.get? b=some o→h'.get? b=some o)→Q (.ref s.heap.objs.size) { s with heap:=h',toks:=tk }) :
  wpAny (model prog w) A (call (.type "dict") [.ref l]) Q E s:=by
 refine callType_codes (Q₁:=fun obj s₁=>obj=.ref s.heap.objs.size∧s₁={ s with heap:=s.heap.push { cls:=.type "dict",data:=.dict #[] } }) PySem.F.kt_called_dict (PySem.F.kt_typeCall_dict_1 _) PySem.F.entry_dict_init (kt_code_dict_new _ ⟨rfl,rfl⟩) ?_;rintro obj s₁ ⟨rfl,rfl⟩;have hnew:(s.heap.push { cls:=.type "dict",data:=.dict #[] }).DictOf (cN prog w) s.heap.objs.size []:=Heap.DictOf.new s.heap;have k0:∀b o,s.heap.get? b=some o→(s.heap.push { cls:=.type "dict",data:=.dict #[] }).get? b=some o:=fun b o e=>get?_push_of_some _ e;refine⟨hnew.typeIs,PySem.F.args_dict_init_2 _ _,?_⟩;unfold Builtin.«dict.__init__»;refine wpAny_bind ?_;unfold Builtin.Dict.selfAndRest;refine wpAny_bind (wpAny_notOrdered_dict hnew.typeIs ?_);show wpAny _ _ (pure (s.heap.objs.size,[Value.ref l])) _ _ _;refine wpAny_pure ?_;show wpAny _ _ (Builtin.Dict.updateFrom "dict.__init__" s.heap.objs.size (.ref l) [] .none) _ _ _;unfold Builtin.Dict.updateFrom;refine wpAny_bind (wpAny_typeOf (T:="list") ⟨ol,k0 _ _ hl,hc⟩ ?_);rw[if_pos (by first|decide|rfl|simp)];refine wpAny_bind (Qk (k0 _ _ hl) hc hdat hd hh fun h1 tk1 hk1=>?_);rw[if_pos (show (none:Option Value).isNone=true from rfl)];refine wpAny_bind (wpAny_rule ?_);have hl1:h1.IsList l items:=⟨ol,hk1 _ _ (k0 _ _ hl),hc,n,hdat⟩;have hS1:s.heap.objs.size<h1.objs.size:=by
  have e:(s.heap.push { cls:=.type "dict",data:=.dict #[] }).get? s.heap.objs.size=some { cls:=.type "dict",data:=.dict #[] }:=get?_push_size _ rfl;exact lt_size (hk1 _ _ e)
 refine wpAny_bind (wpAny_pyIter_list hl1 ?_);have k2:∀b o,h1.get? b=some o→(h1.push { cls:=.type "list_iterator",data:=.fields #[.ref l,.int 0 0] }).get? b=some o:=fun b o e=>get?_push_of_some _ e;have hlt:l<s.heap.objs.size:=lt_size hl;have key:=Gm (prog:=prog) (w:=w) (A:=A.in1) (R:=wants (fun r s₂=>r=.none∧Q (.ref s.heap.objs.size) s₂) E) (S:=s.heap.objs.size) (I:=h1.objs.size) (l:=l) (items:=items) (res:=Value.none) hh
  (ne_of_lt (lt_trans hlt hS1)) (ne_of_lt hS1) (ne_of_gt hlt) prs 0 [] 0 0
  { s with heap:=h1.push { cls:=.type "list_iterator",data:=.fields #[.ref l,.int 0 0] },toks:=tk1 } (by rw[hsz,zero_add]) (by rw[length_nil,zero_add];exact hln)
  (fun j q e=>by
   obtain⟨b,u,e1,e2,e3⟩:=ht j q e;have hb:b<s.heap.objs.size:=e2.lt;exact⟨b,u,by rw[zero_add];exact e1,ne_of_lt hb,ne_of_lt (lt_trans hb hS1),e2.keeps fun c o z=>k2 _ _ (hk1 _ _ (k0 _ _ z)),e3⟩)
  ⟨_,get?_push_size _ rfl,rfl,rfl⟩ (hl1.at fun o e=>k2 _ _ e) ((hnew.at fun o e=>hk1 _ _ e).at fun o e=>k2 _ _ e)
  (fun h' tk hd' k=>⟨rfl,h h' tk hd' fun b o e=>k b o (ne_of_lt (lt_size e)) (ne_of_lt (lt_trans (lt_size e) hS1)) (k2 _ _ (hk1 _ _ (k0 _ _ e)))⟩)
 first
  |exact wpAny_pure ⟨plainId_quiet p7 _,key⟩
  |exact wpAny_bind (wpAny_pure (wpAny_pure ⟨plainId_quiet p7 _,key⟩))
end
section
variable{X:Cx}
theorem Gn{pins:List (Addr×Obj)}{σ:St}{H:Hp}{s:Shared}(I:Inv X pins σ H s):∀{ps:List Addr}{kvs:List (Key×V)},Paired (fun p kv=>tL X.K H p [kV kv.1,kv.2]) ps kvs →
  ∃prs:List (Key×Value),KV kvs prs∧prs.length=ps.length∧∀(j:Nat)(q:Key×Value),prs[j]?=some q→∃(b:Addr)(u:Value),ps[j]?=some b∧IsTup s.heap b #[u,q.2]∧tO q.1 u=true
 |_,_,.nil=>⟨[],.nil,rfl,fun j q e=>by simp at e⟩
 |_,_,.cons (a:=p) (b:=kv) h t=>by
  obtain⟨prs,r,hl,hp⟩:=Gn I t;obtain⟨its,rv,ht,_⟩:=I.tuple h;obtain⟨u,y,ei,ru,ry⟩:=vals2 rv;subst ei;refine⟨(kv.1,y)::prs,.cons ⟨rfl,ry⟩ r,by rw[length_cons,length_cons,hl],fun j q e=>?_⟩;cases j with
  |zero=>
   have e':(kv.1,y)=q:=Option.some.inj e;subst e';exact⟨p,u,rfl,ht,yx (P:=X.prog) (w:=X.w) ru⟩
  |succ j=>
   obtain⟨b,u',e1,e2,e3⟩:=hp j q (by simpa using e);exact⟨b,u',by simpa using e1,e2,e3⟩
theorem Nr:∀{ps:List Addr}{us:List Value},Vals (ps.map V.ref) us→us=ps.map Value.ref
 | [],us,r=>by
  rw[map_nil]at r;cases r;rfl
 |p::ps,us,r=>by
  rw[map_cons]at r;cases r with
  |cons h t=>
   cases h;rw[map_cons,←Nr t]
theorem J9(hcalm:X.calm=true):pK X (.type "dict") (fun xs H Q=>∃(a:Addr)(ps:List Addr)(kvs:List (Key×V)),xs=[.ref a]∧bJ X.K H a (ps.map V.ref)∧Paired (fun p kv=>tL X.K H p [kV kv.1,kv.2]) ps kvs ∧
  ∀p,H p=none→Q (.ref p) (upd H p (.dK (mO [] kvs)))):=by
 intro pins s σ H xs us Q I r q;obtain⟨a,ps,kvs,ex,hq,hp,q⟩:=q;subst ex;obtain⟨u,eu,rx⟩:=vals1 r;subst eu;cases rx;obtain⟨its,rv,pl,hz⟩:=I.list hq;have ei:=Nr rv;subst ei;rw[length_map]at hz;obtain⟨prs,rel,hl,hpr⟩:=Gn I hp;obtain⟨o,n,ho,hc,hd,hdat⟩:=pl;refine wJ (prs:=prs) (I.ok.hd hcalm) ho hc hd hdat (by simp[hl]) (by rw[hl];exact hz) (fun j q' e=>?_) fun h' tk hd' k=>?_
 ·obtain⟨b,u,e1,e2,e3⟩:=hpr j q' e;exact⟨b,u,by simp[e1],e2,e3⟩
 ·have hm:(s.heap.objs.size==sysModules)=false:=beq_eq_false_iff_ne.mpr (ne_of_gt I.big);have hlen:(mO [] kvs).length≤sizeLine:=by
   refine le_trans (rG kvs []) ?_;rw[length_nil,zero_add,rel.length,hl];exact hz
  exact⟨.ref s.heap.objs.size,upd H s.heap.objs.size (.dK (mO [] kvs)),I.laid (t':=tk) k (le_refl _) (show eZ X.prog X.w _ _ _ (.dK (mO [] kvs)) from ⟨hlen,hm,merged [] prs,KV.merge rel .nil,hd'⟩),rfl,q _ (I.hok.fresh (le_refl _))⟩
end
section
variable{X:Cx}{pins:List (Addr×Obj)}{σ:St}{H:Hp}{s:Shared}{h':Heap}
theorem Inv.Xa{t':Nat}{ch:List Addr}(I:Inv X pins σ H s)(k:∀b o,b∉ch→s.heap.get? b=some o→h'.get? b=some o)(hf:∀b∈ch,wH X pins H b):Inv X pins σ H { s with heap:=h',toks:=t' }:=by
 have RQ:∀b u,H b=some u→b∉ch:=fun b u e z=>by
  have q:=(hf b z).1;rw[q]at e;cases e
 refine I.step (g':=s.gens) (d':=s.drawn) (ch:=ch) (fun b hb=>⟨(hf b hb).2.2.2.1,(hf b hb).2.1,(hf b hb).2.2.2.2.1,(hf b hb).2.2.2.2.2⟩) (fun b o _ _ hc e _=>k b o hc e) (fun b o _ _ hc e _=>⟨o.slots,k b o hc e⟩)
  (fun _ _ _ _ n=>n) (fun b o hc e=>⟨o,k b o hc e⟩) (fun _ _ e=>e) (fun _ _ _ e=>e) (fun b ps e=>⟨#[],by rw[e];simp⟩) (fun m hm=>?_) (fun b u e=>?_) I.bare
 ·obtain⟨o,es,ep,ho,r⟩:=hm;exact⟨o,es,ep,k _ o (fun z=>(hf _ z).2.1 rfl) ho,r⟩
 ·refine(I.hok b u e).stay (fun c v hc q=>k c v ?_ q) (fun _ q=>q) fun _ _ q=>q;rcases hc with z|z
  ·rw[z];exact RQ b u e
  ·exact RQ c _ z
theorem Inv.Cd{t':Nat}{ch:List Addr}{T:Addr}{ob:HO}(I:Inv X pins σ H s)(k:∀b o,b∉ch→s.heap.get? b=some o→h'.get? b=some o)(hf:∀b∈ch,wH X pins H b)(hT:s.heap.objs.size≤T)(new:eZ X.prog X.w (upd H T ob) h' T ob):Inv X pins σ (upd H T ob) { s with heap:=h',toks:=t' }:=by
 have hn:H T=none:=I.hok.fresh hT;have RQ:∀b u,H b=some u→b∉ch:=fun b u e z=>by
  have q:=(hf b z).1;rw[q]at e;cases e
 refine I.step (g':=s.gens) (d':=s.drawn) (ch:=ch) (fun b hb=>⟨(hf b hb).2.2.2.1,(hf b hb).2.1,(hf b hb).2.2.2.2.1,(hf b hb).2.2.2.2.2⟩) (fun b o _ _ hc e _=>k b o hc e) (fun b o _ _ hc e _=>⟨o.slots,k b o hc e⟩)
  (fun b o _ e n=>?_) (fun b o hc e=>⟨o,k b o hc e⟩) (fun b xs e=>?_) (fun b o u e=>?_) (fun b ps e=>⟨#[],?_⟩) (fun m hm=>?_) (fun b u e=>?_) I.bare
 ·rw[aj (ne_of_lt (lt_of_lt_of_le (lt_size e) hT))];exact n
 ·rw[aj (aB e hn)];exact e
 ·rw[aj (aB e hn)];exact e
 ·rw[aj (aB e hn),e];simp
 ·obtain⟨o,es,ep,ho,r⟩:=hm;exact⟨o,es,ep,k _ o (fun z=>(hf _ z).2.1 rfl) ho,r⟩
 ·by_cases hb:b=T
  ·subst hb;rw[ao]at e;cases e;exact new
  ·rw[aj hb]at e;refine(I.hok b u e).stay (fun c v hc q=>k c v ?_ q) (fun c q=>by rw[aj (aB q hn)];exact q) fun c xs q=>by rw[aj (aB q hn)];exact q
   rcases hc with z|z
   ·rw[z];exact RQ b u e
   ·exact RQ c _ z
end
section
variable{X:Cx}
theorem Tj{tg:Expr}{pins:List (Addr×Obj)}{σ:St}{H:Hp}{s:Shared}{R:It→Hp→Prop}{J:It}{tn:Nat→Heap→Prop}{tk:Nat}(I:Inv X pins σ H s)(o:Obj)(T:Turn X.prog X.w X.K tg J [s.heap.objs.size] s.heap.objs.size tn)(st:tn 0 (s.heap.push o))(q:R J H):PIE X pins σ tg R (.ref s.heap.objs.size) { s with heap:=s.heap.push o,toks:=tk }:=by
 refine⟨s.heap.objs.size,[s.heap.objs.size],tn,J,H,rfl,I.kept fun b ob e=>get?_push_of_some _ e,T,st,fun b hb=>?_,q⟩;have e:b=s.heap.objs.size:=by simpa using hb
 subst e;exact I.JN (le_refl _) (I.hok.fresh (le_refl _))
end
def Its(x:Str):It:=⟨fun i _=>i<x.cps.size,fun i H v H'=>H'=H∧∃c,x.cps[i]?=some c∧v=.str ⟨#[c]⟩,fun i _=>x.cps.size≤i⟩
theorem Gp{P:Program}{w:World}{K:PySem.W.Frag}{tg:Expr}(it:Addr)(x:Str)(t:Tok)(ty:String)(hty:ty="str_ascii_iterator"∨ty="str_iterator") :
  Turn P w K tg (Its x) [it] it (fun i h=>h.IsStrIter it ty x t i) where
 mem:=by simp
 obj:=fun i h st b hb=>by
  have e:b=it:=by simpa using hb
  subst e;obtain⟨o,e,c,d⟩:=st;exact⟨o,e,fun v z=>by rw[d]at z;cases z⟩
 keep:=fun i h h' st k=>let ⟨o,ho,r⟩:=st;⟨o,k it (by simp) o ho,r⟩
 item:=by
  intro X hP hw hK hc i pins s σ H E I hf st hg;subst hP hw hK;obtain⟨f0,f1,f2,f3,f4,f5⟩:=hf it (by simp);have W:Walks X.prog X.w X.A it [it] [it] x.cps.size (SignAt x) (fun i h=>h.IsStrIter it ty x t i):=by
   rcases hty with e|e
   ·rw[e];exact Walks.strAscii (I.ok.hd hc) it x t
   ·rw[e];exact Walks.strWide (I.ok.hd hc) it x t
  have hno:["enumerate","zip","dict_itemiterator","dict_reverseitemiterator","odict_iterator","itertools.zip_longest","itertools.pairwise"].contains ty=false:=by
   rcases hty with e|e
   ·rw[e];decide
   ·rw[e];decide
  refine W.item i s _ _ hg st fun v h' tk hv st' kk=>?_;obtain⟨c,u,hcx,rfl⟩:=hv;have I1:Inv X pins σ H { s with heap:=h',toks:=tk }:=I.turned (fun b o hb e=>kk b o (by simpa using hb) e) f0 f1 f3 f4 f5;obtain⟨oi,e,cc,dd⟩:=id st';exact⟨_,rfl,M9 (s:={ s with heap:=h',toks:=tk }) e cc dd hno ⟨.str ⟨#[c]⟩,H,I1,⟨u,rfl⟩,⟨rfl,c,hcx,rfl⟩,st',fun b hb=>(hf b hb).1⟩⟩
 done:=by
  intro X hP hw hK hc i pins s σ H E I hf st hg;subst hP hw hK;obtain⟨f0,f1,f2,f3,f4,f5⟩:=hf it (by simp);have hx:x.cps[i]?=none:=Array.getElem?_eq_none hg;rcases hty with e|e
  ·rw[e]at st;exact wpAny_pyNext_ascii_end (I.ok.hd hc) st hx fun h' eb=>⟨rfl,I.turned (t':=s.toks) (fun b o hb e=>eb b o hb e) f0 f1 f3 f4 f5⟩
  ·rw[e]at st;exact wpAny_pyNext_wide_end (I.ok.hd hc) st hx fun h' eb=>⟨rfl,I.turned (t':=s.toks) (fun b o hb e=>eb b o hb e) f0 f1 f3 f4 f5⟩
 self:=fun A i s Q E st h=>by
  rcases hty with e|e
  ·rw[e]at st;exact wpAny_pyIter_striter_ascii st h
  ·rw[e]at st;exact wpAny_pyIter_striter_wide st h
def aeY(te:TE):TI:=fun σ H R=>te σ H fun v H1=>∃x,v=.str x∧R (Its x) H1
theorem Z0{X:Cx}{tg e:Expr}{te:TE}(he:PE X e te):PI X tg e (aeY te):=by
 intro pins s σ H R I h;refine dH (he pins s σ H _ I h) fun v s1 ⟨y,H1,I1,r1,x,ex,q⟩=>?_;subst ex;obtain⟨t,rfl⟩:=r1;cases ha:x.cps.all (·<128)
 ·exact wpAny_pyIter_wide ha (Tj (tk:=s1.toks) I1 _ (Gp _ x t "str_iterator" (.inr rfl)) ⟨_,get?_push_size _ rfl,rfl,rfl⟩ q)
 ·exact wpAny_pyIter_ascii ha (Tj (tk:=s1.toks) I1 _ (Gp _ x t "str_ascii_iterator" (.inl rfl)) ⟨_,get?_push_size _ rfl,rfl,rfl⟩ q)
theorem Ql:bootBuiltins "zip"=some (.type "zip"):=by decide +kernel
def Itz(K:PySem.W.Frag)(a b:Addr):It:=
 ⟨fun i H=>∃(xs ys:List V)(x y:V),bJ K H a xs∧bJ K H b ys∧xs[i]?=some x∧ys[i]?=some y,
  fun i H v H'=>∃T x y,v=.ref T∧H T=none∧H'=upd H T (.tup [x,y])∧(∀xs,bJ K H a xs→xs[i]?=some x)∧∀ys,bJ K H b ys→ys[i]?=some y,
  fun i H=>∃xs ys:List V,bJ K H a xs∧bJ K H b ys∧(xs.length≤i∨ys.length≤i)⟩
theorem Tn{P:Program}{w:World}{K:PySem.W.Frag}{elts:List Expr}{kk:Nat}{tpos:Pos}{a b z TI TO i1 i2:Addr}(D:ZipApart z TI TO i1 i2 a b) :
  Turn P w K (.Tuple elts kk tpos) (Itz K a b) [z,TI,TO,i1,i2] z (fun i h=>IsZip h z TI TO .none∧IsPair h TI (.ref i1) (.ref i2)∧(∃x y,IsPair h TO x y)∧h.IsListIter i1 a i∧h.IsListIter i2 b i) where
 mem:=by simp
 obj:=fun i h st c hc=>by
  obtain⟨hz,hTI,⟨x,y,hTO⟩,⟨o1,e1,_,d1⟩,⟨o2,e2,_,d2⟩⟩:=st;have e':c=z∨c=TI∨c=TO∨c=i1∨c=i2:=by simpa using hc
  rcases e' with q|q|q|q|q
  ·rw[q];exact⟨_,hz,fun v q=>nomatch q⟩
  ·rw[q];exact⟨_,hTI,fun v q=>nomatch q⟩
  ·rw[q];exact⟨_,hTO,fun v q=>nomatch q⟩
  ·rw[q];exact⟨o1,e1,fun v q=>by rw[d1]at q;cases q⟩
  ·rw[q];exact⟨o2,e2,fun v q=>by rw[d2]at q;cases q⟩
 keep:=fun i h h' st k=>by
  obtain⟨hz,hTI,⟨x,y,hTO⟩,h1,h2⟩:=st;exact⟨k z (by simp) _ hz,k TI (by simp) _ hTI,⟨x,y,k TO (by simp) _ hTO⟩,h1.at fun o q=>k i1 (by simp) o q,h2.at fun o q=>k i2 (by simp) o q⟩
 item:=by
  intro X hP hw hK hc i pins s σ H E I hf st hg;subst hP hw hK;obtain⟨hz,hTI,⟨x0,y0,hTO⟩,h1,h2⟩:=st;obtain⟨xs,ys,x,y,hqx,hqy,hx,hy⟩:=hg;obtain⟨its,rv,p,_⟩:=I.list hqx;obtain⟨its2,rv2,p2,_⟩:=I.list hqy;obtain⟨u,hu,ru⟩:=rv.get hx;obtain⟨u2,hu2,ru2⟩:=rv2.get hy;have hzl:z<s.heap.objs.size:=lt_size hz;refine wpAny_pyNext_zip_item D hz hTI hTO h1 h2 p.isList p2.isList (x:=u) (y:=u2) (by simpa using hu) (by simpa using hu2) fun h' z' TO' h1' h2' hT hsz hk=>?_;refine⟨_,rfl,wpAny_letOwnedTupleGo_zip (s:={ s with heap:=h' }) z' fun h'' z'' sb=>?_⟩;have hT2:h''.get? s.heap.objs.size=some { cls:=.type "tuple",data:=.seq #[u,u2] }:=(sb.2 _ (ne_of_gt hzl)).trans hT;have new:eZ X.prog X.w (upd H s.heap.objs.size (.tup [x,y])) h'' s.heap.objs.size (.tup [x,y]):=
   ⟨by show 2≤sizeLine;decide,[u,u2],.cons ru (.cons ru2 .nil),⟨_,hT2,rfl,_,rfl⟩⟩
  have I1:Inv X pins σ (upd H s.heap.objs.size (.tup [x,y])) { s with heap:=h'' }:=
   I.Cd (t':=s.toks) (ch:=[z,TI,TO,i1,i2]) (fun c o hb q=>(sb.2 c (fun q'=>hb (by simp[q']))).trans (hk c o (fun q'=>hb (by simp[q'])) (fun q'=>hb (by simp[q'])) (fun q'=>hb (by simp[q'])) (fun q'=>hb (by simp[q'])) q)) hf (le_refl _) new
  refine⟨.ref s.heap.objs.size,_,I1,rfl,⟨_,x,y,rfl,I.hok.fresh (le_refl _),rfl,fun l hl=>by rw[I.tW hl hqx];exact hx,fun l hl=>by rw[I.tW hl hqy];exact hy⟩,⟨z'',?_,⟨u,u2,?_⟩,?_,?_⟩,fun c hcm=>?_⟩
  ·exact(sb.2 _ D.TIz).trans (hk _ _ D.TIz D.TITO D.TIi1 D.TIi2 hTI)
  ·exact(sb.2 _ D.TOz).trans TO'
  ·exact h1'.at fun o q=>(sb.2 _ D.i1z).trans q
  ·exact h2'.at fun o q=>(sb.2 _ D.i2z).trans q
  ·have hlt:c<s.heap.objs.size:=by
    have e':c=z∨c=TI∨c=TO∨c=i1∨c=i2:=by simpa using hcm
    rcases e' with q|q|q|q|q
    ·rw[q];exact hzl
    ·rw[q];exact lt_size hTI
    ·rw[q];exact lt_size hTO
    ·rw[q];obtain⟨_,e1,_⟩:=h1;exact lt_size e1
    ·rw[q];obtain⟨_,e2,_⟩:=h2;exact lt_size e2
   rw[aj (ne_of_lt hlt)];exact(hf c hcm).1
 done:=by
  intro X hP hw hK hc i pins s σ H E I hf st hg;subst hP hw hK;obtain⟨hz,hTI,⟨x0,y0,hTO⟩,h1,h2⟩:=st;obtain⟨xs,ys,hqx,hqy,hend⟩:=hg;obtain⟨its,rv,p,_⟩:=I.list hqx;obtain⟨its2,rv2,p2,_⟩:=I.list hqy;have l1:=rv.length;have l2:=rv2.length;have he:its.toArray[i]?=none∨its2.toArray[i]?=none:=by
   rcases hend with q|q
   ·exact .inl (by simp;omega)
   ·exact .inr (by simp;omega)
  exact wpAny_pyNext_zip_end (I.ok.hd hc) D hz hTI hTO h1 h2 p.isList p2.isList he fun h' hk=>⟨rfl,I.Xa (t':=s.toks) (ch:=[z,TI,TO,i1,i2]) (fun c o hb q=>
   hk c o (fun q'=>hb (by simp[q'])) (fun q'=>hb (by simp[q'])) (fun q'=>hb (by simp[q'])) (fun q'=>hb (by simp[q'])) q) hf⟩
 self:=fun A i s Q E st h=>wpAny_pyIter_zip st.1 h
def aeZ(K:PySem.W.Frag)(ta:TA):TI:=fun σ H R=>ta σ H fun vs H1=>∃a b xs ys,vs=[.ref a,.ref b]∧bJ K H1 a xs∧bJ K H1 b ys∧R (Itz K a b) H1
theorem Z1{X:Cx}{e e2:Expr}{ta:TA}{p pos tpos:Pos}{elts:List Expr}{kk:Nat}(hg:Gl X "zip")(hm:X.mg "zip"=none)(ha:PA X [e,e2] ta)(hs:starEach [e,e2] X.env=(false,eval e X.env)::starEach [e2] X.env:=by rfl)(hpl:(backTo pos (starEach [e2] X.env)).any (·.1)=false:=by rfl) :
  PI X (.Tuple elts kk tpos) (.Call (.Name "zip" p) [e,e2] [] pos) (aeZ X.K ta):=by
 intro pins s σ H R I h;refine Call_ (rR I hg hm Ql (PyProof.Rows.callWith_type1 (dH (ha pos pins s σ H _ I h) fun us s1 ⟨vs,H1,I1,r1,q1⟩=>?_) hs hpl));obtain⟨a,b,xs,ys,ex,hqx,hqy,q⟩:=q1;subst ex;cases r1 with
 |cons r rr=>
  cases rr with
  |cons r' rr=>
   cases rr;cases r;cases r';obtain⟨its,rv,p1,_⟩:=I1.list hqx;obtain⟨its2,rv2,p2,_⟩:=I1.list hqy;have la:a<s1.heap.objs.size:=p1.lt;have lb:b<s1.heap.objs.size:=p2.lt;refine call_zip_2 p1.isList p2.isList fun h' hz hTI hTO h1 h2 hsz hk=>wpAny_pyIter_zip hz ?_;have I2:Inv X pins σ H1 { s1 with heap:=h' }:=I1.kept (t':=s1.toks) hk;refine⟨s1.heap.objs.size+4,[s1.heap.objs.size+4,s1.heap.objs.size+2,s1.heap.objs.size+3,s1.heap.objs.size,s1.heap.objs.size+1],_,_,H1,rfl,I2,Tn (PySem.W.ktu_apart s1.heap.objs.size a b la lb),⟨hz,hTI,⟨_,_,hTO⟩,h1,h2⟩,fun c hcm=>?_,q⟩;have e':c=s1.heap.objs.size+4∨c=s1.heap.objs.size+2∨c=s1.heap.objs.size+3∨c=s1.heap.objs.size∨c=s1.heap.objs.size+1:=by simpa using hcm
   have hle:s1.heap.objs.size≤c:=by
    rcases e' with z|z|z|z|z
    ·rw[z];exact le_add_right _ _
    ·rw[z];exact le_add_right _ _
    ·rw[z];exact le_add_right _ _
    ·rw[z];exact le_refl _
    ·rw[z];exact le_add_right _ _
   exact I1.JN hle (I1.hok.fresh hle)
end L2
section
namespace ae0
open PySem PyProof.Rows
end ae0
end
section
namespace TL
open PySem PySem.Builtin PySem.Builtin.Str PySem.StrLaws
abbrev tl(x:Str):List Nat:=x.cps.toList
theorem Z2{x y:Str}(h:tl x=tl y):x=y:=Str.ext' (Array.toList_inj.mp h)
theorem Ce(x y:Str):tl (x++y)=tl x++tl y:=by
 show (x++y).cps.toList=_;rw[Str.cps_append,Array.toList_append]
def Gq(S:List Nat):List (List Nat)→List Nat
 | []=>[]
 | [p]=>p
 |p::q::r=>p++(S++Gq S (q::r))
theorem Nt(y:Str):∀parts:List Str,tl (Str.join y parts)=Gq (tl y) (parts.map tl)
 | []=>rfl
 | [_]=>rfl
 |x::z::r=>by
  show tl (x++y++Str.join y (z::r))=tl x++(tl y++Gq (tl y) ((z::r).map tl));rw[Ce,Ce,Nt y (z::r),append_assoc]
theorem join_eq(y:Str)(parts:List Str):Txt.join y parts=Str.join y parts:=glued_eq_join y parts
end TL
end
namespace L2
open PySem PySem.Spec PyProof.Rows
theorem oH:∀{ys:List Str}{us:List Value},Vals (ys.map V.str) us→StrsAre us ys
 | [],_,.nil=>.nil
 |y::ys,_,.cons r t=>by
  obtain⟨k,rfl⟩:=r;exact .cons y k (oH t)
section
variable{X:Cx}
theorem Xb:MtR X "str.join" (fun x xs H Q=>∃a p,∃ys:List Str,x=.str a∧xs=[.ref p]∧(bJ X.K H p (ys.map V.str)∨tL X.K H p (ys.map V.str)) ∧
  (ys.map (·.length)).sum+ys.length*a.length≤16777216∧Q (.str (Txt.join a ys)) H):=by
 intro pins s σ H x xs v us Q I rx rs h;obtain⟨a,p,ys,rfl,rfl,hp,hz,h⟩:=h;obtain⟨t,rfl⟩:=rx;cases rs with
 |cons r1 rs=>
  cases rs;cases r1;rcases hp with hp|hp
  ·obtain⟨its,r,⟨o,n,ho,hc,_,hd⟩,_⟩:=I.list hp;exact PyProof.Rows.join_list (items:=its.toArray) ⟨o,ho,hc,n,hd⟩ (by rw[toList_toArray];exact oH r) hz fun t' k=>⟨.str _,H,I.tok k,⟨t',rfl⟩,h⟩
  ·obtain⟨its,r,ht,_⟩:=I.tuple hp;exact PyProof.Rows.join_tuple (items:=its.toArray) ht (by rw[toList_toArray];exact oH r) hz fun t' k=>⟨.str _,H,I.tok k,⟨t',rfl⟩,h⟩
theorem jU:pK X (.type "int") (fun xs H Q=>∃a n,xs=[.str a]∧PySem.intText? a=some n∧a.length≤640∧Q (.int n) H):=by
 intro pins s σ H xs us Q I rs h;obtain⟨a,n,rfl,hn,hl,h⟩:=h;cases rs with
 |cons r1 rs=>
  cases rs;obtain⟨t,rfl⟩:=r1;exact PySem.W.KIN.call_text hn hl ⟨.int n,H,I.tok _,⟨_,rfl⟩,h⟩
end
section
variable{X:Cx}{o e:Expr}{to te:TE}
def tM1(r:V→List V→Hp→VK→Prop)(to te:TE):TE:=fun σ H Q=>to σ H fun x H1=>(∃a,x=.str a)∧te σ H1 fun y H2=>r x [y] H2 Q
theorem aco{id:String}{name:Str}{apos pos:Pos}{r:V→List V→Hp→VK→Prop}(slot:Slot "str" name id)(ty:typeOf (.builtin id)=pure (.type "method_descriptor"))(rule:MtR X id r)(ho:PE X o to)(he:PE X e te)(hs:starEach [e] X.env=[(false,eval e X.env)]:=by rfl)(hbase:attributeBase o name X.env (eval o X.env)=eval o X.env:=by rfl)(hline:(apos.endLine==pos.line)=true:=by rfl) :
  PE X (.Call (.Attribute o name apos) [e] [] pos) (tM1 r to te):=by
 intro pins s σ H Q I h;refine PySem.Call_method1 hbase hs hline (dH (ho pins s σ H _ I h) fun v s1 ⟨x,H1,I1,r1,q1⟩=>?_);obtain⟨⟨a,rfl⟩,q1⟩:=q1;obtain⟨t,rfl⟩:=_root_.id r1;refine⟨"str",_,F.plainAttrs_str,slot,ty,typeIs_str _ _ _,(fun _ e=>nomatch e),Calls.callWith_builtin rfl (Calls.evalArgs_plain (Calls.spliced_cons ?_))⟩;exact dH (he pins s1 σ H1 _ I1 q1) fun u s2 ⟨y,H2,I2,r2,q2⟩=>Calls.spliced_nil (rule pins s2 σ H2 _ [y] _ [u] Q I2 r1 (.cons r2 .nil) q2)
theorem Xd{apos pos:Pos}(ho:PE X o to)(he:PE X e te)(hs:starEach [e] X.env=[(false,eval e X.env)]:=by rfl)(hbase:attributeBase o "join" X.env (eval o X.env)=eval o X.env:=by rfl)(hline:(apos.endLine==pos.line)=true:=by rfl) :
  PE X (.Call (.Attribute o "join" apos) [e] [] pos) (tM1 (fun x xs H Q=>∃a p,∃ys:List Str,x=.str a∧xs=[.ref p]∧(bJ X.K H p (ys.map V.str)∨tL X.K H p (ys.map V.str)) ∧
   (ys.map (·.length)).sum+ys.length*a.length≤16777216∧Q (.str (Txt.join a ys)) H) to te):=
 aco F.slot_str_join F.type_str_join Xb ho he hs hbase hline
end
section
variable{X:Cx}
theorem kZ:wI X (compareOp .In) (fun x y H Q=>∃(c:Nat)(z:Str),x=.str ⟨#[c]⟩∧y=.str z∧Q (.bl (decide (c∈z.cps.toList))) H):=by
 intro pins s σ H x y v u Q I rx ry h;obtain⟨c,z,rfl,rfl,q⟩:=h;obtain⟨t,rfl⟩:=rx;obtain⟨t',rfl⟩:=ry;exact PyProof.Rows.in_str (bR I q (PySem.StrLaws.found_one z c).symm)
theorem Bh:wI X (compareOp .NotIn) (fun x y H Q=>∃(c:Nat)(z:Str),x=.str ⟨#[c]⟩∧y=.str z∧Q (.bl (!decide (c∈z.cps.toList))) H):=by
 intro pins s σ H x y v u Q I rx ry h;obtain⟨c,z,rfl,rfl,q⟩:=h;obtain⟨t,rfl⟩:=rx;obtain⟨t',rfl⟩:=ry;exact PyProof.Rows.notIn_str (bR I q (congrArg Bool.not (PySem.StrLaws.found_one z c).symm))
end
theorem IsPart.raw{v:Value}{o:Option Int}(p:IsPart v o):∃l:Option (Int×Tok),v=partValue l∧l.map (·.1)=o:=by
 cases p with
 |none=>exact⟨none,rfl,rfl⟩
 |int i t=>exact⟨some (i,t),rfl,rfl⟩
def Gs(n d:Nat):Option Int→Int
 |none=>(d:Int)
 |some i=>max 0 (min (if i<0 then i+(n:Int) else i) (n:Int))
theorem Gu(n d:Nat)(o:Option Int):Gs n d o=((HT.j9 n d o:Nat):Int):=by
 cases o with
 |none=>rfl
 |some v=>
  show max (0:Int) (min (if v<0 then v+(n:Int) else v) (n:Int))=(((if v<0 then (v+(n:Int)).toNat else min v.toNat n):Nat):Int);by_cases hv:v<0
  ·simp only[if_pos hv];omega
  ·simp only[if_neg hv];omega
theorem Qm(a b:Option Int)(n:Nat):Builtin.Str.strSliceIndices a b 1 n=sliceRange (Gs n 0 a) (Gs n n b) 1:=by
 have h1:((1:Int) > 0)=True:=by simp
 cases a<;>cases b<;>first
  |rfl
  | (simp only[Builtin.Str.strSliceIndices,Gs,h1,if_true];rfl)
  |simp[Builtin.Str.strSliceIndices,Gs]
theorem ae1(a b:Option Int)(n:Nat):Builtin.Str.strSliceIndices a b 1 n=(List.range (HT.j9 n n b-HT.j9 n 0 a)).map (fun k=>HT.j9 n 0 a+k):=by
 rw[Qm,Gu,Gu];generalize HT.j9 n 0 a=p;generalize HT.j9 n n b=q;simp only[sliceRange,show ((1:Int) > 0)=True from by simp,if_true];by_cases hlt:(p:Int)<q
 ·have e3:(((q:Int)-p+1-1) / 1).toNat=q-p:=by first|omega | (simp;done) | (simp;omega)
  simp only[hlt,if_true,e3];refine map_congr_left fun k _=>?_;omega
 ·have:q-p=0:=by omega
  simp[hlt,this]
def Qn(z:Str)(lo hi:Option Int):Str:=
 ⟨((z.cps.toList.drop (HT.j9 z.length 0 lo)).take (HT.j9 z.length z.length hi-HT.j9 z.length 0 lo)).toArray⟩
theorem rH(z:Str)(lo hi:Option Int):PySem.StrLaws.sliceText z lo hi=Qn z lo hi:=by
 have h1:HT.j9 z.length 0 lo≤z.length:=HT.SM _ _ (zero_le _) _;have h2:HT.j9 z.length z.length hi≤z.length:=HT.SM _ _ (le_refl _) _;have hp:HT.j9 z.length 0 lo≤max (HT.j9 z.length 0 lo) (HT.j9 z.length z.length hi):=Nat.le_max_left _ _;have hq:max (HT.j9 z.length 0 lo) (HT.j9 z.length z.length hi)≤z.length:=Nat.max_le.mpr ⟨h1,h2⟩;have hd:max (HT.j9 z.length 0 lo) (HT.j9 z.length z.length hi)-HT.j9 z.length 0 lo=HT.j9 z.length z.length hi-HT.j9 z.length 0 lo:=by omega
 have e:Builtin.Str.strSliceIndices lo hi 1 z.length =
   Builtin.Str.strSliceIndices (some ((HT.j9 z.length 0 lo:Nat):Int)) (some ((max (HT.j9 z.length 0 lo) (HT.j9 z.length z.length hi):Nat):Int)) 1 z.length:=by
  rw[PySem.StrLaws.strSliceIndices_plain hp hq,hd,ae1]
 have e2:PySem.StrLaws.sliceText z lo hi =
   PySem.StrLaws.sliceText z (some ((HT.j9 z.length 0 lo:Nat):Int)) (some ((max (HT.j9 z.length 0 lo) (HT.j9 z.length z.length hi):Nat):Int)):=by
  unfold PySem.StrLaws.sliceText;rw[e]
 rw[e2,PySem.StrLaws.sliceText_nat z hp hq,hd];rfl
theorem Gv(z:Str)(lo hi:Option Int):(Qn z lo hi).length≤z.length:=by
 show (((z.cps.toList.drop (HT.j9 z.length 0 lo)).take (HT.j9 z.length z.length hi-HT.j9 z.length 0 lo)).toArray).size≤z.cps.size;rw[size_toArray,length_take,length_drop,Array.length_toList];omega
def ae2:V→Option Int→Option Int→Hp→VK→Prop:=fun x lo hi H Q=>∃z,x=.str z∧z.length≤sizeLine∧Q (.str (Qn z lo hi)) H
theorem Z4{X:Cx}:SlR X ae2:=by
 intro pins s σ H x v vl vu lo hi sl Q I rx hs pl pu h;obtain⟨z,rfl,hz,q⟩:=h;obtain⟨t,rfl⟩:=rx;obtain⟨os,hos,hcs,hds⟩:=hs;obtain⟨l,rfl,rfl⟩:=IsPart.raw pl;obtain⟨u,rfl,rfl⟩:=IsPart.raw pu;refine⟨"str",_,F.slot_str_getitem.lookup,typeIs_str _ _ _,?_⟩;refine wpAny_getItem_str_slice (l:=l) (u:=u) (st:=none) ⟨os,hos,hcs,hds⟩ rfl ?_;have hl:(PySem.StrLaws.sliceText z (l.map (·.1)) (u.map (·.1))).length≤sizeLine:=by
  rw[rH];exact le_trans (Gv z _ _) hz
 rw[←rH]at q;unfold PySem.StrLaws.sliceText at q hl;show Made.post (if ((1:Int)==1&&(Builtin.Str.strSliceIndices (l.map (·.1)) (u.map (·.1)) 1 z.length).length==z.length)=true then Made.val (.str z t)
  else Made.str ⟨((Builtin.Str.strSliceIndices (l.map (·.1)) (u.map (·.1)) 1 z.length).filterMap (z.cps[·]?)).toArray⟩) (EP X pins σ Q) s
 by_cases c:((1:Int)==1&&(Builtin.Str.strSliceIndices (l.map (·.1)) (u.map (·.1)) 1 z.length).length==z.length)=true
 ·rw[if_pos c]at q ⊢;exact⟨.str z,H,I,⟨t,rfl⟩,q⟩
 ·rw[if_neg c]at q hl ⊢;exact⟨hl,.str _,H,I.tok _,⟨_,rfl⟩,q⟩
end L2
namespace Att
open PySem PySem.W PySem.Calls PyProof.Rows
theorem wK{P:Params}{h:Heap}:∀(ns:List Int)(vs:List Value),WellAll P h vs (ns.map WData.int)→IntsAre vs ns:=by
 intro ns
 induction ns with
 |nil=>
  intro vs w;rw[map_nil]at w;cases w;exact .nil
 |cons n ns ih=>
  intro vs w;rw[map_cons]at w;cases w with
  |cons a b=>
   cases a;exact .cons _ _ (ih _ b)
end Att
namespace L2
open PySem PySem.Spec PyProof.Rows
theorem nA:∀{vs:List Value}{ns:List Int},IntsAre vs ns→Vals (ns.map V.int) vs
 |_,_,.nil=>.nil
 |_,_,.cons n t h=>.cons ⟨t,rfl⟩ (nA h)
abbrev KOf{K:PySem.W.Frag}{h:Heap}(_:K.In h):PySem.W.Frag:=K
def inClass(s:Stmt)(j:Nat):Stmt:=match s with
 | .ClassDef _ _ _ body _ _ _ _ _ _ _=>body.getD j (.Pass ⟨0,0,0,0⟩)
 |_=>.Pass ⟨0,0,0,0⟩
def dD(s:Stmt):Arguments:=match s with
 | .FunctionDef _ a _ _ _ _ _ _ _ _=>a
 |_=>{ posonlyargs:=[],args:=[],vararg:=none,kwonlyargs:=[],kw_defaults:=[],kwarg:=none,defaults:=[] }
def cu(s:Stmt):List Stmt:=match s with
 | .FunctionDef _ _ b _ _ _ _ _ _ _=>b
 |_=>[]
def au(s:Stmt):Scope:=match s with
 | .FunctionDef _ _ _ _ _ _ sc _ _ _=>sc
 |_=>{ kind:=.function,names:=[],isGenerator:=false,isCoroutine:=false }
abbrev E0:XK:=fun _ _ _=>False
structure Ka(K:PySem.W.Frag)(x qual:Str)(st:Stmt)(f:Addr)(fd:FuncData):Prop where
 ex:∃(oc:Value)(od:Option Addr)(kV doc pm:Value)(an:Option Addr)(cdv ct:Value)(osl:Array (Option Value)),
  fd=fnOf x qual (dD st) (cu st) (au st) .none kV doc pm an cdv ct∧K.lookup f=some ⟨oc,od,.func fd,osl⟩∧codeIn K cdv qual=true
 kp:keepIn K (.ref f)=true
section
variable{P:Program}{w:World}{K:PySem.W.Frag}{mg:Str→Option Value}{base:Heap}
theorem Ka.binds{x qual:Str}{st:Stmt}{f:Addr}{fd:FuncData}{ps:List Str}(F:Ka K x qual st f fd)(h:∀(kV doc pm:Value)(an:Option Addr)(cdv ct:Value)(us:List Value),us.length=ps.length→bindArgs (fnOf x qual (dD st) (cu st) (au st) .none kV doc pm an cdv ct) ⟨us,[]⟩=pure (ps.zip us)):Binds K fd ps []:=by
 obtain⟨oc,od,kV,doc,pm,an,cdv,ct,osl,rfl,lk,hcd⟩:=F.ex;exact .all (h kV doc pm an cdv ct)
theorem yF{x qual:Str}{st:Stmt}{f:Addr}{oc:Value}{od an:Option Addr}{osl:Array (Option Value)}{kV doc pm cdv ct:Value}(l:K.lookup f=some ⟨oc,od,.func (fnOf x qual (dD st) (cu st) (au st) .none kV doc pm an cdv ct),osl⟩)(c:codeIn K cdv qual=true)(k:keepIn K (.ref f)=true):Ka K x qual st f (fnOf x qual (dD st) (cu st) (au st) .none kV doc pm an cdv ct):=⟨⟨oc,od,kV,doc,pm,an,cdv,ct,osl,rfl,l,c⟩,k⟩
end
theorem yG{A:Around}{k:Nat}(hr:cY k A):A.units+1<cLine:=lt_of_le_of_lt (add_le_add_left (by decide:1≤64) _) hr.units
section
variable{X:Cx}
theorem pv(i:Nat){x:Str}{pos:Pos}(hN:X.N[i]?=some x:=by rfl)(hv:Zr X.env.scope x:=by first|exact Or.inl rfl|exact Or.inr (Or.inl rfl)|exact Or.inr (Or.inr rfl))(hd:(x==("__debug__":Str))=false:=by decide)(hcd:(x==("__classdict__":Str))=false:=by decide):PE X (.Name x pos) (xW i):=JL hN hv hd hcd
end
theorem Gw{A B:Prop}(h:B):if false=true then A else B:=by
 rw[if_neg Bool.false_ne_true];exact h
theorem Gx{A B:Prop}(h:A):if true=true then A else B:=by
 rw[if_pos rfl];exact h
theorem bY{c A B:Prop}[Decidable c](h1:c→A)(h2:¬c→B):if c then A else B:=by
 by_cases h:c
 ·rw[if_pos h];exact h1 h
 ·rw[if_neg h];exact h2 h
def Same(H H':Hp):Prop:=∀b o,H b=some o→H' b=some o
theorem Same.refl(H:Hp):Same H H:=fun _ _ h=>h
theorem Same.trans{H H1 H2:Hp}(a:Same H H1)(b:Same H1 H2):Same H H2:=fun c o h=>b c o (a c o h)
theorem Same.free{H H':Hp}(e:Same H H'){l:Addr}(h:H' l=Option.none):H l=Option.none:=by
 cases q:H l with
 |none=>rfl
 |some o=>
  rw[e l o q]at h;cases h
theorem Same.seq{K:PySem.W.Frag}{H H':Hp}{a:Addr}{xs:List V}(e:Same H H')(h:bJ K H a xs):bJ K H' a xs:=by
 rcases h with (h|⟨o,h⟩)|h
 ·exact .inl (.inl (e _ _ h))
 ·exact .inl (.inr ⟨o,e _ _ h⟩)
 ·exact .inr h
section
variable{κ:Type}[DecidableEq κ]
theorem Nu:∀{l:List κ}{k:κ},l.Nodup→¬k∈l→(l++[k]).Nodup
 | [],k,_,_=>by simp
 |a::r,k,h,hk=>by
  obtain⟨h1,h2⟩:=nodup_cons.mp h;show (a::(r++[k])).Nodup;refine nodup_cons.mpr ⟨fun m=>?_,Nu h2 fun m=>hk (mem_cons.mpr (Or.inr m))⟩;rcases mem_append.mp m with q|q
  ·exact h1 q
  ·exact hk (mem_cons.mpr (Or.inl (mem_singleton.mp q).symm))
end
theorem at_of{xs:List V}{z:Int}{j:Nat}{v:V}(e:z=(j:Int))(h:xs[j]?=some v):Ws xs z=some v:=by
 rw[e];exact lW h
theorem Same.made{H H1:Hp}{x dx C:Addr}(nx:H x=Option.none)(nd:H dx=Option.none)(k:∀b o,(upd (upd H dx (.own x)) x (.ins C dx [])) b=some o→b≠x→H1 b=some o):Same H H1:=fun b o e=>
 k b o (by rw[aj (aB e nx),aj (aB e nd)];exact e) (aB e nx)
end L2
namespace Xc
open PySem
def DK(h h':Heap):Prop:=∀b o,h.get? b=some o→∃o',h'.get? b=some o'∧o'.dict=o.dict∧o'.cls=o.cls
theorem DK.refl(h:Heap):DK h h:=fun _ o e=>⟨o,e,rfl,rfl⟩
theorem DK.trans{a b c:Heap}(x:DK a b)(y:DK b c):DK a c:=fun d o e=>by
 obtain⟨o1,e1,d1,c1⟩:=x d o e;obtain⟨o2,e2,d2,c2⟩:=y d o1 e1;exact⟨o2,e2,d2.trans d1,c2.trans c1⟩
structure Kd{α:Type}(t:Sem α):Prop where
 out:∀(M:Model)(G:Ctx)(P:α→Pos→Shared→Prop)(Ee:Value→Pos→Shared→Prop)(p:Pos)(s:Shared),
  Sem.wp M G t P Ee p s→Sem.wp M G t (fun a p' s'=>P a p' s'∧DK s.heap s'.heap) Ee p s
theorem Kd.pure{α:Type}(a:α):Kd (Pure.pure a:Sem α):=⟨fun _ _ _ _ _ s h=>⟨h,DK.refl _⟩⟩
theorem Kd.yH{α:Type}(w:String):Kd (PySem.unsupported w:Sem α):=⟨fun _ _ _ _ _ _ h=>h⟩
theorem Kd.bind{α β:Type}{m:Sem α}{f:α→Sem β}(hm:Kd m)(hf:∀a,Kd (f a)):Kd (m >>= f):=⟨fun M G P Ee p s h=>by
 rw[Sem.wp_bind']at h;rw[Sem.wp_bind'];refine Sem.wp_mono M G m (fun a p' s' h'=>?_) (fun _ _ _ x=>x) p s (hm.out M G _ Ee p s h);exact Sem.wp_mono M G (f a) (fun b p'' s'' h''=>⟨h''.1,h'.2.trans h''.2⟩) (fun _ _ _ x=>x) p' s' ((hf a).out M G P Ee p' s' h'.1)⟩
theorem Kd.cond{α:Type}{c:Prop}[Decidable c]{t u:Sem α}(ht:Kd t)(hu:Kd u):Kd (if c then t else u):=by split<;>assumption
theorem Kd.ld(a:Addr):Kd (PySem.load a):=⟨fun M G P Ee p s h=>by
 unfold PySem.load at h ⊢;rw[Sem.wp_load]at h ⊢;obtain⟨o,e,q⟩:=h;exact⟨o,e,q,DK.refl _⟩⟩
theorem Kd.stk:Kd PySem.stack:=⟨fun M G P Ee p s h=>by
 unfold PySem.stack at h ⊢;rw[Sem.wp_stack]at h ⊢;exact⟨h,DK.refl _⟩⟩
theorem DK.upd{h:Heap}{a:Addr}{f:Obj→Obj}(hf:∀o,(f o).dict=o.dict∧(f o).cls=o.cls∧(o.isFreed=false→(f o).isFreed=false)):DK h (h.update a f):=fun b o e=>by
 by_cases hb:b=a
 ·subst hb;have hfr:=(Heap.get?_some_iff.mp e).2;exact⟨f o,Heap.get?_update_self _ e ((hf o).2.2 hfr),(hf o).1,(hf o).2.1⟩
 ·exact⟨o,(Heap.get?_update_ne _ _ _ _ hb).trans e,rfl,rfl⟩
theorem DK.push(h:Heap)(o:Obj):DK h (h.push o):=fun b u e=>⟨u,get?_push_of_some _ e,rfl,rfl⟩
theorem Kd.upd(a:Addr)(f:Obj→Obj)(hf:∀o,(f o).dict=o.dict∧(f o).cls=o.cls∧(o.isFreed=false→(f o).isFreed=false)):Kd (PySem.update a f):=⟨fun M G P Ee p s h=>by
 unfold PySem.update at h ⊢;rw[Sem.wp_update]at h ⊢;exact⟨h.1,h.2,DK.upd hf⟩⟩
theorem Kd.alloc(o:Obj):Kd (PySem.alloc o):=⟨fun M G P Ee p s h=>by
 unfold PySem.alloc at h ⊢;rw[Sem.wp_alloc]at h ⊢;exact⟨h,DK.push _ _⟩⟩
theorem yI(g:Array Value→Array Value)(o:Obj):(Obj.mapFields g o).dict=o.dict∧(Obj.mapFields g o).cls=o.cls∧(o.isFreed=false→(Obj.mapFields g o).isFreed=false):=by
 obtain⟨c,d,dt,sl⟩:=o;cases dt<;>exact⟨rfl,rfl,fun h=>h⟩
theorem Kd.fld(v:Value)(i:Nat):Kd (PySem.field v i):=⟨fun M G P Ee p s h=>by
 rw[wp_field_iff]at h ⊢;obtain⟨a,o,vs,x,e1,e2,e3,e4,q⟩:=h;exact⟨a,o,vs,x,e1,e2,e3,e4,q,DK.refl _⟩⟩
theorem Kd.u0(v:Value)(i:Nat)(x:Value):Kd (PySem.setField v i x):=⟨fun M G P Ee p s h=>by
 rw[wp_setField_iff]at h ⊢;obtain⟨a,o,vs,e1,e2,e3,e4,q⟩:=h;exact⟨a,o,vs,e1,e2,e3,e4,q,DK.upd fun o=>yI _ o⟩⟩
theorem Tp:Kd underTheClaimsCaller:=by
 unfold underTheClaimsCaller
 repeat' with_reducible first
  |assumption|exact Kd.pure _|exact Kd.yH _|exact Kd.fld _ _|exact Kd.u0 _ _ _|exact Kd.ld _|exact Kd.stk|exact Kd.alloc _|apply Kd.cond|apply Kd.bind|intro _|split
theorem Qo(env:Env)(outer:List Env):Kd (behindIsImport env outer):=by
 unfold behindIsImport
 repeat' with_reducible first
  |assumption|exact Kd.pure _|exact Kd.yH _|exact Kd.fld _ _|exact Kd.u0 _ _ _|exact Kd.ld _|exact Kd.stk|exact Kd.alloc _|apply Kd.cond|apply Kd.bind|intro _|split
theorem Xe(env:Env)(i:Bool)(l:List Env):Kd (keptBack env i l):=by
 have:=Tp;cases l<;>unfold keptBack<;>repeat' with_reducible first
  |assumption|exact Kd.pure _|exact Kd.yH _|exact Kd.fld _ _|exact Kd.u0 _ _ _|exact Kd.ld _|exact Kd.stk|exact Kd.alloc _|apply Kd.cond|apply Kd.bind|intro _|split
theorem Gy:∀l:List Env,Kd (readyFrames l)
 | []=>Kd.pure _
 |env::outer=>by
  have ih:=Gy outer;have h1:=Qo env outer;have h2:=fun i=>Xe env i outer;unfold readyFrames;cases hf:env.frame with
  |none=>exact Kd.yH _
  |some f=>
   dsimp only;refine Kd.bind (Kd.ld _) fun o=>Kd.cond (Kd.pure _) (Kd.bind h1 fun i=>Kd.bind (h2 i) fun b=>Kd.bind (Kd.upd _ _ fun o=>⟨rfl,rfl,fun h=>by obtain⟨c,d,dt,sl⟩:=o;cases dt<;>first|rfl|exact h⟩) fun _=>ih)
theorem yJ(l:List Env):Kd (frameObject l):=by
 cases l with
 |nil=>exact Kd.pure _
 |cons env outer=>exact Kd.bind (Gy _) fun _=>Kd.pure _
theorem Kc(env:Env):Kd (frameOf env):=by
 unfold frameOf frameEnvs;refine Kd.bind (Kd.bind Kd.stk fun _=>Kd.pure _) fun l=>Kd.bind (yJ _) fun o=>?_;cases o with
 |none=>exact Kd.yH _
 |some f=>exact Kd.pure _
theorem Bj(f:Addr)(b:Bool):Kd (entryPlaceOf f b):=by
 unfold entryPlaceOf;refine Kd.bind Kd.stk fun acts=>?_;split<;>exact Kd.pure _
theorem Gz(a b c d e:Value)(pl:List Value):Kd (EntryCells.newEntry a b c d e pl):=by
 unfold EntryCells.newEntry newFields newObj;dsimp only;have last:∀d:Data,Kd (newObjAsIs (Value.type "traceback") d):=fun d=>by
  unfold newObjAsIs;exact Kd.bind (Kd.alloc _) fun _=>Kd.pure _
 exact Kd.cond (Kd.bind (Kd.yH _) fun _=>last _) (last _)
theorem Du(e:Value)(env:Env):Kd (noteFrame e env):=by
 unfold noteFrame;cases hf:env.frame with
 |none=>exact Kd.yH _
 |some f=>
  dsimp only;have tail:∀head:Value,Kd (do setField e 1 (←EntryCells.newEntry head (←frameOf env) .none (rawInt f) .none (←entryPlaceOf f (head != .none)))):=fun head=>
   Kd.bind (Kc env) fun _=>Kd.bind (Bj _ _) fun _=>Kd.bind (Gz _ _ _ _ _ _) fun _=>Kd.u0 _ _ _
  refine Kd.bind (Kd.fld _ _) fun head=>Kd.cond ?_ (tail head);exact Kd.bind (Kd.fld _ _) fun m=>Kd.cond (Kd.pure _) (Kd.bind (Kd.u0 _ _ _) fun _=>tail head)
theorem u9(e:Value)(f:Option Addr):Kd (setFlight e f):=by
 unfold setFlight;exact Kd.bind (Kd.fld _ _) fun _=>Kd.cond (Kd.u0 _ _ _) (Kd.pure _)
theorem rZ(env:Env)(e:Value):Kd (leaving env e):=Kd.bind (Du e env) fun _=>u9 e none
theorem Kd.any{α:Type}{t:Sem α}{M:Model}{A:Around}{Q:α→Shared→Prop}{E:Value→Shared→Prop}{s:Shared}(k:Kd t)(h:wpAny M A t Q E s):wpAny M A t (fun a s'=>Q a s'∧DK s.heap s'.heap) E s:=
 fun G p hG=>k.out M G _ _ p s (h G p hG)
section
variable{M:Model}{A:Around}{E:Value→Shared→Prop}{h:Heap}{g:Array GenState}{d:Drawn}{t:Nat}{os:OsState}
variable{nm q:Str}{C N:Addr}{bs bm bB:List Value}{hd:Bool}{sn:List Str}{sub:List Value}{ab:Bool}{col:Option Bool}{dd:Option Addr}{k0 k1 k2 k3 k5:Option Value}{B nw ini:String}
abbrev exc(nm q:Str)(C N:Addr)(bs bm:List Value)(hd:Bool)(sn:List Str)(sub:List Value)(ab:Bool)(col:Option Bool)(dd:Option Addr)(k0 k1 k2 k3 k5:Option Value)(nw:String):Obj:=
 excClassObj nm q C N bs bm hd sn sub ab col dd k0 k1 k2 k3 k5 nw
theorem p8{v:Value}{b:Bool}(hb:bm.contains v=b)(hn:(v==Value.ref C)=false):(Value.ref C::bm).contains v=b:=by
 rw[List.contains_cons,hn,hb,Bool.false_or]
theorem Qp(F:ExcBaseFacts B nw ini bB)(hB:bm.contains (.type B)=true){rest:List Value}{Q:Unit→Shared→Prop}(hC:h.get? C=some (exc nm q C N bs bm hd sn sub ab col dd k0 k1 k2 k3 k5 nw))(hq:Q () ⟨h,g,d,t,os⟩):wpAny M A (checkBuiltinCall nw ⟨.ref C::rest,[]⟩) Q E ⟨h,g,d,t,os⟩:=by
 have c1:(Value.ref C::bm).contains (.type B)=true:=p8 hB rfl;have c2:=F.noStar;simp only[checkBuiltinCall,F.newKind,F.newSplit,F.newRow]
 repeat (first
  |refine wpAny_loadPart_at hC ?_
  | (refine wpAny_isSubtype_exc hC ?_;rw[c1])
  |refine wpAny_staticBase_exc hC ?_
  |refine wpAny_madeBy_exc hC ?_
  |simp only[bne_self_eq_false,false_eq_true,if_false]
  |wp_step)
 exact hq
end
section
variable{prog:Program}{w:World}{A:Around}{R:Result→Shared→Prop}{h:Heap}{g:Array GenState}{d:Drawn}{t:Nat}{os:OsState}
variable{nm q:Str}{C N:Addr}{bs bm bB:List Value}{hd:Bool}{sn:List Str}{sub:List Value}{ab:Bool}{col:Option Bool}{dd:Option Addr}{k0 k1 k2 k3 k5:Option Value}{B nw ini:String}
abbrev Dv(rest:List Value):Obj:={ cls:=.type "tuple",data:=.seq rest.toArray }
abbrev jR(C T:Addr):Obj:={ cls:=.ref C,data:=.fields #[.ref T,.none,.none,.none,.bool false,.none] }
theorem Xf(F:ExcBaseFacts B nw ini bB)(hB:bm.contains (.type B)=true)(hA:bm.contains (.type "AttributeError")=false)(hN:bm.contains (.type "NameError")=false){rest:List Value}(hC:h.get? C=some (exc nm q C N bs bm hd sn sub ab col dd k0 k1 k2 k3 k5 nw))(hq:R (.ok (.ret (.ref (h.objs.size+1)))) ⟨(h.push (Dv rest)).push (jR C h.objs.size),g,d,t,os⟩)(hr:rest.length≤sizeLine) :
  codeAny (model prog w) A (.builtin nw ⟨.ref C::rest,[]⟩) R ⟨h,g,d,t,os⟩:=by
 have f0:=F.ends;have c1:(Value.ref C::bm).contains (.type B)=true:=p8 hB rfl;have c2:(Value.ref C::bm).contains (.type "AttributeError")=false:=p8 hA rfl;have c3:(Value.ref C::bm).contains (.type "NameError")=false:=p8 hN rfl;refine codeAny_builtinAt F.entry ?_;unfold Builtin.«BaseException.__new__»;refine wpAt_bind ?_;show wpAt _ _ _ (stack >>= _) _ _ _;refine wpAt_bind (wpAt_stack fun p below=>wpAt_of_wpAny ?_)
 wp_walk
 refine wpAt_of_wpAny ?_;rw[F.owner]
 repeat (first
  |with_reducible refine wpAny_madeHere_exc F.canon hC ?_
  |with_reducible refine wpAny_loadPart_at hC ?_
  | (with_reducible refine wpAny_isSubtype_exc hC ?_;first|rw[c1]|rw[c2]|rw[c3])
  |wp_step)
 show R _ _;rw[size_push];exact hq
end
section
variable{prog:Program}{w:World}{A:Around}{E:Value→Shared→Prop}{h:Heap}{g:Array GenState}{d:Drawn}{t:Nat}{os:OsState}
variable{nm q:Str}{C N:Addr}{bs bm bB:List Value}{hd:Bool}{sn:List Str}{sub:List Value}{ab:Bool}{col:Option Bool}{dd:Option Addr}{k0 k1 k2 k3 k5:Option Value}{B nw ini:String}
theorem kept2{h:Heap}{u v:Obj}:∀b o,h.get? b=some o→((h.push u).push v).get? b=some o:=fun b o e=>get?_push_of_some _ (get?_push_of_some _ e)
abbrev Tq(M:Model)(h:Heap)(C fI:Addr):Prop:=∀(A:Around)(Q:Option Value→Shared→Prop)(E:Value→Shared→Prop)(s:Shared),(∀b o,h.get? b=some o→s.heap.get? b=some o)→Q (some (.ref fI)) s→wpAny M A (typeLookup (.ref C) "__init__") Q E s
theorem Qq(F:ExcBaseFacts B nw ini bB)(hB:bm.contains (.type B)=true)(hA:bm.contains (.type "AttributeError")=false)(hN:bm.contains (.type "NameError")=false){rest:List Value}{fI:Addr}{oI:Obj}{Q:Fin→Shared→Prop}(hC:h.get? C=some (exc nm q C N bs bm hd sn sub ab col dd k0 k1 k2 k3 k5 nw))(hi:Tq (model prog w) h C fI)(hf:h.get? fI=some oI)(hfc:oI.cls=.type "function")(hr:rest.length≤sizeLine)(hq:wpAny (model prog w) A (call (.ref fI) (.ref (h.objs.size+1)::rest)) (fun r s'=>r=.none∧Q (.done (.ret (.ref (h.objs.size+1)))) s') E ⟨(h.push (Dv rest)).push (jR C h.objs.size),g,d,t,os⟩) :
  wpAny (model prog w) A (Builtin.«type.__call__» ⟨.ref C::rest,[]⟩) Q E ⟨h,g,d,t,os⟩:=by
 repeat (first|with_reducible refine wpAny_madeBy_exc hC ?_|with_reducible refine wpAny_loadPart_at hC ?_|wp_step)
 refine codeAny_call_builtin_code (Code.quiet_builtin _ F.quiet) (Qp F hB hC ?_);refine Xf F hB hA hN hC ?_ hr;show wpAny _ _ _ _ _ _;have c1:=kept2 (u:=Dv rest) (v:=jR C h.objs.size) _ _ hC;have c2:=kept2 (u:=Dv rest) (v:=jR C h.objs.size) _ _ hf;have c4:((h.push (Dv rest)).push (jR C h.objs.size)).get? (h.objs.size+1)=some (jR C h.objs.size):=by heap_get
 have c5:(Value.ref C::bm).contains (.ref C)=true:=by simp
 unfold isInstance
 repeat (first|with_reducible refine wpAny_loadPart_at c4 ?_ | (with_reducible refine wpAny_isSubtype_exc c1 ?_;rw[c5])|wp_step)
 show wpAny _ _ (typeLookup (.ref C) _) _ _ _;refine hi _ _ _ _ kept2 ?_;refine wpAny_holding (wpAny_bind ?_);unfold bindSpecial;refine wpAny_bind (wpAny_typeOf (T:="function") ⟨_,c2,hfc⟩ ?_);rw[if_pos (by decide)];refine wpAny_pure (wpAny_bind (wpAny_mono hq (fun r s' hr=>?_) fun _ _ x=>x));obtain⟨rfl,z⟩:=hr
 wp_walk
 exact z
theorem call_exc(F:ExcBaseFacts B nw ini bB)(hB:bm.contains (.type B)=true)(hA:bm.contains (.type "AttributeError")=false)(hN:bm.contains (.type "NameError")=false){rest:List Value}{fI:Addr}{oI:Obj}{Q:Value→Shared→Prop}(hC:h.get? C=some (exc nm q C N bs bm hd sn sub ab col dd k0 k1 k2 k3 k5 nw))(hi:Tq (model prog w) h C fI)(hf:h.get? fI=some oI)(hfc:oI.cls=.type "function")(hr:rest.length≤sizeLine)(hq:wpAny (model prog w) (A.under (.builtin "type.__call__" ⟨.ref C::rest,[]⟩)) (call (.ref fI) (.ref (h.objs.size+1)::rest)) (fun r s'=>r=.none∧Q (.ref (h.objs.size+1)) s') E
   ⟨(h.push (Dv rest)).push (jR C h.objs.size),g,d,t,os⟩):wpAny (model prog w) A (call (.ref C) rest) Q E ⟨h,g,d,t,os⟩:=by
 have l1:=tc_lookup;have l2:=tc_bind (.ref C);have l3:(⟨h,g,d,t,os⟩:Shared).TypeIs (.ref C) "type":=⟨_,hC,rfl⟩;refine wpAny_call (codeAny_of_tree ?_);show wpAny _ _ (callAny (.ref C) _) _ _ _
 repeat (any_goals (first|assumption|with_reducible refine wpAny_loadPart_at hC ?_|wp_step))
 refine⟨rfl,?_⟩;exact codeAny_call_builtin_at (Code.quiet_builtin _ (by decide +kernel)) entry_typeCall (wpAny_check_type_call_sub hC (Qq F hB hA hN hC hi hf hfc hr hq))
end
section
variable{M:Model}{A:Around}{E:Value→Shared→Prop}{env:Env}
variable{nm q:Str}{C N:Addr}{bs bm:List Value}{hd:Bool}{sn:List Str}{sub:List Value}{ab:Bool}{col:Option Bool}{dd:Option Addr}{k0 k1 k2 k3 k5:Option Value}{nw:String}
theorem yK{s:Shared}{x:Sem Value}{Q:Flow→Shared→Prop}(hb:bm.contains (.type "BaseException")=true)(hh:A.handled=none)(h:wpAny M A x (fun v s1=>∃e T dx sl,v=.ref e∧s1.heap.get? C=some (exc nm q C N bs bm hd sn sub ab col dd k0 k1 k2 k3 k5 nw) ∧
   s1.heap.get? e=some { cls:=.ref C,dict:=dx,data:=.fields #[.ref T,.none,.none,.none,.bool false,.none],slots:=sl }∧E (.ref e) s1) E s) :
  wpAny M A (raiseStmt env (some x) none) Q E s:=by
 have c1:(Value.ref C::bm).contains (.type "BaseException")=true:=p8 hb rfl;unfold raiseStmt;refine wpAny_bind (wpAny_mono h (fun v s1 h1=>?_) fun _ _ x=>x);obtain⟨e,T,dx,sl,rfl,hC,he,hE⟩:=h1;obtain⟨hp,g,d,tk,os⟩:=s1
 repeat (first
  |with_reducible refine wpAny_loadPart_at he ?_
  |with_reducible refine wpAny_loadPart_at hC ?_
  | (with_reducible refine wpAny_isSubtype_exc hC ?_;rw[c1])
  |wp_step)
 exact wpAny_raiseNew_none hh hE
theorem sE{s:Shared}{x:Expr}{pos:Pos}{Q:Flow→Shared→Prop}(h:wpAny M A (raiseStmt env (some (do let v ←eval x env;standAt pos;pure v)) none) Q E s):wpAny M A (exec (.Raise (some x) none pos) env) Q E s:=by
 rw[arm_exec_Raise]
 first
  |exact wpAny_bind (wpAny_standAt h)
  | (simp only[evalOpt,Option.map];exact wpAny_bind (wpAny_standAt h))
end
end Xc
namespace Xc
open PySem PySem.Spec PyProof.Rows L2
structure acp(P:Program)(w:World)(outer:List Env)(H:Hp)(s:Shared)(E:XK)(a:Addr)(s':Shared)(B:Heap)(C dx:Addr)(a0:Value)(H':Hp):Prop where
 os:s'.os=s.os
 bare:AllBare s'.gens
 fly:Heap.FlyingW B outer a (.ref C) a0 s'.heap
 dict:∃o,s'.heap.get? a=some o∧o.dict=some dx
 keep:∀b o,s.heap.get? b=some o→H b=none→b∉frs outer→B.get? b=some o
 un:Un (frs outer) [] H H' s.heap s'.heap
 hok:oF P w H' B
 wish:E (.ref C) (some dx) H'
def bI(P:Program)(w:World):Wr:=fun outer H s E e s'=>∃(a:Addr)(B:Heap)(C dx:Addr)(a0:Value)(H':Hp),e=.ref a∧acp P w outer H s E a s' B C dx a0 H'
theorem aF{P:Program}{w:World}{X:Cx}:Passes (bI P w) X E0:=fun _ _ _ _ _ _ _ h=>by
 obtain⟨_,_,_,_,_,_,_,f⟩:=h;exact f.wish.elim
theorem bG{P:Program}{w:World}{K:PySem.W.Frag}{mg:Str→Option Value}{base:Heap}{N:List Str}{qual:Str}{scope:Scope}{f:Addr}{cd:Value}{A:Around}{outer:List Env}{s:Shared}{H:Hp}{E:XK} :
  Passes (bI P w) (aL (bI P w) P w K mg base N qual scope f cd A outer s H E) E:=by
 intro pins σ H1 s1 e s' I h;obtain⟨a,B,C,dx,a0,H',rfl,F⟩:=h;have fl:=F.fly;refine wpAny_mono (Kd.any (rZ _ _) (wpAny_leaves_onW (Q:=fun _ s''=>∃h',s''={ s' with heap:=h' }∧Heap.FlyingW B outer a (.ref C) a0 h'∧s'.heap.UpToSlots h') I.ok.frames rfl fl fun h' f1 f2=>⟨h',rfl,f1,f2⟩)) ?_ fun e' s'' z=>z;rintro _ s'' ⟨⟨h',rfl,f1,f2⟩,dk⟩;obtain⟨o,ho,hd⟩:=F.dict;obtain⟨o',ho',hd',_⟩:=dk a o ho;have rJ:∀b:Addr,b∉(aL (bI P w) P w K mg base N qual scope f cd A outer s H E).ex:=fun b z=>absurd (show b∈([]:List Addr) from z) (by simp);have keep:∀b o,s.heap.get? b=some o→H b=none→b∉frs outer→B.get? b=some o:=fun b o q n hb=>by
  refine F.keep b o (I.base.keep b o q n hb (rJ b)) (I.base.free b o q n (rJ b)) fun z=>?_;rcases mem_cons.mp (I.mK b z) with e1|e1
  ·have l1:=lt_size q;have l2:s.heap.objs.size≤b:=by rw[e1];exact I.ok.above
   exact absurd (lt_of_lt_of_le l1 l2) (lt_irrefl _)
  ·exact hb e1
 refine⟨a,B,C,dx,a0,H',rfl,F.os.trans I.os,F.bare,f1,⟨o',ho',hd'.trans hd⟩,keep,?_,F.hok,F.wish⟩;refine⟨fun b ob q n hb _=>f1.1 b ob (keep b ob q n hb),fun b ob q n hb _=>?_,fun b ob q n _=>?_,fun b ob q _=>?_,fun b xs q=>F.un.tups b xs (I.base.tups b xs q),fun b ob u q=>F.un.kO b ob u (I.base.kO b ob u q),fun b ps q=>?_⟩
 ·obtain⟨sl,e1⟩:=I.base.slot b ob q n hb (rJ b);have hb2:b∈frs (aL (bI P w) P w K mg base N qual scope f cd A outer s H E).stack:=by
   show b∈List.filterMap _ (_::outer);rw[filterMap_cons];exact mem_cons_of_mem _ hb
  obtain⟨sl2,e2⟩:=F.un.slot b _ e1 (I.base.free b ob q n (rJ b)) hb2 (by simp);obtain⟨_,o3,e3,d3⟩:=fl.2.2.1.mem hb2;rw[e2]at e3;obtain rfl:=Option.some.inj e3;obtain⟨Z5,e4⟩:=f2 b _ e2 d3;exact⟨Z5,e4⟩
 ·obtain⟨o1,e1⟩:=I.base.there b ob q (rJ b);exact F.un.free b o1 e1 (I.base.free b ob q n (rJ b)) (by simp)
 ·obtain⟨o1,e1⟩:=I.base.there b ob q (rJ b);obtain⟨o2,e2⟩:=F.un.there b o1 e1 (by simp);obtain⟨o3,e3,_⟩:=dk b o2 e2;exact⟨o3,e3⟩
 ·obtain⟨m1,e1⟩:=I.base.kW b ps q;obtain⟨m2,e2⟩:=F.un.kW b _ e1;exact⟨m1++m2,by rw[e2,Array.append_assoc]⟩
end Xc
namespace Xc
open PySem PySem.W PySem.Builtin PySem.Builtin.ObjectAttr
def lZ:List Value→Bool
 | [.type a,.type b,.type c]=>a=="Exception"&&(b=="BaseException"&&c=="object")
 | .ref _::r=>lZ r
 |_=>false
theorem um{c:Addr}{r:List Value}(h:lZ (.ref c::r)=true):lZ r=true:=by
 cases r<;>first|exact h|cases h
theorem yL(self:Value):∀{l:List Value},lZ l=true→refuseLoop self "__setattr__" l=pure ()
 | [.type a,.type b,.type c],h=>by
  simp only[lZ,and_eq_true,beq_iff_eq]at h;obtain⟨rfl,rfl,rfl⟩:=h;exact PySem.F.store_Exception.passes self
 | .ref c::r,h=>by
  rw[refuseLoop_ref];exact yL self (um h)
theorem v8:∀{l:List Value},lZ l=true→l.contains (.type "object")=true
 | [.type a,.type b,.type c],h=>by
  simp only[lZ,and_eq_true,beq_iff_eq]at h;obtain⟨rfl,rfl,rfl⟩:=h;decide +kernel
 | .ref c::r,h=>by
  rw[List.contains_cons,v8 (um h),Bool.or_true]
def xu(K:Frag)(C:Addr):Bool:=(clsIn K C).any fun cd=>lZ cd.mro
section
variable{prog:Program}{w:World}{A:Around}{K:Frag}{C x:Addr}{s:Shared}{R:Result→Shared→Prop}
theorem Xg{ox:Obj}{od:Option Obj}{name:Str}{tk:Tok}{v:Value}(X:K.In s.heap)(I:InstAt s.heap x ox C od)(hp:xu K C=true)(ht:findIn K (.ref C) name=some none)(h:wpAny (model prog w) A.in1 (storeInOwnDict (.ref x) (.ref C) (.str name tk) name v false)
   (fun fin s'=>match fin with | .done f=>R (.ok f) s' | .again c'=>c'.quiet=true∧codeAny (model prog w) A c' R s') (fun e s'=>R (.error e) s') s) :
  codeAny (model prog w) A (.call (.builtin "object.__setattr__") ⟨[.ref x,.str name tk,v],[]⟩) R s:=by
 have SF:=PySem.F.store_object;obtain⟨cd,hc,ho⟩:=any_some hp;have ne:cd.mro.isEmpty=false:=by
  cases q:cd.mro with
  |nil=>rw[q]at ho;cases ho
  |cons _ _=>rfl
 have inst:Looks (model prog w) s.heap (isInstance (.ref x) (.type "object")) true:=I.type.andThen (looks_mroIn X (by
  unfold mroIn;rw[hc,Option.bind_some,if_neg (by rw[ne];decide),v8 ho]))
 have mro:Looks (model prog w) s.heap (mroOf (.ref C)) cd.mro:=(looks_clsIn X hc).andThen .now;refine codeAny_call_builtin SF.slot.plain SF.entry
  (@check_slot (model prog w) _ _ s "object.__setattr__" "object" "__setattr__" (.ref x) [.str name tk,v] [] _ SF.kind SF.split inst (SF.args (.ref x) (.str name tk) v) ?_)
 rw[osa_eq,refuse_eq];refine wpAny_bind (wpAny_bind (I.type.here (wpAny_bind (mro.here ?_))));rw[yL _ ho];refine wpAny_pure (wpAny_bind (I.type.here (wpAny_bind ((looks_findIn X ht).here (wpAny_bind ?_)))));exact wpAny_pure (a:=none) h
theorem Ke{E:Value→Shared→Prop}{name:Str}{v:Value}{Q:Unit→Shared→Prop}{T:Addr}(X:K.In s.heap)(hx:s.heap.get? x=some (jR C T))(hs:findIn K (.ref C) "__setattr__"=some (some (.builtin "object.__setattr__")))(hp:xu K C=true)(ht:findIn K (.ref C) name=some none)(hh:hasDictIn K C=true)(h:∀h' tk,h'.get? x=some { jR C T with dict:=some s.heap.objs.size }→h'.Ns1 s.heap.objs.size (fun y=>if y=name then some v else none)→(∀b o,b≠x→s.heap.get? b=some o→h'.get? b=some o)→Q () { s with heap:=h',toks:=tk }) :
  wpAny (model prog w) A (setAttr (.ref x) name v) Q E s:=by
 have J:InstAt s.heap x (jR C T) C none:=⟨hx,rfl,rfl,trivial⟩;refine set_plain X J hs (Xg (s:={ s with toks:=s.toks+1 }) X J hp ht ?_);obtain⟨cd,hc,hd⟩:=any_some hh;obtain⟨hp0,g,d,tk,os⟩:=s;have hxs:x≠hp0.objs.size:=ne_of_lt (lt_size hx);have hx1:(hp0.push emptyDict).get? x=some (jR C T):=get?_push_of_some _ hx;refine wpAny_bind (wpAny_pure (wpAny_bind (wpAny_bind (wpAny_loadPart hx (wpAny_bind (Looks.here (s:=⟨hp0,g,d,tk+1,os⟩) (looks_clsIn X hc) ?_))))));rw[hd];refine wpAny_bind (wpAny_alloc' ?_);refine wpAny_bind (wpAny_update' hx1 ?_);refine wpAny_pure (a:=some hp0.objs.size) (wpAny_bind (wpAny_pure (wpAny_bind ?_)));have gd:((hp0.push emptyDict).update x fun o=>{ o with dict:=some hp0.objs.size }).get? hp0.objs.size=some emptyDict:=
  (Heap.get?_update_ne _ _ _ _ hxs.symm).trans (Heap.get?_push_at rfl rfl)
 have nd:((hp0.push emptyDict).update x fun o=>{ o with dict:=some hp0.objs.size }).Ns hp0.objs.size (fun _=>none):=
  ⟨_,#[],_,gd,rfl,fun e he=>absurd he (by simp),fun _=>rfl⟩
 refine wpAny_nsSet1 (s:=⟨(hp0.push emptyDict).update x fun o=>{ o with dict:=some hp0.objs.size },g,d,tk+1,os⟩) (Heap.Ns1.of_empty nd) fun h' hn' hs'=>?_;obtain⟨oD,esD,epD,hoD,hdD,hcD⟩:=hn'.count (Within.cons name v Within.nil);refine wpAny_bind (wpAny_lookBehind hoD (by rw[hdD];exact pastItsLine_dict (le_trans hcD (by rw[length_cons,length_nil,sizeLine_eq];omega))) ?_);refine wpAny_pure (h h' _ ?_ hn' fun b o hbx hb=>?_)
 ·exact(hs'.2 x hxs).trans (Heap.get?_update_self _ hx1 rfl)
 ·exact(hs'.2 b (ne_of_lt (lt_size hb))).trans ((Heap.get?_update_ne _ _ _ _ hbx).trans (get?_push_of_some _ hb))
end
end Xc
namespace Xc
open PySem PySem.Spec PyProof.Rows L2
def uo(C a:Addr):Heap→Prop:=fun h=>∃T,h.get? a=some (jR C T)
def qb(C dx a:Addr):Heap→Prop:=fun h=>∃T,h.get? a=some { jR C T with dict:=some dx }
structure Xh(K:PySem.W.Frag)(C:Addr):Prop where
 sa:PySem.W.findIn K (.ref C) "__setattr__"=some (some (.builtin "object.__setattr__"))
 over:xu K C=true
 dct:PySem.W.hasDictIn K C=true
section
variable{X:Cx}{pins:List (Addr×Obj)}{σ:L2.St}{H:Hp}{s:Shared}
theorem Xi{C a:Addr}{f:Str}{y:V}{u:Value}{E:Value→Shared→Prop}{A:Around}{Q:Unit→Shared→Prop}(I:Inv X pins σ H s)(ha:H a=some (.ext (uo C a)))(c:Xh X.K C)(n:PySem.W.findIn X.K (.ref C) f=some none)(r:RelV y u)(h:∀dx s',H dx=none→Inv X pins σ (upd (upd H dx (.xd [(f,y)])) a (.ext (qb C dx a))) s'→Q () s'):wpAny (model X.prog X.w) A (setAttr (.ref a) f u) Q E s:=by
 obtain⟨⟨T,hx⟩,_,_⟩:=I.hok a _ ha;have hdn:H s.heap.objs.size=none:=I.hok.fresh (le_refl _);have hda:s.heap.objs.size≠a:=ne_of_gt (lt_size hx);refine Ke I.rQ hx c.sa c.over n c.dct fun h' tk g1 g2 g3=>h s.heap.objs.size _ hdn ?_;have ntr:∀b o,H b=some o→(∀φ,o≠.ext φ)→b≠a∧b≠s.heap.objs.size:=fun b o e ne=>⟨fun z=>by rw[z,ha]at e;exact ne _ (Option.some.inj e).symm,aB e hdn⟩;refine I.un ⟨fun b o q n' _ _=>g3 b o (fun z=>by rw[z,ha]at n';cases n') q,fun b o q n' _ _=>⟨o.slots,g3 b o (fun z=>by rw[z,ha]at n';cases n') q⟩,fun b o q n' _=>?_,fun b o q _=>?_,fun b xs q=>?_,fun b o v q=>?_,fun b ps q=>⟨#[],?_⟩⟩ ?_
 ·rw[aj (fun z=>by rw[z,ha]at n';cases n'),aj (ne_of_lt (lt_size q))];exact n'
 ·by_cases hb:b=a
  ·rw[hb];exact⟨_,g1⟩
  ·exact⟨o,g3 b o hb q⟩
 ·obtain⟨z1,z2⟩:=ntr b _ q (fun φ z=>by cases z);rw[aj z1,aj z2];exact q
 ·obtain⟨z1,z2⟩:=ntr b _ q (fun φ z=>by cases z);rw[aj z1,aj z2];exact q
 ·obtain⟨z1,z2⟩:=ntr b _ q (fun φ z=>by cases z);rw[aj z1,aj z2,q];simp
 ·intro b o e;by_cases hb:b=a
  ·subst hb;rw[ao]at e;obtain rfl:=Option.some.inj e;exact⟨⟨T,g1⟩,⟨_,g1⟩,fun h1 h2 ⟨T',p⟩ k=>⟨T',k _ p⟩⟩
  ·rw[aj hb]at e;by_cases hb2:b=s.heap.objs.size
   ·subst hb2;rw[ao]at e;obtain rfl:=Option.some.inj e;refine⟨_,g2,fun g=>?_⟩;show oE (List.lookup g [(f,y)]) (if g=f then some u else none);by_cases q:g=f
    ·rw[if_pos q,lookup_cons,q,beq_self_eq_true];exact r
    ·rw[if_neg q,lookup_cons,beq_eq_false_iff_ne.mpr q];exact True.intro
   ·rw[aj hb2]at e;refine(I.hok b o e).stay (fun c' v hc q=>g3 c' v ?_ q) (fun c' q=>?_) fun c' xs q=>?_
    ·rcases hc with rfl|hc
     ·exact hb
     ·exact(ntr c' _ hc (fun φ z=>by cases z)).1
    ·obtain⟨z1,z2⟩:=ntr c' _ q (fun φ z=>by cases z);rw[aj z1,aj z2];exact q
    ·obtain⟨z1,z2⟩:=ntr c' _ q (fun φ z=>by cases z);rw[aj z1,aj z2];exact q
end
def acq(K:PySem.W.Frag)(ta tv:TE)(f:Str):TS:=fun D σ H=>tv σ H fun y H1=>ta σ H1 fun x H2=>∃a C,x=.ref a∧H2 a=some (.ext (uo C a))∧Xh K C∧PySem.W.findIn K (.ref C) f=some none ∧
 ∀dx,H2 dx=none→D.nx σ (upd (upd H2 dx (.xd [(f,y)])) a (.ext (qb C dx a)))
section
variable{X:Cx}{o e value:Expr}{f:Str}{pos pos' tpos:Pos}{ta tv:TE}
theorem Xj(ha:PE X o ta)(hv:PE X value tv)(hs:swapsWith value (some (.Attribute o f pos')) pos.line X.env=pure false):PS X (.Assign [.Attribute o f pos'] value pos) (acq X.K ta tv f):=by
 intro pins s σ H D I h;refine plainObj_wpAny_Assign_Attribute (dH (hv pins s σ H _ I h) fun u s1 ⟨y,H1,I1,ry,q⟩=>dH (ha pins s1 σ H1 _ I1 q) fun ov s2 ⟨x,H2,I2,rx,a,C,ex,ea,c,n,q2⟩=>?_) hs;subst ex;obtain rfl:ov=Value.ref a:=rx;exact Xi I2 ea c n ry fun dx s3 hd I3=>⟨σ,_,I3,q2 dx hd⟩
end
structure Kf(K:PySem.W.Frag)(C fI:Addr):Prop where
 cls:∃nm q N bs bm hd sn sub ab col dd k0 k1 k2 k3 k5,K.lookup C=some (exc nm q C N bs bm hd sn sub ab col dd k0 k1 k2 k3 k5 "Exception.__new__")∧bm.contains (.type "Exception")=true∧bm.contains (.type "AttributeError")=false ∧
  bm.contains (.type "NameError")=false∧bm.contains (.type "BaseException")=true
 init:PySem.W.findIn K (.ref C) "__init__"=some (some (.ref fI))
 fn:∃o,K.lookup fI=some o∧o.cls=.type "function"
 kp:keepIn K (.ref C)=true
section
variable{X:Cx}{CX:Wr}{k:Nat}{f C:Addr}{fd:FuncData}{ps:List Str}{sp:Sp}{E:XK}{x:Str}{p pos cpos:Pos}{e:Expr}{es:List Expr}{t:TA}
theorem Dw{pins:List (Addr×Obj)}{σ:L2.St}{H:Hp}{s:Shared}{Q:V→Hp→Prop}{us:List Value}{vs:List V}(M:Kf X.K C f)(F:iT X.prog X.w X.K X.mg X.base CX k f fd ps sp)(hr:cY (k+1) X.A)(hb:Binds X.K fd ps [])(hx:Passes CX X E)(I:Inv X pins σ H s)(r:Vals vs us)(hz:us.length≤sizeLine)(h:∀a,H a=none→sp (.ref a::vs) (upd H a (.ext (uo C a))) (fun v H2=>v=.non∧Q (.ref a) H2) E):wpAny (model X.prog X.w) X.A (call (.ref C) us) (EP X pins σ Q) X.xe s:=by
 obtain⟨nm,q,N,bs,bm,hd,sn,sub,ab,col,dd,k0,k1,k2,k3,k5,lk,b1,b2,b3,b4⟩:=M.cls;obtain⟨oI,lI,cI⟩:=M.fn;have hq:=h (s.heap.objs.size+1) (I.hok.fresh (le_succ _));obtain⟨hp,g,d,tk,os⟩:=s;have I1:Inv X pins σ H { (⟨hp,g,d,tk,os⟩:Shared) with heap:=hp.push (Dv us),toks:=tk }:=I.kept (t':=tk) fun b u e=>get?_push_of_some _ e;have new:((hp.push (Dv us)).push (jR C hp.objs.size)).get? (hp.objs.size+1)=some (jR C hp.objs.size):=by heap_get
 have I2:Inv X pins σ (upd H (hp.objs.size+1) (.ext (uo C (hp.objs.size+1)))) ⟨(hp.push (Dv us)).push (jR C hp.objs.size),g,d,tk,os⟩:=by
  refine I1.laid (a:=hp.objs.size+1) (o:=.ext (uo C (hp.objs.size+1))) (t':=tk) (fun b u e=>get?_push_of_some _ e) (le_of_eq (size_push _ _)) ?_;exact⟨⟨_,new⟩,⟨_,new⟩,fun h1 h2 ⟨T',z⟩ kk=>⟨T',kk _ z⟩⟩
 have r2:Vals (V.ref (hp.objs.size+1)::vs) (Value.ref (hp.objs.size+1)::us):=.cons rfl r;have hl:(Value.ref (hp.objs.size+1)::us++[]).length=ps.length:=by
  rw[append_nil,←r2.length];exact F.len _ _ _ _ hq
 have hbd:=hb _ (Value.ref (hp.objs.size+1)::us) I2.rQ hl;rw[append_nil]at hbd;refine call_exc PySem.F.excBase_Exception b1 b2 b3 (I.rQ _ _ lk) (PySem.W.looks_findIn I.rQ M.init) (I.rQ _ _ lI) cI hz ?_;refine wpAny_call (codeAny_mono (F.run _ X.stack _ _ ⟨Value.ref (hp.objs.size+1)::us,[]⟩ (Value.ref (hp.objs.size+1)::us) _ _ E (hr.make C us []) (I2.env0.make C us []) hbd r2 hq) fun rr s' hq'=>?_);cases rr with
 |error e=>exact hx pins σ _ _ e s' I2 hq'
 |ok fl=>
  cases fl with
  |ret u=>
   obtain⟨v,H',I3,rv,ev,q3⟩:=I2.after hq';subst ev;exact⟨rv,⟨V.ref (hp.objs.size+1),H',I3,rfl,q3⟩⟩
  |next=>exact False.elim hq'
  |brk=>exact False.elim hq'
  |cont=>exact False.elim hq'
end
def del(H:Hp)(a:Addr):Hp:=fun b=>if b=a then none else H b
theorem fP{H:Hp}{a b:Addr}(h:b≠a):del H a b=H b:=if_neg h
theorem yM{H:Hp}{a:Addr}:del H a a=none:=if_pos rfl
def yN(C:Addr)(sp:Sp)(E:XK)(t:TA):TS:=fun _ σ H=>t σ H fun vs H1=>vs.length≤sizeLine∧∀a,H1 a=none→sp (.ref a::vs) (upd H1 a (.ext (uo C a)))
 (fun v H2=>v=.non∧∃a' dx,V.ref a=.ref a'∧H2 a'=some (.ext (qb C dx a'))∧E (.ref C) (some dx) (del H2 a')) E0
section
variable{P:Program}{w:World}{K:PySem.W.Frag}{mg:Str→Option Value}{base:Heap}{N:List Str}{qual:Str}{scope:Scope}{f:Addr}{cd:Value}{A:Around}{outer:List Env}{s:Shared}{H:Hp}{E:XK}
theorem thrown{pins:List (Addr×Obj)}{σ:L2.St}{H2:Hp}{s2:Shared}{a C dx:Addr}(I:Inv (aL (bI P w) P w K mg base N qual scope f cd A outer s H E) pins σ H2 s2)(ha:H2 a=some (.ext (qb C dx a)))(hE:E (.ref C) (some dx) (del H2 a)) :
  (aL (bI P w) P w K mg base N qual scope f cd A outer s H E).xe (.ref a) s2:=by
 obtain⟨⟨T,hx⟩,_,_⟩:=I.hok a _ ha;have rJ:∀b:Addr,b∉(aL (bI P w) P w K mg base N qual scope f cd A outer s H E).ex:=fun b z=>absurd (show b∈([]:List Addr) from z) (by simp);have hin:∀env∈(aL (bI P w) P w K mg base N qual scope f cd A outer s H E).stack,∀b,env.frame=some b→b∈a::frs (aL (bI P w) P w K mg base N qual scope f cd A outer s H E).stack:=fun env he b hb=>
  mem_cons_of_mem _ (mem_filterMap.mpr ⟨env,he,hb⟩)
 have hfr:=PySem.W.funFrames_hide I.stack hin;have toB:∀b o,s2.heap.get? b=some o→b≠a→b∉frs (aL (bI P w) P w K mg base N qual scope f cd A outer s H E).stack→(hideAll s2.heap (a::frs (aL (bI P w) P w K mg base N qual scope f cd A outer s H E).stack)).get? b=some o:=
  fun b o q h1 h2=>hideAll_get _ q fun z=>(mem_cons.mp z).elim h1 h2
 refine wpAny_mono (Kd.any (rZ _ _) (wpAny_leaving_firstW (base:=hideAll s2.heap (a::frs (aL (bI P w) P w K mg base N qual scope f cd A outer s H E).stack)) (a0:=.ref T)
  (Q:=fun _ s''=>∃h',s''={ s2 with heap:=h' }∧Heap.LeftW (hideAll s2.heap (a::frs (aL (bI P w) P w K mg base N qual scope f cd A outer s H E).stack)) (aL (bI P w) P w K mg base N qual scope f cd A outer s H E).stack a (.ref C) (.ref T) s2.heap h')
  I.ok.frames hfr rfl hx (fun b o q=>of_hideAll _ q) (hideAll_none _ mem_cons_self) rfl rfl rfl fun h' l=>⟨h',rfl,l⟩)) ?_ fun e' s'' z=>z
 rintro _ s'' ⟨⟨h',rfl,l1,l2,l3,l4⟩,dk⟩;obtain⟨o',ho',hd',_⟩:=dk a _ hx;have tr:∀b o,H2 b=some o→(∀φ,o≠.ext φ)→b≠a:=fun b o e ne z=>by rw[z,ha]at e;exact ne _ (Option.some.inj e).symm
 have keep:∀b o,s.heap.get? b=some o→H b=none→b∉frs outer→(hideAll s2.heap (a::frs (aL (bI P w) P w K mg base N qual scope f cd A outer s H E).stack)).get? b=some o:=fun b o q n hb=>by
  have n2:=I.base.free b o q n (rJ b);refine toB b o (I.base.keep b o q n hb (rJ b)) (fun z=>by rw[z,ha]at n2;cases n2) fun z=>?_;rcases mem_cons.mp (I.mK b z) with e1|e1
  ·have l1:=lt_size q;have l2:s.heap.objs.size≤b:=by rw[e1];exact I.ok.above
   exact absurd (lt_of_lt_of_le l1 l2) (lt_irrefl _)
  ·exact hb e1
 refine⟨a,_,C,dx,.ref T,del H2 a,rfl,I.os,I.bare,⟨l1,hideAll_none _ mem_cons_self,l2.2.2,l3⟩,⟨o',ho',hd'⟩,keep,?_,fun b o e=>?_,hE⟩
 ·refine⟨fun b ob q n hb _=>l1 b ob (keep b ob q n hb),fun b ob q n hb _=>?_,fun b ob q n _=>?_,fun b ob q _=>?_,fun b xs q=>?_,fun b ob u q=>?_,fun b ps q=>?_⟩
  ·obtain⟨sl,e1⟩:=I.base.slot b ob q n hb (rJ b);have hb2:b∈frs (aL (bI P w) P w K mg base N qual scope f cd A outer s H E).stack:=by
    show b∈List.filterMap _ (_::outer);rw[filterMap_cons];exact mem_cons_of_mem _ hb
   obtain⟨_,o3,e3,d3⟩:=I.stack.mem hb2;rw[e1]at e3;obtain rfl:=Option.some.inj e3;obtain⟨Z5,e4⟩:=l4 b _ e1 d3;exact⟨Z5,e4⟩
  ·have n2:=I.base.free b ob q n (rJ b);by_cases hb:b=a
   ·rw[hb];exact yM
   ·rw[fP hb];exact n2
  ·obtain⟨o1,e1⟩:=I.base.there b ob q (rJ b);obtain⟨o3,e3,_⟩:=dk b o1 e1;exact⟨o3,e3⟩
  ·have q2:=I.base.tups b xs q;rw[fP (tr b _ q2 fun φ z=>by cases z)];exact q2
  ·have q2:=I.base.kO b ob u q;rw[fP (tr b _ q2 fun φ z=>by cases z)];exact q2
  ·obtain⟨m,q2⟩:=I.base.kW b ps q;exact⟨m,by rw[fP (tr b _ q2 fun φ z=>by cases z)];exact q2⟩
 ·have hb:b≠a:=fun z=>by rw[z,yM]at e;cases e
  rw[fP hb]at e;refine(I.hok b o e).stay (fun c u hc q=>toB c u q ?_ fun z=>?_) (fun c q=>?_) fun c xs q=>?_
  ·rcases hc with rfl|hc
   ·exact hb
   ·exact tr c _ hc fun φ z=>by cases z
  ·have nf:=I.tR c z;rcases hc with rfl|hc
   ·rw[e]at nf;cases nf
   ·rw[hc]at nf;cases nf
  ·rw[fP (tr c _ q fun φ z=>by cases z)];exact q
  ·rw[fP (tr c _ q fun φ z=>by cases z)];exact q
variable{k:Nat}{C fI:Addr}{fd:FuncData}{ps:List Str}{sp:Sp}{x:Str}{p pos cpos:Pos}{e:Expr}{es:List Expr}{t:TA}
theorem yO{pins:List (Addr×Obj)}{σ:L2.St}{H1:Hp}{s1:Shared}{env:Env}{ev:Sem Value}{D:Flow→Shared→Prop}(M:Kf K C fI)(I:Inv (aL (bI P w) P w K mg base N qual scope f cd A outer s H E) pins σ H1 s1)(h:wpAny (model P w) (aL (bI P w) P w K mg base N qual scope f cd A outer s H E).A ev (EP (aL (bI P w) P w K mg base N qual scope f cd A outer s H E) pins σ fun v H2=>∃a dx,v=.ref a∧H2 a=some (.ext (qb C dx a))∧E (.ref C) (some dx) (del H2 a))
   (aL (bI P w) P w K mg base N qual scope f cd A outer s H E).xe s1)(hh:(aL (bI P w) P w K mg base N qual scope f cd A outer s H E).A.handled=none) :
  wpAny (model P w) (aL (bI P w) P w K mg base N qual scope f cd A outer s H E).A (raiseStmt env (some (do let v ←ev;standAt pos;pure v)) none) D (aL (bI P w) P w K mg base N qual scope f cd A outer s H E).xe s1:=by
 obtain⟨nm,q,N',bs,bm,hd,sn,sub,ab,col,dd,k0,k1,k2,k3,k5,lk,b1,b2,b3,b4⟩:=M.cls;refine yK (C:=C) (nm:=nm) (q:=q) (N:=N') (bs:=bs) (bm:=bm) (hd:=hd) (sn:=sn) (sub:=sub) (ab:=ab) (col:=col) (dd:=dd) (k0:=k0) (k1:=k1) (k2:=k2) (k3:=k3) (k5:=k5) (nw:="Exception.__new__") b4 hh ?_;refine wpAny_bind (wpAny_mono h (fun v s2 h2=>wpAny_bind (wpAny_standAt (wpAny_pure ?_))) fun _ _ z=>z);obtain⟨vv,H2,I2,rv,a,dx,rfl,ha,hE⟩:=h2;obtain rfl:v=Value.ref a:=rv;obtain⟨⟨T,hx⟩,_,_⟩:=I2.hok a _ ha;exact⟨a,T,some dx,#[],rfl,I2.rQ _ _ lk,hx,thrown I2 ha hE⟩
theorem Tr(M:Kf K C fI)(F:iT P w K mg base (bI P w) k fI fd ps sp)(hr:cY (k+1) (aL (bI P w) P w K mg base N qual scope f cd A outer s H E).A)(hb:Binds K fd ps [])(hg:Gl (aL (bI P w) P w K mg base N qual scope f cd A outer s H E) x)(hm:mg x=some (.ref C))(ha:PA (aL (bI P w) P w K mg base N qual scope f cd A outer s H E) (e::es) t)(hdb:(x==("__debug__":Str))=false:=by decide)(he:starEach (e::es) (aL (bI P w) P w K mg base N qual scope f cd A outer s H E).env=(false,eval e (aL (bI P w) P w K mg base N qual scope f cd A outer s H E).env)::starEach es (aL (bI P w) P w K mg base N qual scope f cd A outer s H E).env:=by rfl)(hpl:(backTo cpos (starEach es (aL (bI P w) P w K mg base N qual scope f cd A outer s H E).env)).any (·.1)=false:=by rfl) :
  PS (aL (bI P w) P w K mg base N qual scope f cd A outer s H E) (.Raise (some (.Call (.Name x p) (e::es) [] cpos)) none pos) (yN C sp E t):=by
 intro pins s1 σ H1 D I h;refine sE (yO M I ?_ hr.hd);refine wpAny_Call_Name_kw (jT I hg hm ?_ hdb);refine callWith_K (h₀:=base) I.ok.mod.Wo M.kp (dH (ha cpos pins s1 σ H1 _ I h) fun us s2 ⟨vs,H2,I2,r,hz,q⟩=>⟨I2.rQ,?_⟩) he hpl;refine Dw (us:=us) M F hr hb aF I2 r (by rw[←r.length];exact hz) fun a hn=>?_;exact q a hn
theorem kh(M:Kf K C fI)(F:iT P w K mg base (bI P w) k fI fd ps sp)(hr:cY (k+1) (aL (bI P w) P w K mg base N qual scope f cd A outer s H E).A)(hb:Binds K fd ps [])(hg:Gl (aL (bI P w) P w K mg base N qual scope f cd A outer s H E) x)(hm:mg x=some (.ref C))(hdb:(x==("__debug__":Str))=false:=by decide) :
  PS (aL (bI P w) P w K mg base N qual scope f cd A outer s H E) (.Raise (some (.Call (.Name x p) [] [] cpos)) none pos) (yN C sp E uV):=by
 intro pins s1 σ H1 D I h;obtain⟨hz,q⟩:([]:List V).length≤sizeLine∧_:=h;refine sE (yO M I ?_ hr.hd);refine wpAny_Call_Name_kw (jT I hg hm ?_ hdb);exact callWith_K0 I.rQ M.kp (Dw (us:=[]) M F hr hb aF I .nil (zero_le _) fun a hn=>q a hn)
end
end Xc
namespace Sp
open Rb35
def cls(b:Nat):Nat:=
 if isWord b||(signs.contains b||(b==35||b==10)) then b else if b==9||(b==13||b==32) then 32 else 63
theorem kj:∀b,b<256→isSmall (cls b)=isSmall b∧isDigit (cls b)=isDigit b∧isWord (cls b)=isWord b∧(cls b==10)=(b==10)∧(cls b==35)=(b==35) ∧
  signs.contains (cls b)=signs.contains b∧((cls b==32)||(cls b==10))=isBlank b∧((isWord b||signs.contains b)=true→cls b=b):=by decide +kernel
abbrev PT:=List Nat×Nat
def aP:List Nat→Nat
 | []=>0
 |c::r=>if c=35 then ((c::r).takeWhile fun x=>x != 10).length else if isSmall c=true then ((c::r).takeWhile isWord).length
  else if isDigit c=true then ((c::r).takeWhile isDigit).length else 1
def skipped(c:Nat):Bool:=c==32||(c==10||c==35)
def g8:Nat→Nat→List Nat→List PT
 | 0,at_,_=>[([],at_)]
 |f+1,at_,b=>match b with
  | []=>[([],at_)]
  |c::r=>if skipped c=true then g8 f (at_+aP (c::r)) ((c::r).drop (aP (c::r)))
   else ((c::r).take (aP (c::r)),at_)::g8 f (at_+aP (c::r)) ((c::r).drop (aP (c::r)))
theorem lg(f at_ c:Nat)(r:List Nat):g8 (f+1) at_ (c::r)=if skipped c=true then g8 f (at_+aP (c::r)) ((c::r).drop (aP (c::r)))
   else ((c::r).take (aP (c::r)),at_)::g8 f (at_+aP (c::r)) ((c::r).drop (aP (c::r))):=rfl
def bQ(w:List Nat):Tok:=match w with
 | []=>.ended
 |c::r=>if isSmall c=true then (if 15<(c::r).length then .bad else .name (c::r))
  else if isDigit c=true then (if 5<(c::r).length then .bad else .num (valueOf (c::r)))
  else if r=[]∧signs.contains c=true then .sign c else .bad
def Dy:List PT→Toks
 | []=>[]
 |t::r=>match bQ t.1 with
  | .bad=>[(.bad,t.2)]
  | .ended=>[(.ended,t.2)]
  |x=>(x,t.2)::Dy r
theorem fL{p q:Nat→Bool}{g:Nat→Nat}:∀{l:List Nat},(∀x∈l,p (g x)=q x)→((l.map g).takeWhile p)=(l.takeWhile q).map g
 | [],_=>rfl
 |a::r,h=>by
  have h1:=h a mem_cons_self;have h2:=fL (p:=p) (q:=q) (g:=g) (l:=r) fun x hx=>h x (mem_cons_of_mem _ hx);simp only[map_cons,takeWhile_cons,h1];cases q a<;>simp[h2]
theorem takeWhile_all{p:Nat→Bool}:∀{l:List Nat}{x:Nat},x∈l.takeWhile p→p x=true∧x∈l
 | [],_,h=>by simp at h
 |a::r,x,h=>by
  rw[takeWhile_cons]at h;cases e:p a with
  |false=>rw[e]at h;simp at h
  |true=>
   rw[e]at h;simp at h;rcases h with rfl|h
   ·exact⟨e,mem_cons_self⟩
   ·exact⟨(takeWhile_all h).1,mem_cons_of_mem _ (takeWhile_all h).2⟩
theorem eO{p:Nat→Bool}:∀(l:List Nat),l.take (l.takeWhile p).length=l.takeWhile p
 | []=>rfl
 |a::r=>by
  rw[takeWhile_cons];cases e:p a<;>simp[eO r]
theorem vd{g:Nat→Nat}:∀{l:List Nat},(∀x∈l,g x=x)→l.map g=l
 | [],_=>rfl
 |a::r,h=>by
  rw[map_cons,h a mem_cons_self,vd fun x hx=>h x (mem_cons_of_mem _ hx)]
theorem vf{g:Nat→Nat}(l:List Nat)(k:Nat):(l.map g).drop k=(l.drop k).map g:=(map_drop).symm
theorem qM:∀(f at_:Nat)(b:List Nat),(∀x∈b,x<256)→Dy (g8 f at_ (b.map cls))=toksFrom f at_ b
 | 0,at_,b,_=>rfl
 |f+1,at_,[],_=>rfl
 |f+1,at_,c::r,hb=>by
  have hc:=kj c (hb c mem_cons_self);have hall:∀x∈c::r,x<256:=hb;obtain⟨h1,h2,h3,h4,h5,h6,h7,h8⟩:=hc;have e35:(cls c=35)↔c=35:=by
   constructor
   ·intro e;have:=h5;rw[e]at this;simpa using this.symm
   ·intro e;have:=h5;rw[e]at this;simpa[e] using this
  have wW:((c::r).map cls).takeWhile isWord=(c::r).takeWhile isWord:=by
   rw[fL (q:=isWord) fun x hx=>(kj x (hall x hx)).2.2.1];exact vd fun x hx=>(kj x (hall x (takeWhile_all hx).2)).2.2.2.2.2.2.2 (by simp[(takeWhile_all hx).1])
  have wD:((c::r).map cls).takeWhile isDigit=(c::r).takeWhile isDigit:=by
   rw[fL (q:=isDigit) fun x hx=>(kj x (hall x hx)).2.1];exact vd fun x hx=>(kj x (hall x (takeWhile_all hx).2)).2.2.2.2.2.2.2 (by
    have:=(takeWhile_all hx).1;simp[isWord,this])
  have wN:(((c::r).map cls).takeWhile fun x=>x != 10).length=((c::r).takeWhile fun x=>x != 10).length:=by
   rw[fL (q:=fun x=>x != 10) fun x hx=>by
    have:=(kj x (hall x hx)).2.2.2.1;show (!(cls x==10))=!(x==10);rw[this]]
   exact length_map _
  have hlen:(c::r).map cls=cls c::r.map cls:=rfl;have drops:∀k x,x∈(c::r).drop k→x<256:=fun k x hx=>hall x (mem_of_mem_drop hx);rw[toksFrom];rw[hlen,lg];by_cases vg:isBlank c=true
  ·
   rw[if_pos vg];have hs:skipped (cls c)=true:=by
    rw[vg]at h7;unfold skipped;cases h32:(cls c==32)<;>simp_all
   rw[if_pos hs];have n35:¬cls c=35:=by
    rw[e35];intro e;subst e;revert vg;decide
   have nsm:isSmall (cls c)=false:=by
    rw[h1];cases e:isSmall c with
    |false=>rfl
    |true=>
     exfalso;simp[isSmall]at e;simp[isBlank]at vg;omega
   have ndg:isDigit (cls c)=false:=by
    rw[h2];cases e:isDigit c with
    |false=>rfl
    |true=>
     exfalso;simp[isDigit]at e;simp[isBlank]at vg;omega
   have er:aP (cls c::r.map cls)=1:=by
    unfold aP;dsimp only;rw[if_neg n35,if_neg (by simp[nsm]),if_neg (by simp[ndg])]
   rw[er];exact qM f (at_+1) r fun x hx=>hall x (mem_cons_of_mem _ hx)
  ·rw[if_neg vg];have GF:isBlank c=false:=by simpa using vg
   rw[GF]at h7;by_cases Wu:c=35
   ·rw[if_pos Wu];have e1:cls c=35:=e35.mpr Wu;have hs:skipped (cls c)=true:=by rw[e1];rfl
    rw[if_pos hs];have er:aP (cls c::r.map cls)=((c::r).takeWhile fun x=>x != 10).length:=by
     unfold aP;dsimp only;rw[if_pos e1,←hlen,wN]
    rw[er,←hlen,vf];exact qM f _ _ (drops _)
   ·rw[if_neg Wu];have n35:¬cls c=35:=fun e=>Wu (e35.mp e);have hs:skipped (cls c)=false:=by
     unfold skipped;cases h32:(cls c==32)<;>cases h10:(cls c==10)<;>simp_all
    rw[if_neg (by simp[hs])];by_cases hsm:isSmall c=true
    ·rw[if_pos hsm];have er:aP (cls c::r.map cls)=((c::r).takeWhile isWord).length:=by
      unfold aP;dsimp only;rw[if_neg n35,if_pos (by rw[h1];exact hsm),←hlen,wW]
     have et:(cls c::r.map cls).take ((c::r).takeWhile isWord).length=(c::r).takeWhile isWord:=by
      rw[←hlen,←wW];exact eO _
     have ew:(c::r).takeWhile isWord=c::r.takeWhile isWord:=by
      rw[takeWhile_cons,show isWord c=true by simp[isWord,hsm]];rfl
     rw[er,et,←hlen,vf];show Dy (((c::r).takeWhile isWord,at_)::_)=_;have ih:=qM f (at_+((c::r).takeWhile isWord).length) _ (drops ((c::r).takeWhile isWord).length);rw[Dy,ih];dsimp only;rw[ew];unfold bQ;dsimp only;rw[if_pos hsm];by_cases hl:15<(c::r.takeWhile isWord).length
     ·rw[if_pos hl,if_pos hl]
     ·rw[if_neg hl,if_neg hl]
    ·rw[if_neg hsm];by_cases hdg:isDigit c=true
     ·rw[if_pos hdg];have er:aP (cls c::r.map cls)=((c::r).takeWhile isDigit).length:=by
       unfold aP;dsimp only;rw[if_neg n35,if_neg (by rw[h1];exact hsm),if_pos (by rw[h2];exact hdg),←hlen,wD]
      have et:(cls c::r.map cls).take ((c::r).takeWhile isDigit).length=(c::r).takeWhile isDigit:=by
       rw[←hlen,←wD];exact eO _
      have ew:(c::r).takeWhile isDigit=c::r.takeWhile isDigit:=by
       rw[takeWhile_cons,hdg];rfl
      rw[er,et,←hlen,vf];show Dy (((c::r).takeWhile isDigit,at_)::_)=_;have ih:=qM f (at_+((c::r).takeWhile isDigit).length) _ (drops ((c::r).takeWhile isDigit).length);rw[Dy,ih];dsimp only;rw[ew];unfold bQ;dsimp only;rw[if_neg hsm,if_pos hdg];by_cases hl:5<(c::r.takeWhile isDigit).length
      ·rw[if_pos hl,if_pos hl]
      ·rw[if_neg hl,if_neg hl]
     ·rw[if_neg hdg];have er:aP (cls c::r.map cls)=1:=by
       unfold aP;dsimp only;rw[if_neg n35,if_neg (by rw[h1];exact hsm),if_neg (by rw[h2];exact hdg)]
      rw[er];show Dy (([cls c],at_)::g8 f (at_+1) (r.map cls))=_;have ih:=qM f (at_+1) r fun x hx=>hall x (mem_cons_of_mem _ hx);rw[Dy,ih];have ea:bQ [cls c]=if signs.contains c=true then .sign c else .bad:=by
       unfold bQ;dsimp only;rw[if_neg (by rw[h1];exact hsm),if_neg (by rw[h2];exact hdg)];by_cases hsg:signs.contains c=true
       ·rw[if_pos ⟨rfl,by rw[h6];exact hsg⟩,if_pos hsg,h8 (by rw[hsg,Bool.or_true])]
       ·rw[if_neg fun z=>hsg (by rw[←h6];exact z.2),if_neg hsg]
      dsimp only;rw[ea];by_cases hsg:signs.contains c=true
      ·rw[if_pos hsg,if_pos hsg]
      ·rw[if_neg hsg,if_neg hsg]
def jG:List Form→Forms
 | []=>.nil
 |f::l=>.cons f (jG l)
def toL:Forms→List Form
 | .nil=>[]
 | .cons f l=>f::toL l
theorem Nv:∀l,toL (jG l)=l
 | []=>rfl
 |f::l=>by rw[jG,toL,Nv l]
theorem xG:∀l,jG (toL l)=l
 | .nil=>rfl
 | .cons f l=>by rw[toL,jG,xG l]
theorem mj:∀l:Forms,countOf l=(toL l).length
 | .nil=>rfl
 | .cons f l=>by rw[countOf,toL,length_cons,mj l]
theorem yP:∀a b:Forms,toL (joined a b)=toL a++toL b
 | .nil,b=>rfl
 | .cons f l,b=>by rw[joined,toL,yP l b];rfl
theorem vh{c:Nat}{t:Toks}(h:is_ c t=true):t.drop 1=t.tail∧(t.drop 1).length+1=t.length:=by
 cases t with
 |nil=>simp[is_]at h
 |cons a r=>simp
theorem take_len{c:Nat}{t u:Toks}(h:take_ c t=.ok u):u.length+1=t.length:=by
 unfold take_ at h;by_cases q:is_ c t=true
 ·rw[if_pos q]at h;cases h;exact(vh q).2
 ·rw[if_neg q]at h;cases h
def cR(w:Nat):Prop:=w=0∨w=1∨w=2∨w=10∨w=11∨w=12
def cw(w:Nat):Nat:=if w=0 then 1 else if w=10 then 2 else if w=1 then 3 else if w=11 then 4 else if w=2 then 5 else 6
theorem d9(e:Known)(f what:Nat)(t:Toks):readAt e (f+1) what t =
  if 10≤what then (readAt e f (what-10) t).bind fun (x:Forms×Toks)=>if is_ (betweens what) x.2=true then (readAt e f what (x.2.drop 1)).map fun (y:Forms×Toks)=>(joined x.1 y.1,y.2) else .ok x
  else if 0<what then (readAt e f (what+9) t).map fun (x:Forms×Toks)=>(grouped what x.1,x.2)
  else match t with
   | (.name b,k)::r=>(match (if keys.contains b=true then none else meaning e b) with
    |some x=>.ok (.cons x .nil,r)
    |none=>.error k)
   | (.num k,p)::r=>
    if k=0 then .error p
    else if isKey "of" r=false then .error (placeOf r)
    else (take_ 40 (r.drop 1)).bind fun (u:Toks)=>(readAt e f 12 u).bind fun (x:Forms×Toks)=>if is_ 41 x.2=false∨countOf x.1<k then .error (placeOf x.2) else .ok (.cons (.some_ k x.1) .nil,x.2.drop 1)
   |u=>(take_ 40 u).bind fun (v:Toks)=>(readAt e f 2 v).bind fun (x:Forms×Toks)=>(take_ 41 x.2).map fun (r:Toks)=>(x.1,r):=rfl
theorem shorter(e:Known):∀(f what:Nat)(t:Toks)(x:Forms×Toks),cR what→readAt e f what t=.ok x→x.2.length<t.length
 | 0,what,t,x,_,h=>by simp[readAt]at h
 |f+1,what,t,x,hw,h=>by
  rw[d9]at h;by_cases h10:10≤what
  ·rw[if_pos h10]at h;cases q:readAt e f (what-10) t with
   |error k=>rw[q]at h;cases h
   |ok y=>
    rw[q]at h;have hy:=shorter e f (what-10) t y (by unfold cR at *;omega) q;simp only[Except.bind]at h;by_cases hi:is_ (betweens what) y.2=true
    ·rw[if_pos hi]at h;cases q2:readAt e f what (y.2.drop 1) with
     |error k=>rw[q2]at h;cases h
     |ok z=>
      rw[q2]at h;have hz:=shorter e f what _ z hw q2;simp only[Except.map,Except.ok.injEq]at h;subst h;have:=(vh hi).2;show z.2.length<_;omega
    ·rw[if_neg hi]at h;cases h;exact hy
  ·rw[if_neg h10]at h;by_cases h0:0<what
   ·rw[if_pos h0]at h;cases q:readAt e f (what+9) t with
    |error k=>rw[q]at h;cases h
    |ok y=>
     rw[q]at h;have hy:=shorter e f (what+9) t y (by unfold cR at *;omega) q;simp only[Except.map,Except.ok.injEq]at h;subst h;exact hy
   ·rw[if_neg h0]at h;have paren:∀(u:Toks),((take_ 40 u).bind fun (v:Toks)=>(readAt e f 2 v).bind fun (x:Forms×Toks)=>(take_ 41 x.2).map fun (r:Toks)=>(x.1,r))=.ok x→x.2.length<u.length:=by
     intro u h;cases q:take_ 40 u with
     |error k=>rw[q]at h;cases h
     |ok v=>
      rw[q]at h;simp only[Except.bind]at h;cases q2:readAt e f 2 v with
      |error k=>rw[q2]at h;cases h
      |ok y=>
       rw[q2]at h;simp only[Except.bind]at h;cases q3:take_ 41 y.2 with
       |error k=>rw[q3]at h;cases h
       |ok r=>
        rw[q3]at h;simp only[Except.map,Except.ok.injEq]at h;subst h;have h1:=take_len q;have h2:=take_len q3;have h3:=shorter e f 2 v y (by unfold cR;omega) q2;show r.length<_;omega
    split at h
    ·rename_i b k r;split at h
     ·cases h;simp
     ·cases h
    ·rename_i k p r;by_cases hk:k=0
     ·rw[if_pos hk]at h;cases h
     ·rw[if_neg hk]at h;by_cases ho:isKey "of" r=false
      ·rw[if_pos ho]at h;cases h
      ·rw[if_neg ho]at h;cases q:take_ 40 (r.drop 1) with
       |error k=>rw[q]at h;cases h
       |ok v=>
        rw[q]at h;simp only[Except.bind]at h;cases q2:readAt e f 12 v with
        |error k=>rw[q2]at h;cases h
        |ok y=>
         rw[q2]at h;simp only[Except.bind]at h;split at h
         ·cases h
         ·cases h;have h1:=take_len q;have h3:=shorter e f 12 v y (by unfold cR;omega) q2;have h4:(r.drop 1).length≤r.length:=by simp
          show (y.2.drop 1).length<r.length+1;have h5:(y.2.drop 1).length≤y.2.length:=by simp
          omega
    ·exact paren _ h
theorem stable(e:Known):∀(f g what:Nat)(t:Toks),cR what→8*t.length+cw what≤f→8*t.length+cw what≤g→readAt e f what t=readAt e g what t
 | 0,g,what,t,hw,hf,hg=>by
  exfalso;have:1≤cw what:=by unfold cw;repeat (first|split|omega)
  omega
 |f+1,0,what,t,hw,hf,hg=>by
  exfalso;have:1≤cw what:=by unfold cw;repeat (first|split|omega)
  omega
 |f+1,g+1,what,t,hw,hf,hg=>by
  rw[d9,d9];by_cases h10:10≤what
  ·rw[if_pos h10,if_pos h10];have hw':cR (what-10):=by unfold cR at *;omega
   have hc:cw (what-10)+1≤cw what:=by
    unfold cR at hw;rcases hw with h|h|h|h|h|h<;>subst h<;>first|omega|decide
   rw[stable e f g (what-10) t hw' (by omega) (by omega)];cases q:readAt e g (what-10) t with
   |error k=>rfl
   |ok y=>
    have hy:=shorter e g (what-10) t y hw' q;show (if is_ (betweens what) y.2=true then _ else _)=(if is_ (betweens what) y.2=true then _ else _);by_cases hi:is_ (betweens what) y.2=true
    ·rw[if_pos hi,if_pos hi];have:=(vh hi).2;rw[stable e f g what (y.2.drop 1) hw (by omega) (by omega)]
    ·rw[if_neg hi,if_neg hi]
  ·rw[if_neg h10,if_neg h10];by_cases h0:0<what
   ·rw[if_pos h0,if_pos h0];have hw':cR (what+9):=by unfold cR at *;omega
    have hc:cw (what+9)+1≤cw what:=by
     unfold cR at hw;rcases hw with h|h|h|h|h|h<;>subst h<;>first|omega|decide
    rw[stable e f g (what+9) t hw' (by omega) (by omega)]
   ·rw[if_neg h0,if_neg h0];have e0:what=0:=by omega
    subst e0;have c0:cw 0=1:=rfl;have c2:cw 2=5:=rfl;have c12:cw 12=6:=rfl;rw[c0]at hf hg;have paren:∀(u:Toks),u.length=t.length→((take_ 40 u).bind fun (v:Toks)=>(readAt e f 2 v).bind fun (x:Forms×Toks)=>(take_ 41 x.2).map fun (r:Toks)=>(x.1,r)) =
      ((take_ 40 u).bind fun (v:Toks)=>(readAt e g 2 v).bind fun (x:Forms×Toks)=>(take_ 41 x.2).map fun (r:Toks)=>(x.1,r)):=by
     intro u hu;cases q:take_ 40 u with
     |error k=>rfl
     |ok v=>
      have h1:=take_len q;show (readAt e f 2 v).bind _=(readAt e g 2 v).bind _;rw[stable e f g 2 v (by unfold cR;omega) (by omega) (by omega)]
    split
    ·rfl
    ·rename_i k p r;by_cases hk:k=0
     ·rw[if_pos hk,if_pos hk]
     ·rw[if_neg hk,if_neg hk];by_cases ho:isKey "of" r=false
      ·rw[if_pos ho,if_pos ho]
      ·rw[if_neg ho,if_neg ho];cases q:take_ 40 (r.drop 1) with
       |error k=>rfl
       |ok v=>
        have h1:=take_len q;have h4:(r.drop 1).length≤r.length:=by simp
        have h5:r.length+1≤8*(r.length+1):=by omega
        have hl:((Tok.num k,p)::r).length=r.length+1:=rfl;rw[hl]at hf hg;show (readAt e f 12 v).bind _=(readAt e g 12 v).bind _;rw[stable e f g 12 v (by unfold cR;omega) (by omega) (by omega)]
    ·exact paren _ rfl
def R(e:Known)(what:Nat)(t:Toks):Read Forms:=readAt e (8*t.length+8) what t
theorem Tt(e:Known){f what:Nat}{t:Toks}(hw:cR what)(hf:8*t.length+cw what≤f):readAt e f what t=R e what t:=by
 refine stable e f _ what t hw hf ?_;have:cw what≤6:=by unfold cw;repeat (first|split|omega)
 omega
abbrev RF:=Except Nat (List Form×Toks)
def lst(r:Read Forms):RF:=r.map fun x=>(toL x.1,x.2)
def RL(e:Known)(what:Nat)(t:Toks):RF:=lst (R e what t)
def grp(what:Nat)(l:List Form):Form:=match l with
 | [f]=>f
 |l=>.some_ (if what=1 then l.length else 1) (jG l)
theorem GJ(what:Nat)(l:Forms):toL (grouped what l)=[grp what (toL l)]:=by
 unfold grouped;rw[mj]
 match l with
 | .nil=>rfl
 | .cons f .nil=>rfl
 | .cons f (.cons g r)=>
  rw[if_neg (by simp[toL])];show [Form.some_ _ (Forms.cons f (Forms.cons g r))]=[Form.some_ _ (jG (toL (Forms.cons f (Forms.cons g r))))];rw[xG];rfl
theorem Tv{e:Known}{what:Nat}{t:Toks}{x:List Form×Toks}(hw:cR what)(h:RL e what t=.ok x):x.2.length<t.length:=by
 unfold RL lst at h;cases q:R e what t with
 |error k=>rw[q]at h;cases h
 |ok y=>
  rw[q]at h;simp only[Except.map,Except.ok.injEq]at h;subst h;exact shorter e _ what t y hw q
theorem Dz(e:Known){what:Nat}(t:Toks)(hw:what=10∨what=11∨what=12) :
  RL e what t=(RL e (what-10) t).bind fun x=>if is_ (betweens what) x.2=true then (RL e what (x.2.drop 1)).map fun y=>(x.1++y.1,y.2) else .ok x:=by
 unfold RL;have ok1:cR what:=by unfold cR;omega
 have ok2:cR (what-10):=by unfold cR;omega
 have hc:cw (what-10)≤7:=by unfold cw;repeat (first|split|omega)
 have hc2:cw what≤7:=by unfold cw;repeat (first|split|omega)
 have u:R e what t=readAt e (8*t.length+7+1) what t:=rfl;rw[u,d9,if_pos (by omega),Tt e ok2 (by omega)];cases q:R e (what-10) t with
 |error k=>rfl
 |ok y=>
  have hy:y.2.length<t.length:=shorter e _ (what-10) t y ok2 q;show lst (if is_ (betweens what) y.2=true then _ else _)=(if is_ (betweens what) y.2=true then _ else _);by_cases hi:is_ (betweens what) y.2=true
  ·rw[if_pos hi,if_pos hi];have:=(vh hi).2;rw[Tt e ok1 (by omega)];cases q2:R e what (y.2.drop 1) with
   |error k=>rfl
   |ok z=>
    show Except.ok (toL (joined y.1 z.1),z.2)=Except.ok (toL y.1++toL z.1,z.2);rw[yP]
  ·rw[if_neg hi,if_neg hi];rfl
theorem Tw(e:Known){what:Nat}(t:Toks)(hw:what=1∨what=2):RL e what t=(RL e (what+9) t).map fun x=>([grp what x.1],x.2):=by
 unfold RL;have ok2:cR (what+9):=by unfold cR;omega
 have hc:cw (what+9)≤7:=by unfold cw;repeat (first|split|omega)
 have u:R e what t=readAt e (8*t.length+7+1) what t:=rfl;rw[u,d9,if_neg (by omega),if_pos (by omega),Tt e ok2 (by omega)];cases q:R e (what+9) t with
 |error k=>rfl
 |ok y=>
  show Except.ok (toL (grouped what y.1),y.2)=Except.ok ([grp what (toL y.1)],y.2);rw[GJ]
def yQ(e:Known)(u:Toks):RF:=(take_ 40 u).bind fun v=>(RL e 2 v).bind fun x=>(take_ 41 x.2).map fun r=>(x.1,r)
theorem uq(e:Known)(u:Toks)(n:Nat)(hn:8*u.length≤n):lst ((take_ 40 u).bind fun (v:Toks)=>(readAt e n 2 v).bind fun (x:Forms×Toks)=>(take_ 41 x.2).map fun (r:Toks)=>(x.1,r))=yQ e u:=by
 unfold yQ;cases q:take_ 40 u with
 |error k=>rfl
 |ok v=>
  have h1:=take_len q;show lst ((readAt e n 2 v).bind _)=(RL e 2 v).bind _;have c2:cw 2=5:=rfl;rw[Tt e (by unfold cR;omega) (by rw[c2];omega)];unfold RL;cases q2:R e 2 v with
  |error k=>rfl
  |ok y=>
   show lst ((take_ 41 y.2).map _)=(take_ 41 y.2).map _;cases take_ 41 y.2<;>rfl
theorem Ny(e:Known)(b:Bytes)(k:Nat)(r:Toks):RL e 0 ((.name b,k)::r)=match (if keys.contains b=true then none else meaning e b) with
  |some x=>.ok ([x],r)
  |none=>.error k:=by
 unfold RL;have u:R e 0 ((.name b,k)::r)=readAt e (8*((Tok.name b,k)::r).length+7+1) 0 ((.name b,k)::r):=rfl;rw[u,d9,if_neg (by omega),if_neg (by omega)];dsimp only;cases (if keys.contains b=true then none else meaning e b)<;>rfl
theorem DG(e:Known)(k p:Nat)(r:Toks):RL e 0 ((.num k,p)::r)=if k=0 then .error p else if isKey "of" r=false then .error (placeOf r) else
  (take_ 40 (r.drop 1)).bind fun u=>(RL e 12 u).bind fun x=>if is_ 41 x.2=false∨x.1.length<k then .error (placeOf x.2) else .ok ([.some_ k (jG x.1)],x.2.drop 1):=by
 unfold RL;have u:R e 0 ((.num k,p)::r)=readAt e (8*((Tok.num k,p)::r).length+7+1) 0 ((.num k,p)::r):=rfl;rw[u,d9,if_neg (by omega),if_neg (by omega)];dsimp only;by_cases hk:k=0
 ·rw[if_pos hk,if_pos hk];rfl
 ·rw[if_neg hk,if_neg hk];by_cases ho:isKey "of" r=false
  ·rw[if_pos ho,if_pos ho];rfl
  ·rw[if_neg ho,if_neg ho];cases q:take_ 40 (r.drop 1) with
   |error k=>rfl
   |ok v=>
    have h1:=take_len q;have h4:(r.drop 1).length≤r.length:=by simp
    have c12:cw 12=6:=rfl;show lst ((readAt e _ 12 v).bind _)=(lst (R e 12 v)).bind _;rw[Tt e (by unfold cR;omega) (by rw[c12,length_cons];omega)];cases q2:R e 12 v with
    |error k=>rfl
    |ok y=>
     show lst (if is_ 41 y.2=false∨countOf y.1<k then _ else _)=(if is_ 41 y.2=false∨(toL y.1).length<k then _ else _);rw[mj];by_cases hh:is_ 41 y.2=false∨(toL y.1).length<k
     ·rw[if_pos hh,if_pos hh];rfl
     ·rw[if_neg hh,if_neg hh];show Except.ok (toL (Forms.cons (Form.some_ k y.1) .nil),y.2.drop 1)=Except.ok ([Form.some_ k (jG (toL y.1))],y.2.drop 1);rw[xG];rfl
def GK:Toks→Bool
 | (.name _,_)::_=>false
 | (.num _,_)::_=>false
 |_=>true
theorem Nz(e:Known)(t:Toks)(h:GK t=true):RL e 0 t=yQ e t:=by
 unfold RL;have u:R e 0 t=readAt e (8*t.length+7+1) 0 t:=rfl;rw[u,d9,if_neg (by omega),if_neg (by omega)]
 match t,h with
 | [],_=>exact uq e [] _ (by simp)
 | (.sign c,k)::r,_=>exact uq e _ _ (by omega)
 | (.bad,k)::r,_=>exact uq e _ _ (by omega)
 | (.ended,k)::r,_=>exact uq e _ _ (by omega)
theorem yR(e:Known)(t:Toks):formula e t=(RL e 2 t).map fun x=>(first (jG x.1),x.2):=by
 unfold formula RL R;cases readAt e (8*t.length+8) 2 t with
 |error k=>rfl
 |ok y=>
  show Except.ok (first y.1,y.2)=Except.ok (first (jG (toL y.1)),y.2);rw[xG]
structure wL where
 asked:Nat
 fs:List Form
 bs:List Form
 ps:List Form
def wL.empty(k:Nat):wL:=⟨k,[],[],[]⟩
section
variable(e:Known)
def a10(ps:List Form)(t:Toks):RF:=if is_ 38 t=true then (RL e 10 (t.drop 1)).map fun y=>(ps++y.1,y.2) else .ok (ps,t)
def a11(bs ps:List Form)(t:Toks):RF:=(a10 e ps t).bind fun x=>if is_ 124 x.2=true then (RL e 11 (x.2.drop 1)).map fun y=>((bs++[grp 1 x.1])++y.1,y.2) else .ok (bs++[grp 1 x.1],x.2)
def a2(F:wL)(t:Toks):Except Nat (Form×Toks):=(a11 e F.bs F.ps t).map fun x=>(grp 2 x.1,x.2)
def a12(F:wL)(t:Toks):RF:=(a2 e F t).bind fun x=>if is_ 44 x.2=true then (RL e 12 (x.2.drop 1)).map fun y=>((F.fs++[x.1])++y.1,y.2) else .ok (F.fs++[x.1],x.2)
def fin(F:wL)(t:Toks):Except Nat (Form×Toks):=
 if F.asked=0 then (a2 e F t).bind fun x=>(take_ 41 x.2).map fun r=>(x.1,r)
 else (a12 e F t).bind fun x=>if is_ 41 x.2=false∨x.1.length<F.asked then .error (placeOf x.2) else .ok (.some_ F.asked (jG x.1),x.2.drop 1)
def iU:wL→List wL→Toks→Except Nat (Form×Toks)
 |F,[],t=>a2 e F t
 |F,G::r,t=>(fin e F t).bind fun x=>iU { G with ps:=G.ps++[x.1] } r x.2
def gj(F:wL)(r:List wL)(t:Toks):Except Nat (Form×Toks):=(RL e 0 t).bind fun x=>iU e { F with ps:=F.ps++x.1 } r x.2
end
section
variable{e:Known}{F G:wL}{r:List wL}{t:Toks}
theorem aW{α β γ:Type}(x:Except Nat α)(f:α→Except Nat β)(g:β→Except Nat γ):(x.bind f).bind g=x.bind fun a=>(f a).bind g:=by cases x<;>rfl
theorem vm{α β γ:Type}(x:Except Nat α)(f:α→β)(g:β→Except Nat γ):(x.map f).bind g=x.bind fun a=>g (f a):=by cases x<;>rfl
theorem gk{α β γ:Type}(x:Except Nat α)(f:α→Except Nat β)(g:β→γ):(x.bind f).map g=x.bind fun a=>(f a).map g:=by cases x<;>rfl
theorem qd{α β γ:Type}(x:Except Nat α)(f:α→β)(g:β→γ):(x.map f).map g=x.map fun a=>g (f a):=by cases x<;>rfl
theorem map_id'{α:Type}(x:Except Nat α):(x.map fun a=>a)=x:=by cases x<;>rfl
theorem aJ{α β:Type}{x:Except Nat α}{f g:α→Except Nat β}(h:∀a,x=.ok a→f a=g a):x.bind f=x.bind g:=by
 cases x with
 |error k=>rfl
 |ok a=>exact h a rfl
theorem acr(e:Known)(t:Toks):RL e 10 t=(RL e 0 t).bind fun x=>a10 e x.1 x.2:=by
 rw[Dz e t (.inl rfl)];refine aJ fun x _=>?_;unfold a10;rfl
theorem RL1(e:Known)(t:Toks):RL e 1 t=(RL e 10 t).map fun x=>([grp 1 x.1],x.2):=Tw e t (.inl rfl)
theorem RL2(e:Known)(t:Toks):RL e 2 t=(RL e 11 t).map fun x=>([grp 2 x.1],x.2):=Tw e t (.inr rfl)
theorem acs(e:Known)(t:Toks):RL e 11 t=(RL e 0 t).bind fun x=>a11 e [] x.1 x.2:=by
 rw[Dz e t (.inr (.inl rfl))];show (RL e 1 t).bind _=_;rw[RL1,acr,vm,aW];refine aJ fun x _=>?_;unfold a11;refine aJ fun y _=>?_;show (if is_ 124 y.2=true then _ else _)=if is_ 124 y.2=true then _ else _
 rfl
theorem Z6(e:Known)(t:Toks):RL e 2 t=(RL e 0 t).bind fun x=>(a2 e ⟨0,[],[],x.1⟩ x.2).map fun y=>([y.1],y.2):=by
 rw[RL2,acs,gk];refine aJ fun x _=>?_;unfold a2;rw[qd]
theorem acu(e:Known)(k:Nat)(t:Toks):RL e 12 t=(RL e 0 t).bind fun x=>a12 e ⟨k,[],[],x.1⟩ x.2:=by
 rw[Dz e t (.inr (.inr rfl))];show (RL e 2 t).bind _=_;rw[Z6,aW];refine aJ fun x _=>?_;unfold a12;rw[vm];show (a2 e ⟨0,[],[],x.1⟩ x.2).bind _=(a2 e ⟨0,[],[],x.1⟩ x.2).bind _;refine aJ fun y _=>?_;show (if is_ 44 y.2=true then _ else _)=if is_ 44 y.2=true then _ else _
 rfl
theorem Bl(e:Known)(t:Toks):formula e t=gj e (wL.empty 0) [] t:=by
 rw[yR,Z6,gk];unfold gj;refine aJ fun x _=>?_;rw[qd];show (a2 e ⟨0,[],[],x.1⟩ x.2).map (fun a=>(a.1,a.2))=a2 e ⟨0,[],[],x.1⟩ x.2;exact map_id' _
theorem Z7(k:Nat):gj e F r ((.sign 40,k)::t)=gj e (wL.empty 0) (F::r) t:=by
 unfold gj;rw[Nz e _ rfl];unfold yQ;show ((RL e 2 t).bind _).bind _=_;rw[aW,Z6,aW];refine aJ fun x _=>?_;rw[vm];show _=(fin e ⟨0,[],[],x.1⟩ x.2).bind _;unfold fin;rw[if_pos rfl,aW];refine aJ fun y _=>?_;cases take_ 41 y.2<;>rfl
theorem Xk{b:Bytes}(k p q s:Nat)(hk:k≠0)(hb:b=ascii "of"):gj e F r ((.num k,p)::(.name b,q)::(.sign 40,s)::t)=gj e (wL.empty k) (F::r) t:=by
 unfold gj;rw[DG,if_neg hk,if_neg (by simp[isKey,hb])];show ((RL e 12 t).bind _).bind _=_;rw[aW,acu e k,aW];refine aJ fun x _=>?_;show _=(fin e ⟨k,[],[],x.1⟩ x.2).bind _;unfold fin;rw[if_neg hk,aW];refine aJ fun y _=>?_;show (if is_ 41 y.2=false∨y.1.length<k then _ else _:RF).bind _=(if is_ 41 y.2=false∨y.1.length<k then _ else _:Except Nat (Form×Toks)).bind _;by_cases hh:is_ 41 y.2=false∨y.1.length<k
 ·rw[if_pos hh,if_pos hh];rfl
 ·rw[if_neg hh,if_neg hh];rfl
theorem Z8{b:Bytes}{x:Form}(k:Nat)(hk:keys.contains b=false)(hm:meaning e b=some x):gj e F r ((.name b,k)::t)=iU e { F with ps:=F.ps++[x] } r t:=by
 unfold gj;rw[Ny,hk];show (match meaning e b with|some x=>_|none=>_:RF).bind _=_;rw[hm];rfl
theorem acv(h:RL e 0 t=.error (placeOf t)):gj e F r t=.error (placeOf t):=by
 unfold gj;rw[h];rfl
theorem acw(k:Nat):iU e F r ((.sign 38,k)::t)=gj e F r t:=by
 have h10:a10 e F.ps ((.sign 38,k)::t)=(RL e 0 t).bind fun x=>a10 e (F.ps++x.1) x.2:=by
  rw[show a10 e F.ps ((.sign 38,k)::t)=(RL e 10 t).map (fun y=>(F.ps++y.1,y.2)) from rfl,acr,gk];refine aJ fun x _=>?_;unfold a10;by_cases hi:is_ 38 x.2=true
  ·rw[if_pos hi,if_pos hi,qd];congr 1;funext y;show (F.ps++(x.1++y.1),y.2)=((F.ps++x.1)++y.1,y.2);rw[append_assoc]
  ·rw[if_neg hi,if_neg hi];rfl
 have h2:∀k' fs,a2 e ⟨k',fs,F.bs,F.ps⟩ ((.sign 38,k)::t)=(RL e 0 t).bind fun x=>a2 e ⟨k',fs,F.bs,F.ps++x.1⟩ x.2:=by
  intro k' fs;unfold a2 a11;rw[h10,aW,gk]
 unfold gj;cases r with
 |nil=>exact h2 F.asked F.fs
 |cons G r=>
  show (fin e F _).bind _=(RL e 0 t).bind fun x=>(fin e ⟨F.asked,F.fs,F.bs,F.ps++x.1⟩ x.2).bind _;rw[←aW];congr 1;unfold fin;by_cases h0:F.asked=0
  ·rw[if_pos h0];have:=h2 F.asked F.fs;rw[show a2 e F ((.sign 38,k)::t)=_ from this,aW];refine aJ fun x _=>?_;rw[if_pos h0]
  ·rw[if_neg h0];unfold a12;rw[show a2 e F ((.sign 38,k)::t)=_ from h2 F.asked F.fs,aW,aW];refine aJ fun x _=>?_;rw[if_neg h0,aW]
theorem ae4(k:Nat):iU e F r ((.sign 124,k)::t)=gj e ⟨F.asked,F.fs,F.bs++[grp 1 F.ps],[]⟩ r t:=by
 have h11:a11 e F.bs F.ps ((.sign 124,k)::t)=(RL e 0 t).bind fun x=>a11 e (F.bs++[grp 1 F.ps]) x.1 x.2:=by
  have h10:a10 e F.ps ((.sign 124,k)::t)=.ok (F.ps,(.sign 124,k)::t):=by
   unfold a10;rw[if_neg (by simp[is_])]
  rw[show a11 e F.bs F.ps ((.sign 124,k)::t)=(RL e 11 t).map (fun y=>((F.bs++[grp 1 F.ps])++y.1,y.2)) from by rw[a11,h10];rfl,acs,gk];refine aJ fun x _=>?_;unfold a11;rw[gk];refine aJ fun y _=>?_;by_cases hi:is_ 124 y.2=true
  ·rw[if_pos hi,if_pos hi,qd];congr 1;funext z;show (_++(([]++[grp 1 y.1])++z.1),z.2)=(((F.bs++[grp 1 F.ps])++[grp 1 y.1])++z.1,z.2);rw[nil_append,←append_assoc]
  ·rw[if_neg hi,if_neg hi];rfl
 have h2:∀k' fs,a2 e ⟨k',fs,F.bs,F.ps⟩ ((.sign 124,k)::t)=(RL e 0 t).bind fun x=>a2 e ⟨k',fs,F.bs++[grp 1 F.ps],x.1⟩ x.2:=by
  intro k' fs;unfold a2;dsimp only;rw[h11,gk]
 unfold gj;cases r with
 |nil=>exact h2 F.asked F.fs
 |cons G r=>
  show (fin e F _).bind _=(RL e 0 t).bind fun x=>(fin e ⟨F.asked,F.fs,F.bs++[grp 1 F.ps],x.1⟩ x.2).bind _;rw[←aW];congr 1;unfold fin;by_cases h0:F.asked=0
  ·rw[if_pos h0];rw[show a2 e F ((.sign 124,k)::t)=_ from h2 F.asked F.fs,aW];refine aJ fun x _=>?_;rw[if_pos h0]
  ·rw[if_neg h0];unfold a12;rw[show a2 e F ((.sign 124,k)::t)=_ from h2 F.asked F.fs,aW,aW];refine aJ fun x _=>?_;rw[if_neg h0,aW]
theorem ur(h1:is_ 38 t=false)(h2:is_ 124 t=false):a2 e F t=.ok (grp 2 (F.bs++[grp 1 F.ps]),t):=by
 unfold a2 a11 a10;rw[if_neg (by simp[h1])];show (if is_ 124 t=true then _ else _:RF).map _=_;rw[if_neg (by simp[h2])];rfl
theorem Xl(k:Nat)(h0:F.asked≠0)(G:wL):iU e F (G::r) ((.sign 44,k)::t)=gj e ⟨F.asked,F.fs++[grp 2 (F.bs++[grp 1 F.ps])],[],[]⟩ (G::r) t:=by
 unfold gj;show (fin e F _).bind _=(RL e 0 t).bind fun x=>(fin e ⟨F.asked,F.fs++[grp 2 (F.bs++[grp 1 F.ps])],[],x.1⟩ x.2).bind _;rw[←aW];congr 1;unfold fin;rw[if_neg h0];have h12:a12 e F ((.sign 44,k)::t)=(RL e 0 t).bind fun x=>a12 e ⟨F.asked,F.fs++[grp 2 (F.bs++[grp 1 F.ps])],[],x.1⟩ x.2:=by
  rw[show a12 e F ((.sign 44,k)::t)=(RL e 12 t).map (fun y=>((F.fs++[grp 2 (F.bs++[grp 1 F.ps])])++y.1,y.2)) from by rw[a12,ur rfl rfl];rfl,acu e F.asked,gk];refine aJ fun x _=>?_;unfold a12;rw[gk];show (a2 e ⟨F.asked,[],[],x.1⟩ x.2).bind _=(a2 e ⟨F.asked,[],[],x.1⟩ x.2).bind _;refine aJ fun y _=>?_;by_cases hi:is_ 44 y.2=true
  ·rw[if_pos hi,if_pos hi,qd];congr 1;funext z;show (_++(([]++[y.1])++z.1),z.2)=(((F.fs++[grp 2 (F.bs++[grp 1 F.ps])])++[y.1])++z.1,z.2);rw[nil_append,←append_assoc]
  ·rw[if_neg hi,if_neg hi];rfl
 rw[h12,aW];refine aJ fun x _=>?_;rw[if_neg h0]
theorem Xm(k:Nat)(h0:F.asked=0):iU e F (G::r) ((.sign 41,k)::t)=iU e { G with ps:=G.ps++[grp 2 (F.bs++[grp 1 F.ps])] } r t:=by
 show (fin e F _).bind _=_;unfold fin;rw[if_pos h0,ur rfl rfl];rfl
theorem vo(h0:F.asked≠0)(h1:is_ 38 t=false)(h2:is_ 124 t=false)(h4:is_ 44 t=false):fin e F t =
  if is_ 41 t=false∨(F.fs++[grp 2 (F.bs++[grp 1 F.ps])]).length<F.asked then .error (placeOf t) else .ok (.some_ F.asked (jG (F.fs++[grp 2 (F.bs++[grp 1 F.ps])])),t.drop 1):=by
 have h12:a12 e F t=.ok (F.fs++[grp 2 (F.bs++[grp 1 F.ps])],t):=by
  rw[a12,ur h1 h2];simp only[Except.bind,h4,false_eq_true,if_false]
 rw[fin,if_neg h0,h12];rfl
theorem Tz(k:Nat)(h0:F.asked≠0)(hk:F.asked≤(F.fs++[grp 2 (F.bs++[grp 1 F.ps])]).length) :
  iU e F (G::r) ((.sign 41,k)::t)=iU e { G with ps:=G.ps++[.some_ F.asked (jG (F.fs++[grp 2 (F.bs++[grp 1 F.ps])]))] } r t:=by
 rw[iU,vo h0 rfl rfl rfl,if_neg (by
  rintro (h|h)
  ·simp[is_]at h
  ·omega)]
 rfl
theorem acy(k:Nat)(h0:F.asked≠0)(hk:(F.fs++[grp 2 (F.bs++[grp 1 F.ps])]).length<F.asked):iU e F (G::r) ((.sign 41,k)::t)=.error k:=by
 rw[iU,vo h0 rfl rfl rfl,if_pos (.inr hk)];rfl
theorem acz(h1:is_ 38 t=false)(h2:is_ 124 t=false)(h3:is_ 41 t=false)(h4:is_ 44 t=false∨F.asked=0):iU e F (G::r) t=.error (placeOf t):=by
 rw[iU];by_cases h0:F.asked=0
 ·rw[fin,if_pos h0,ur h1 h2];simp only[Except.bind,take_,h3,false_eq_true,if_false,Except.map]
 ·rw[vo h0 h1 h2 (h4.resolve_right h0),if_pos (.inl h3)];rfl
theorem acA(h1:is_ 38 t=false)(h2:is_ 124 t=false):iU e F [] t=.ok (grp 2 (F.bs++[grp 1 F.ps]),t):=ur h1 h2
end
abbrev aG:=Nat×List Nat
def sG(P:Nat)(ns:List aG):List Form:=ns.foldl (fun d n=>d++[.some_ n.1 (jG (n.2.map fun i=>d.getD i (.one 0)))]) ((List.range P).map .one)
def den(P:Nat)(ns:List aG)(i:Nat):Form:=(sG P ns).getD i (.one 0)
theorem qN(P:Nat)(ns:List aG)(n:aG):sG P (ns++[n])=sG P ns++[.some_ n.1 (jG (n.2.map (den P ns)))]:=by
 unfold sG;rw[foldl_append];rfl
theorem snocInd{α:Type}{p:List α→Prop}(h0:p [])(h1:∀l a,p l→p (l++[a]))(l:List α):p l:=by
 have:∀r:List α,p r.reverse:=fun r=>by
  induction r with
  |nil=>exact h0
  |cons a r ih=>rw[reverse_cons];exact h1 _ _ ih
 have h:=this l.reverse
 rwa[List.reverse_reverse]at h
theorem jw(P:Nat)(ns:List aG):(sG P ns).length=P+ns.length:=by
 induction ns using snocInd with
 |h0=>simp[sG]
 |h1 l a ih=>rw[qN,length_append,ih,length_append];simp;omega
theorem GP(P:Nat)(ns more:List aG):∃d,sG P (ns++more)=sG P ns++d:=by
 induction more using snocInd with
 |h0=>exact⟨[],by simp⟩
 |h1 l a ih=>
  obtain⟨d,e⟩:=ih;refine⟨d++[Form.some_ a.1 (jG (a.2.map (den P (ns++l))))],?_⟩;rw[←append_assoc,qN,e,append_assoc]
theorem ig{P:Nat}{ns:List aG}(more:List aG){i:Nat}(h:i<P+ns.length):den P (ns++more) i=den P ns i:=by
 obtain⟨d,e⟩:=GP P ns more;unfold den;rw[e,getD_eq_getElem?_getD,getD_eq_getElem?_getD,getElem?_append_left (by rw[jw];exact h)]
theorem oK(P:Nat)(ns:List aG)(n:aG):den P (ns++[n]) (P+ns.length)=.some_ n.1 (jG (n.2.map (den P ns))):=by
 show (sG P (ns++[n])).getD (P+ns.length) (.one 0)=_;rw[qN,getD_eq_getElem?_getD,getElem?_append_right (by rw[jw];exact le_refl _),jw,sub_self];rfl
theorem eU{P:Nat}(ns:List aG){i:Nat}(h:i<P):den P ns i=.one i:=by
 have e:=ig (P:=P) (ns:=[]) ns (i:=i) (by simpa using h);rw[nil_append]at e;rw[e];unfold den sG;rw[foldl_nil,getD_eq_getElem?_getD,getElem?_map,List.getElem?_range h];rfl
theorem fQ{P:Nat}{ns:List aG}(more:List aG){l:List Nat}(h:∀i∈l,i<P+ns.length):l.map (den P (ns++more))=l.map (den P ns):=
 map_congr_left fun i hi=>ig more (h i hi)
def Good(P:Nat)(ns:List aG):Prop:=∀(j:Nat)(n:aG),ns[j]?=some n→(∀i∈n.2,i<P+j)∧1≤n.1∧n.1≤n.2.length
theorem Good.nil{P:Nat}:Good P []:=fun j n h=>by simp at h
theorem Good.snoc{P:Nat}{ns:List aG}{n:aG}(g:Good P ns)(h:∀i∈n.2,i<P+ns.length)(h1:1≤n.1)(h2:n.1≤n.2.length):Good P (ns++[n]):=fun j m e=>by
 by_cases hj:j<ns.length
 ·rw[getElem?_append_left hj]at e;exact g j m e
 ·rw[getElem?_append_right (by omega)]at e;have hj2:j-ns.length=0:=by
   cases q:j-ns.length with
   |zero=>rfl
   |succ k=>rw[q]at e;simp at e
  rw[hj2]at e;simp at e;subst e;have:j=ns.length:=by omega
  subst this;exact⟨h,h1,h2⟩
theorem Good.init{P:Nat}{ns:List aG}{n:aG}(g:Good P (ns++[n])):Good P ns∧(∀i∈n.2,i<P+ns.length)∧1≤n.1∧n.1≤n.2.length:=by
 refine⟨fun j m e=>g j m ?_,g ns.length n (by simp)⟩;rw[getElem?_append_left (List.getElem?_eq_some_iff.mp e).1];exact e
def v9{α:Type}(base:Nat→α)(step:Nat→List α→α)(dflt:α)(P:Nat)(ns:List aG):List α:=
 ns.foldl (fun d n=>d++[step n.1 (n.2.map fun i=>d.getD i dflt)]) ((List.range P).map base)
theorem yS{α:Type}(base:Nat→α)(step:Nat→List α→α)(dflt:α)(P:Nat)(ns:List aG)(n:aG) :
  v9 base step dflt P (ns++[n])=v9 base step dflt P ns++[step n.1 (n.2.map fun i=>(v9 base step dflt P ns).getD i dflt)]:=by
 unfold v9;rw[foldl_append];rfl
theorem TF{α:Type}{base:Nat→α}{step:Nat→List α→α}{dflt:α}{P:Nat}(g:Form→α)(h1:∀i,g (.one i)=base i)(h2:∀k l,g (.some_ k (jG l))=step k (l.map g))(ns:List aG)(ok:Good P ns) :
  v9 base step dflt P ns=(sG P ns).map g:=by
 induction ns using snocInd with
 |h0=>
  show (List.range P).map base=((List.range P).map Form.one).map g;rw[map_map];exact map_congr_left fun i _=>(h1 i).symm
 |h1 l a ih=>
  obtain⟨g1,g2,_⟩:=ok.init;rw[yS,qN,ih g1,map_append,map_cons,map_nil,h2,map_map];congr 2;congr 1;refine map_congr_left fun i hi=>?_;have hl:i<(sG P l).length:=by rw[jw];exact g2 i hi
  show ((sG P l).map g).getD i dflt=g ((sG P l).getD i (.one 0));rw[getD_eq_getElem?_getD,getD_eq_getElem?_getD,getElem?_map,getElem?_eq_getElem hl];rfl
theorem TJ{α:Type}{base:Nat→α}{step:Nat→List α→α}{dflt:α}{P:Nat}(g:Form→α)(h1:∀i,g (.one i)=base i)(h2:∀k l,g (.some_ k (jG l))=step k (l.map g))(ns:List aG)(ok:Good P ns){i:Nat}(hi:i<P+ns.length) :
  (v9 base step dflt P ns)[i]?=some (g (den P ns i)):=by
 have hl:i<(sG P ns).length:=by rw[jw];exact hi
 rw[TF g h1 h2 ns ok,getElem?_map,getElem?_eq_getElem hl];unfold den;rw[getD_eq_getElem?_getD,getElem?_eq_getElem hl];rfl
theorem cW:∀l:List Form,(leavesIn (jG l)).length=(l.map fun f=>(leaves f).length).sum
 | []=>rfl
 |f::l=>by rw[jG,leavesIn,length_append,cW l];rfl
theorem GQ(l:List Form):countOf (jG l)=l.length:=by rw[mj,Nv]
theorem wg(p:Nat):∀l:List Form,soundIn p (jG l)=true↔∀f∈l,sound p f=true
 | []=>by simp[jG,soundIn]
 |f::l=>by rw[jG,soundIn,and_eq_true,wg p l];simp
theorem sH(p k:Nat)(l:List Form):sound p (.some_ k (jG l))=true↔1≤k∧k≤l.length∧l.length<p∧∀f∈l,sound p f=true:=by
 rw[sound,and_eq_true,and_eq_true,and_eq_true,wg,GQ];simp
def Narrow(p:Nat)(ns:List aG):Prop:=∀n∈ns,n.2.length<p
theorem wM{p P:Nat}(ns:List aG)(ok:Good P ns)(h:Narrow p ns):∀i,i<P+ns.length→sound p (den P ns i)=true:=by
 induction ns using snocInd with
 |h0=>
  intro i hi;rw[eU [] (by simpa using hi)];rfl
 |h1 l a ih=>
  obtain⟨g1,g2,g3,g4⟩:=ok.init;have ih':=ih g1 fun n hn=>h n (mem_append_left _ hn);intro i hi;by_cases hl:i<P+l.length
  ·rw[ig [a] hl];exact ih' i hl
  ·have e:i=P+l.length:=by rw[length_append]at hi;simp at hi;omega
   subst e;rw[oK,sH,length_map];refine⟨g3,g4,h a (by simp),fun f hf=>?_⟩;obtain⟨j,hj,rfl⟩:=mem_map.mp hf;exact ih' j (g2 j hj)
theorem jx{P:Nat}{ns:List aG}(ok:Good P ns){j:Nat}{n:aG}(h:ns[j]?=some n):den P ns (P+j)=.some_ n.1 (jG (n.2.map (den P ns))):=by
 obtain⟨hj,e⟩:=List.getElem?_eq_some_iff.mp h;have hs:ns=(ns.take j++[n])++ns.drop (j+1):=by
  rw[←e,append_assoc,List.singleton_append,List.getElem_cons_drop,take_append_drop]
 have hl:(ns.take j).length=j:=by rw[length_take,min_eq_left (le_of_lt hj)]
 have h1:den P ((ns.take j++[n])++ns.drop (j+1)) (P+j)=den P (ns.take j++[n]) (P+j):=ig _ (by rw[length_append,hl];simp);have h2:den P (ns.take j++[n]) (P+(ns.take j).length)=.some_ n.1 (jG (n.2.map (den P (ns.take j)))):=oK _ _ _;rw[hl]at h2;rw[←hs]at h1;rw[h1,h2];have g:=(ok j n h).1;have h3:∀i∈n.2,i<P+(ns.take j).length:=fun i hi=>by rw[hl];exact g i hi
 have h4:=fQ (P:=P) (ns:=ns.take j) ([n]++ns.drop (j+1)) h3;rw[←append_assoc,←hs]at h4;rw[h4]
def acB(q:Form→Prop):Prop:=∀k l,q (.some_ k (jG l))→∀f∈l,q f
def Fe(P:Nat)(ns:List aG)(rts:List Nat):Prop:=∀q,acB q→(∀i∈rts,q (den P ns i))→∀j,j<ns.length→q (den P ns (P+j))
theorem Fe.mono{P:Nat}{ns:List aG}{a b:List Nat}(c:Fe P ns a)(h:∀i∈a,i∈b):Fe P ns b:=fun q hq z=>c q hq fun i hi=>z i (h i hi)
theorem Fe.nil{P:Nat}:Fe P [] []:=fun q _ _ j hj=>by simp at hj
theorem Fe.node{P k:Nat}{ns:List aG}{w a b:List Nat}(c:Fe P ns a)(hw:∀i∈w,i<P+ns.length)(ha:∀i∈a,i<P+ns.length)(hab:∀i∈a,i∈w∨i∈b)(hn:P+ns.length∈b):Fe P (ns++[(k,w)]) b:=fun q hq z j hj=>by
 have h1:=z _ hn;by_cases hl:j<ns.length
 ·rw[ig [(k,w)] (by omega:P+j<P+ns.length)];refine c q hq (fun i hi=>?_) j hl;rcases hab i hi with y|y
  ·rw[oK]at h1;exact hq _ _ h1 _ (mem_map.mpr ⟨i,y,rfl⟩)
  ·rw[←ig [(k,w)] (ha i hi)];exact z i y
 ·have:j=ns.length:=by rw[length_append]at hj;simp at hj;omega
  subst this;exact h1
theorem Fe.narrow{P:Nat}{ns:List aG}{a:List Nat}(c:Fe P ns a)(g:Good P ns)(p:Nat)(h:∀i∈a,sound p (den P ns i)=true):Narrow p ns:=fun n hn=>by
 obtain⟨j,hj,e⟩:=List.mem_iff_getElem.mp hn;have h1:=c (fun f=>sound p f=true) (fun k l z f hf=>((sH p k l).mp z).2.2.2 f hf) h j hj;rw[jx g (by rw[getElem?_eq_getElem hj,e]),sH,length_map]at h1;exact h1.2.2.1
theorem Fe.places{P:Nat}{ns:List aG}{a:List Nat}(c:Fe P ns a)(m:Nat)(h:∀i∈a,(leaves (den P ns i)).length≤m){j:Nat}(hj:j<ns.length):(leaves (den P ns (P+j))).length≤m:=
 c (fun f=>(leaves f).length≤m) (fun k l z f hf=>by
  have z':(leavesIn (jG l)).length≤m:=z;rw[cW]at z';refine le_trans ?_ z';clear z z'
  induction l with
  |nil=>simp at hf
  |cons x t ih=>
   rw[map_cons,sum_cons];rcases mem_cons.mp hf with rfl|hf
   ·exact le_add_right _ _
   ·exact le_trans (ih hf) (Nat.le_add_left _ _)) h j hj
structure aD where
 asked:Nat
 fs:List Nat
 bs:List Nat
 ps:List Nat
def aD.empty(k:Nat):aD:=⟨k,[],[],[]⟩
def aD.all(F:aD):List Nat:=F.fs++(F.bs++F.ps)
def aD.den(P:Nat)(ns:List aG)(F:aD):wL:=⟨F.asked,F.fs.map (Sp.den P ns),F.bs.map (Sp.den P ns),F.ps.map (Sp.den P ns)⟩
theorem aD.ig{P:Nat}{ns:List aG}(more:List aG){F:aD}(h:∀i∈F.all,i<P+ns.length):F.den P (ns++more)=F.den P ns:=by
 unfold aD.den;rw[fQ more fun i hi=>h i (by simp[aD.all,hi]),fQ more fun i hi=>h i (by simp[aD.all,hi]),fQ more fun i hi=>h i (by simp[aD.all,hi])]
def dM(ns:List aG)(k:Nat)(w:List Nat):List aG:=if w.length=1 then ns else ns++[(k,w)]
def fU(P:Nat)(ns:List aG)(w:List Nat):Nat:=if w.length=1 then w.headD 0 else P+ns.length
theorem sI(ns:List aG)(k:Nat)(w:List Nat):∃more,dM ns k w=ns++more:=by
 unfold dM;split
 ·exact⟨[],by simp⟩
 ·exact⟨_,rfl⟩
theorem Cg{P k:Nat}{ns:List aG}{w:List Nat}(hw:∀i∈w,i<P+ns.length):fU P ns w<P+(dM ns k w).length:=by
 unfold fU dM;by_cases h:w.length=1
 ·rw[if_pos h,if_pos h]
  match w,h with
  | [i],_=>exact hw i (by simp)
 ·rw[if_neg h,if_neg h];simp
theorem wj{P k:Nat}{ns:List aG}{w:List Nat}(g:Good P ns)(hw:∀i∈w,i<P+ns.length)(h1:1≤k)(h2:k≤w.length):Good P (dM ns k w):=by
 unfold dM;split
 ·exact g
 ·exact g.snoc hw h1 h2
theorem yU{P k what:Nat}{ns:List aG}{w:List Nat}(hw:∀i∈w,i<P+ns.length)(hk:k=if what=1 then w.length else 1):den P (dM ns k w) (fU P ns w)=grp what (w.map (den P ns)):=by
 unfold fU dM;by_cases h:w.length=1
 ·rw[if_pos h,if_pos h]
  match w,h with
  | [i],_=>rfl
 ·rw[if_neg h,if_neg h,oK];show Form.some_ k _=_
  match w,h with
  | [],_=>rw[hk];rfl
  |i::j::r,_=>
   show Form.some_ k _=Form.some_ _ _;rw[hk];simp
theorem yV{P k:Nat}{ns:List aG}{w a b:List Nat}(c:Fe P ns a)(hw:∀i∈w,i<P+ns.length)(ha:∀i∈a,i<P+ns.length)(hab:∀i∈a,i∈w∨i∈b)(hn:fU P ns w∈b):Fe P (dM ns k w) b:=by
 unfold fU at hn;unfold dM;by_cases h:w.length=1
 ·rw[if_pos h]at hn ⊢;refine c.mono fun i hi=>?_;rcases hab i hi with z|z
  ·match w,h with
   | [j],_=>
    simp at z;subst z;exact hn
  ·exact z
 ·rw[if_neg h]at hn ⊢;exact c.node hw ha hab hn
def look(l:List (Bytes×Nat))(b:Bytes):Option Nat:=(l.find? fun x=>x.1==b).map (·.2)
theorem wk(l m:List (Bytes×Nat))(b:Bytes):look (l++m) b=(look l b).or (look m b):=by
 unfold look;rw[List.find?_append];cases List.find? (fun x=>x.1==b) l<;>rfl
theorem qe(b:Bytes):∀(l:List Bytes)(k:Nat),look (l.zipIdx k) b=(l.findIdx? fun x=>x==b).map (·+k)
 | [],k=>rfl
 |a::r,k=>by
  rw[List.zipIdx_cons,List.findIdx?_cons];unfold look;rw[find?_cons];cases h:(a==b) with
  |true=>simp[h]
  |false=>
   have ih:=qe b r (k+1);unfold look at ih;simp only[h,ih,false_eq_true,if_false,Option.map_map];congr 1;funext x;show x+(k+1)=(x+1)+k;omega
structure Bk where
 people:List Bytes
 ns:List aG
 ls:List (Bytes×Nat)
def Bk.P(B:Bk):Nat:=B.people.length
def Bk.names(B:Bk):List (Bytes×Nat):=B.people.zipIdx++B.ls
def Bk.known(B:Bk):Known:=⟨B.people,B.ls.map fun x=>(x.1,den B.P B.ns x.2)⟩
structure Bk.Ok(B:Bk):Prop where
 good:Good B.P B.ns
 lt:∀x∈B.ls,x.2<B.P+B.ns.length
 cov:Fe B.P B.ns (B.ls.map (·.2))
theorem rK(g:Nat→Form)(b:Bytes):∀l:List (Bytes×Nat),((l.map fun x=>(x.1,g x.2)).find? fun (x:Bytes×Form)=>x.1==b).map (fun x=>x.2)=(look l b).map g
 | []=>rfl
 |a::r=>by
  have ih:=rK g b r;unfold look at ih ⊢;rw[map_cons,find?_cons,find?_cons];show (match a.1==b with|true=>_|false=>_:Option (Bytes×Form)).map _=_;cases h:(a.1==b) with
  |true=>rfl
  |false=>exact ih
theorem uw(g:Nat→Form)(b:Bytes):∀l:List (Bytes×Nat),((l.map fun x=>(x.1,g x.2)).any fun (x:Bytes×Form)=>x.1==b)=(look l b).isSome
 | []=>rfl
 |a::r=>by
  have ih:=uw g b r;unfold look at ih ⊢;rw[map_cons,any_cons,find?_cons,ih];cases h:(a.1==b)<;>simp[h]
theorem pL(b:Bytes):∀(l:List Bytes),l.contains b=(l.findIdx? fun x=>x==b).isSome
 | []=>rfl
 |a::r=>by
  rw[List.contains_cons,List.findIdx?_cons,pL b r];by_cases h:a=b
  ·subst h;simp
  ·have h1:(b==a)=false:=by simpa using fun z:b=a=>h z.symm
   have h2:(a==b)=false:=by simpa using h
   rw[h1,h2];simp
theorem yW(b:Bytes):∀(l:List Bytes)(i:Nat),(l.findIdx? fun x=>x==b)=some i→i<l.length
 | [],i,h=>by simp at h
 |a::r,i,h=>by
  rw[List.findIdx?_cons]at h;split at h
  ·cases h;simp
  ·cases q:r.findIdx? fun x=>x==b with
   |none=>rw[q]at h;cases h
   |some j=>
    rw[q]at h;cases h;have:=yW b r j q;simp;omega
theorem Bk.yX(B:Bk)(b:Bytes):knows B.known b=(look B.names b).isSome:=by
 unfold knows Bk.names;rw[wk,qe];show (B.people.contains b||(B.ls.map fun x=>(x.1,den B.P B.ns x.2)).any _)=_;rw[uw,pL];cases (B.people.findIdx? fun x=>x==b)<;>simp
theorem Bk.yZ(B:Bk)(b:Bytes):meaning B.known b=(look B.names b).map (den B.P B.ns):=by
 unfold meaning Bk.names;rw[wk,qe];show (match B.people.findIdx? fun (x:Bytes)=>x==b with|some i=>some (Form.one i)|none=>_)=_;cases h:(B.people.findIdx? fun x=>x==b) with
 |none=>
  show (((B.ls.map fun x=>(x.1,den B.P B.ns x.2)).find? fun (x:Bytes×Form)=>x.1==b).map fun x=>x.2)=_;rw[rK];simp
 |some i=>
  have hi:i<B.P:=yW b _ i h;show some (Form.one i)=some (den B.P B.ns (i+0));rw[add_zero,eU _ hi]
theorem TQ{l:List (Bytes×Nat)}{b:Bytes}{i:Nat}(h:look l b=some i):(b,i)∈l:=by
 unfold look at h;cases q:l.find? fun x=>x.1==b with
 |none=>rw[q]at h;cases h
 |some x=>
  rw[q]at h;have h1:=find?_some q;have h2:=mem_of_find?_eq_some q;simp at h h1;rw[←h1,←h];exact h2
theorem Bk.Ok.NK{B:Bk}(k:B.Ok){b:Bytes}{i:Nat}(h:look B.names b=some i):i<B.P+B.ns.length:=by
 have hm:=TQ h;unfold Bk.names at hm;rcases mem_append.mp hm with z|z
 ·have:=(List.mem_zipIdx z).2.1;simp at this;unfold Bk.P;omega
 ·exact k.lt _ z
theorem qg{e:Known}{t:Toks}{x:Bytes×Toks}(h:newName e t=.ok x):x.2.length+1=t.length:=by
 match t,h with
 | (.name b,k)::r,h=>
  rw[newName]at h;split at h
  ·cases h
  ·cases h;rfl
 | [],h=>simp[newName]at h
 | (.num b,k)::r,h=>simp[newName]at h
 | (.sign b,k)::r,h=>simp[newName]at h
 | (.bad,k)::r,h=>simp[newName]at h
 | (.ended,k)::r,h=>simp[newName]at h
theorem qj(f:Nat)(e:Known)(t:Toks):people (f+1) e t=(newName e t).bind fun (x:Bytes×Toks)=>if is_ 44 x.2=true then people f ⟨e.people++[x.1],e.lets⟩ (x.2.drop 1) else .ok (⟨e.people++[x.1],e.lets⟩,x.2):=rfl
theorem mQ:∀(f g:Nat)(e:Known)(t:Toks),t.length<f→t.length<g→people f e t=people g e t
 | 0,_,_,_,h,_=>absurd h (not_lt_zero _)
 |_+1,0,_,_,_,h=>absurd h (not_lt_zero _)
 |f+1,g+1,e,t,h1,h2=>by
  rw[qj,qj];refine aJ fun x hx=>?_;have:=qg hx;by_cases hi:is_ 44 x.2=true
  ·rw[if_pos hi,if_pos hi];have:=(vh hi).2;exact mQ f g _ _ (by omega) (by omega)
  ·rw[if_neg hi,if_neg hi]
def iu(e:Known)(t:Toks):Read Known:=people (t.length+1) e t
theorem Kg(e:Known)(t:Toks):iu e t=(newName e t).bind fun (x:Bytes×Toks)=>if is_ 44 x.2=true then iu ⟨e.people++[x.1],e.lets⟩ (x.2.drop 1) else .ok (⟨e.people++[x.1],e.lets⟩,x.2):=by
 unfold iu;rw[qj];refine aJ fun x hx=>?_;have:=qg hx;by_cases hi:is_ 44 x.2=true
 ·rw[if_pos hi,if_pos hi];have:=(vh hi).2;exact mQ _ _ _ _ (by omega) (by omega)
 ·rw[if_neg hi,if_neg hi]
theorem GR{e:Known}{t:Toks}{x:Form×Toks}(h:formula e t=.ok x):x.2.length<t.length:=by
 rw[yR]at h;cases q:RL e 2 t with
 |error k=>rw[q]at h;cases h
 |ok y=>
  rw[q]at h;simp only[Except.map,Except.ok.injEq]at h;subst h;exact Tv (by unfold cR;omega) q
def jy(e:Known)(t:Toks)(k:Known→Toks→Except Nat Known):Except Nat Known:=
 if atEnd t=true then .ok e
 else if isKey "let" t=false then .error (placeOf t)
 else (newName e (t.drop 1)).bind fun (x:Bytes×Toks)=>(take_ 61 x.2).bind fun (u:Toks)=>(formula e u).bind fun (y:Form×Toks)=>(take_ 59 y.2).bind fun (r:Toks)=>k ⟨e.people,e.lets++[(x.1,y.1)]⟩ r
theorem vp(f:Nat)(e:Known)(t:Toks):lets (f+1) e t=jy e t (lets f):=rfl
theorem ql{e:Known}{t:Toks}{k k':Known→Toks→Except Nat Known}(h:∀e' r,r.length<t.length→k e' r=k' e' r):jy e t k=jy e t k':=by
 unfold jy;by_cases h1:atEnd t=true
 ·rw[if_pos h1,if_pos h1]
 ·rw[if_neg h1,if_neg h1];by_cases h2:isKey "let" t=false
  ·rw[if_pos h2,if_pos h2]
  ·rw[if_neg h2,if_neg h2];refine aJ fun x hx=>aJ fun u hu=>aJ fun y hy=>aJ fun r hr=>h _ _ ?_;have h3:=qg hx;have h4:=take_len hu;have h5:=GR hy;have h6:=take_len hr;have h7:(t.drop 1).length≤t.length:=by simp
   omega
theorem wu:∀(f g:Nat)(e:Known)(t:Toks),t.length<f→t.length<g→lets f e t=lets g e t
 | 0,_,_,_,h,_=>absurd h (not_lt_zero _)
 |_+1,0,_,_,_,h=>absurd h (not_lt_zero _)
 |f+1,g+1,e,t,h1,h2=>by
  rw[vp,vp];exact ql fun e' r hr=>wu f g e' r (by omega) (by omega)
def mq(e:Known)(t:Toks):Except Nat Known:=lets (t.length+1) e t
theorem zc(e:Known)(t:Toks):mq e t=jy e t mq:=by
 unfold mq;rw[vp];exact ql fun e' r hr=>wu _ _ _ _ (by omega) (by omega)
theorem Kh(t:Toks):program t=(field t).bind fun (x:Nat×Toks)=>if isKey "who" x.2=false then .error (placeOf x.2) else
  (iu ⟨[],[]⟩ (x.2.drop 1)).bind fun (y:Known×Toks)=>(take_ 59 y.2).bind fun (r:Toks)=>(mq y.1 r).map fun (e:Known)=>⟨x.1,e.people,e.lets⟩:=by
 unfold program;refine aJ fun x _=>?_;by_cases h:isKey "who" x.2=false
 ·rw[if_pos h,if_pos h]
 ·rw[if_neg h,if_neg h];have hl:(x.2.drop 1).length≤x.2.length:=by simp
  unfold iu;rw[mQ (x.2.length+1) ((x.2.drop 1).length+1) _ _ (by omega) (by omega)];rfl
theorem Ci{B:Bk}(k:B.Ok)(p:Nat):small ⟨p,B.people,B.known.lets⟩=true ↔
  B.people.length≤10∧B.ls.length≤16∧Narrow p B.ns∧∀x∈B.ls,(leaves (den B.P B.ns x.2)).length≤24:=by
 unfold small;rw[and_eq_true,and_eq_true,all_eq_true];show (decide (B.people.length≤10)=true∧decide ((B.ls.map fun x=>(x.1,den B.P B.ns x.2)).length≤16)=true∧∀x∈B.ls.map fun x=>(x.1,den B.P B.ns x.2),_)↔_;rw[length_map,decide_eq_true_iff,decide_eq_true_iff];constructor
 ·rintro⟨h1,h2,h3⟩;have h3':∀x∈B.ls,(leaves (den B.P B.ns x.2)).length≤24∧sound p (den B.P B.ns x.2)=true:=fun x hx=>by
   have:=h3 _ (mem_map.mpr ⟨x,hx,rfl⟩);rw[and_eq_true,decide_eq_true_iff]at this;exact this
  refine⟨h1,h2,k.cov.narrow k.good p fun i hi=>?_,fun x hx=>(h3' x hx).1⟩;obtain⟨x,hx,rfl⟩:=mem_map.mp hi;exact(h3' x hx).2
 ·rintro⟨h1,h2,h3,h4⟩;refine⟨h1,h2,fun x hx=>?_⟩;obtain⟨y,hy,rfl⟩:=mem_map.mp hx;rw[and_eq_true,decide_eq_true_iff];exact⟨h4 y hy,wM B.ns k.good h3 y.2 (k.lt y hy)⟩
structure jz(B:Bk)(ns:List aG)(st:List aD):Prop where
 ext:∃more,ns=B.ns++more
 good:Good B.P ns
 Wv:∀i∈B.ls.map (·.2),i<B.P+ns.length
 lt:∀i∈st.flatMap aD.all,i<B.P+ns.length
 cov:Fe B.P ns (B.ls.map (·.2)++st.flatMap aD.all)
section
variable{B:Bk}{ns:List aG}{F G:aD}{r:List aD}
theorem jz.start(k:B.Ok):jz B B.ns [aD.empty 0]:=⟨⟨[],by simp⟩,k.good,fun i hi=>by obtain⟨x,hx,rfl⟩:=mem_map.mp hi;exact k.lt x hx,fun i hi=>by simp[aD.all,aD.empty]at hi,by
 have e:([aD.empty 0].flatMap aD.all)=[]:=rfl;rw[e,append_nil];exact k.cov⟩
theorem jz.le(S:jz B ns r):B.ns.length≤ns.length:=by
 obtain⟨m,rfl⟩:=S.ext;rw[length_append];omega
theorem jz.old(S:jz B ns r){i:Nat}(h:i<B.P+B.ns.length):den B.P ns i=den B.P B.ns i:=by
 obtain⟨m,rfl⟩:=S.ext;exact ig m h
theorem jz.push(S:jz B ns r)(k:Nat):jz B ns (aD.empty k::r):=by
 have e:(aD.empty k::r).flatMap aD.all=r.flatMap aD.all:=rfl;exact⟨S.ext,S.good,S.Wv,by rw[e];exact S.lt,by rw[e];exact S.cov⟩
theorem jz.part(k:B.Ok)(S:jz B ns (F::r)){b:Bytes}{i:Nat}(h:look B.names b=some i):jz B ns ({ F with ps:=F.ps++[i] }::r):=by
 have hi:i<B.P+ns.length:=lt_of_lt_of_le (k.NK h) (add_le_add_left S.le _);have mem:∀j,j∈({ F with ps:=F.ps++[i] }::r).flatMap aD.all↔j=i∨j∈(F::r).flatMap aD.all:=fun j=>by
  simp only[flatMap_cons,aD.all,mem_append,mem_singleton];constructor
  ·rintro ((h | (h | (h|h)))|h)<;>simp[h]
  ·rintro (h | ((h | (h|h))|h))<;>simp[h]
 refine⟨S.ext,S.good,S.Wv,fun j hj=>?_,S.cov.mono fun j hj=>?_⟩
 ·rcases (mem j).mp hj with rfl|z
  ·exact hi
  ·exact S.lt j z
 ·rcases mem_append.mp hj with z|z
  ·exact mem_append_left _ z
  ·exact mem_append_right _ ((mem j).mpr (.inr z))
def gW(ns:List aG)(F:aD):List aG:=dM ns F.ps.length F.ps
def dN(P:Nat)(ns:List aG)(F:aD):aD:=⟨F.asked,F.fs,F.bs++[fU P ns F.ps],[]⟩
def cC(P:Nat)(ns:List aG)(F:aD):List aG:=dM (gW ns F) 1 (dN P ns F).bs
def nF(P:Nat)(ns:List aG)(F:aD):Nat:=fU P (gW ns F) (dN P ns F).bs
def bV(P:Nat)(ns:List aG)(F:aD):aD:=⟨F.asked,F.fs++[nF P ns F],[],[]⟩
theorem fV{i:Nat}(h:i∈F.all):i∈(F::r).flatMap aD.all:=by rw[flatMap_cons];exact mem_append_left _ h
theorem nG{i:Nat}(h:i∈r.flatMap aD.all):i∈(F::r).flatMap aD.all:=by rw[flatMap_cons];exact mem_append_right _ h
theorem TV(ns:List aG)(F:aD):∃more,gW ns F=ns++more:=sI _ _ _
theorem jz.eb(S:jz B ns (F::r))(hp:F.ps≠[]):jz B (gW ns F) (dN B.P ns F::r):=by
 have hlen:1≤F.ps.length:=by cases h:F.ps with
  |nil=>exact absurd h hp
  |cons a b=>simp
 have hps:∀i∈F.ps,i<B.P+ns.length:=fun i hi=>S.lt i (fV (by simp[aD.all,hi]));obtain⟨m,em⟩:=TV ns F;obtain⟨m0,e0⟩:=S.ext;have hle:ns.length≤(gW ns F).length:=by rw[em,length_append];omega
 have mem:∀j,j∈(dN B.P ns F::r).flatMap aD.all↔j=fU B.P ns F.ps∨(j∈F.fs∨j∈F.bs)∨j∈r.flatMap aD.all:=fun j=>by
  simp only[flatMap_cons,aD.all,dN,mem_append,mem_singleton,append_nil];constructor
  ·rintro ((h | (h|h))|h)<;>simp[h]
  ·rintro (h | (h|h)|h)<;>simp[h]
 refine⟨⟨m0++m,by rw[em,e0,append_assoc]⟩,wj S.good hps hlen (le_refl _),fun i hi=>lt_of_lt_of_le (S.Wv i hi) (add_le_add_left hle _),fun j hj=>?_,?_⟩
 ·rcases (mem j).mp hj with rfl | (h|h)|h
  ·exact Cg hps
  ·exact lt_of_lt_of_le (S.lt j (fV (by simp[aD.all,h]))) (add_le_add_left hle _)
  ·exact lt_of_lt_of_le (S.lt j (fV (by simp[aD.all,h]))) (add_le_add_left hle _)
  ·exact lt_of_lt_of_le (S.lt j (nG h)) (add_le_add_left hle _)
 ·refine yV (a:=B.ls.map (·.2)++(F::r).flatMap aD.all) S.cov hps (fun i hi=>?_) (fun i hi=>?_) (mem_append_right _ ((mem _).mpr (.inl rfl)))
  ·rcases mem_append.mp hi with z|z
   ·exact S.Wv i z
   ·exact S.lt i z
  ·rcases mem_append.mp hi with z|z
   ·exact .inr (mem_append_left _ z)
   ·rw[flatMap_cons]at z;rcases mem_append.mp z with z|z
    ·simp only[aD.all,mem_append]at z;rcases z with z|z|z
     ·exact .inr (mem_append_right _ ((mem i).mpr (.inr (.inl (.inl z)))))
     ·exact .inr (mem_append_right _ ((mem i).mpr (.inr (.inl (.inr z)))))
     ·exact .inl z
    ·exact .inr (mem_append_right _ ((mem i).mpr (.inr (.inr z))))
theorem DN{P:Nat}{l:List aD}{more:List aG}(h:∀i∈l.flatMap aD.all,i<P+ns.length):l.map (aD.den P (ns++more))=l.map (aD.den P ns):=
 map_congr_left fun F hF=>aD.ig more fun i hi=>h i (mem_flatMap.mpr ⟨F,hF,hi⟩)
theorem jz.TX(S:jz B ns (F::r)):(dN B.P ns F).den B.P (gW ns F)=⟨F.asked,F.fs.map (den B.P ns),F.bs.map (den B.P ns)++[grp 1 (F.ps.map (den B.P ns))],[]⟩∧r.map (aD.den B.P (gW ns F))=r.map (aD.den B.P ns):=by
 have hps:∀i∈F.ps,i<B.P+ns.length:=fun i hi=>S.lt i (fV (by simp[aD.all,hi]));have hj:=yU (P:=B.P) (ns:=ns) (w:=F.ps) (what:=1) (k:=F.ps.length) hps rfl;obtain⟨m,em⟩:=TV ns F;constructor
 ·unfold aD.den dN;dsimp only;rw[map_append,map_cons,map_nil];show (⟨F.asked,F.fs.map (Sp.den B.P (gW ns F)),F.bs.map (Sp.den B.P (gW ns F))++[Sp.den B.P (dM ns F.ps.length F.ps) (fU B.P ns F.ps)],[]⟩:wL)=_;rw[hj,em,fQ m fun i hi=>S.lt i (fV (by simp[aD.all,hi])),fQ m fun i hi=>S.lt i (fV (by simp[aD.all,hi]))]
 ·rw[em];exact DN fun i hi=>S.lt i (nG hi)
theorem jz.ef(S:jz B ns (F::r))(hp:F.ps≠[]):jz B (cC B.P ns F) (bV B.P ns F::r):=by
 have S1:=S.eb hp;have hlen:1≤(dN B.P ns F).bs.length:=by simp[dN]
 have hbs:∀i∈(dN B.P ns F).bs,i<B.P+(gW ns F).length:=fun i hi=>S1.lt i (fV (by simp[aD.all,hi]));obtain⟨m,em⟩:=sI (gW ns F) 1 (dN B.P ns F).bs;obtain⟨m0,e0⟩:=S1.ext;have hle:(gW ns F).length≤(cC B.P ns F).length:=by unfold cC;rw[em,length_append];omega
 have mem:∀j,j∈(bV B.P ns F::r).flatMap aD.all↔j=nF B.P ns F∨j∈F.fs∨j∈r.flatMap aD.all:=fun j=>by
  simp only[flatMap_cons,aD.all,bV,mem_append,mem_singleton,append_nil];constructor
  ·rintro ((h|h)|h)<;>simp[h]
  ·rintro (h|h|h)<;>simp[h]
 refine⟨⟨m0++m,by unfold cC;rw[em,e0,append_assoc]⟩,wj S1.good hbs (le_refl _) hlen,fun i hi=>lt_of_lt_of_le (S1.Wv i hi) (add_le_add_left hle _),fun j hj=>?_,?_⟩
 ·rcases (mem j).mp hj with rfl|h|h
  ·exact Cg hbs
  ·exact lt_of_lt_of_le (S1.lt j (fV (by simp[aD.all,dN,h]))) (add_le_add_left hle _)
  ·exact lt_of_lt_of_le (S1.lt j (nG h)) (add_le_add_left hle _)
 ·refine yV (a:=B.ls.map (·.2)++(dN B.P ns F::r).flatMap aD.all) S1.cov hbs (fun i hi=>?_) (fun i hi=>?_) (mem_append_right _ ((mem _).mpr (.inl rfl)))
  ·rcases mem_append.mp hi with z|z
   ·exact S1.Wv i z
   ·exact S1.lt i z
  ·rcases mem_append.mp hi with z|z
   ·exact .inr (mem_append_left _ z)
   ·rw[flatMap_cons]at z;rcases mem_append.mp z with z|z
    ·have z:i∈F.fs∨i∈(dN B.P ns F).bs:=by simpa[aD.all,dN] using z
     rcases z with z|z
     ·exact .inr (mem_append_right _ ((mem i).mpr (.inr (.inl z))))
     ·exact .inl z
    ·exact .inr (mem_append_right _ ((mem i).mpr (.inr (.inr z))))
theorem jz.DP(S:jz B ns (F::r))(hp:F.ps≠[]):den B.P (cC B.P ns F) (nF B.P ns F)=grp 2 (F.bs.map (den B.P ns)++[grp 1 (F.ps.map (den B.P ns))]) ∧
  (bV B.P ns F).den B.P (cC B.P ns F)=⟨F.asked,F.fs.map (den B.P ns)++[grp 2 (F.bs.map (den B.P ns)++[grp 1 (F.ps.map (den B.P ns))])],[],[]⟩∧r.map (aD.den B.P (cC B.P ns F))=r.map (aD.den B.P ns):=by
 have S1:=S.eb hp;have hbs:∀i∈(dN B.P ns F).bs,i<B.P+(gW ns F).length:=fun i hi=>S1.lt i (fV (by simp[aD.all,hi]));have hj:=yU (P:=B.P) (ns:=gW ns F) (w:=(dN B.P ns F).bs) (what:=2) (k:=1) hbs rfl;obtain⟨e1,e2⟩:=S.TX;have eb:(dN B.P ns F).bs.map (den B.P (gW ns F))=F.bs.map (den B.P ns)++[grp 1 (F.ps.map (den B.P ns))]:=congrArg wL.bs e1;have ef0:(dN B.P ns F).fs.map (den B.P (gW ns F))=F.fs.map (den B.P ns):=congrArg wL.fs e1;rw[eb]at hj;obtain⟨m,em⟩:=sI (gW ns F) 1 (dN B.P ns F).bs;have hj':den B.P (cC B.P ns F) (nF B.P ns F)=grp 2 (F.bs.map (den B.P ns)++[grp 1 (F.ps.map (den B.P ns))]):=hj;refine⟨hj',?_,?_⟩
 ·unfold aD.den;show (⟨F.asked,(F.fs++[nF B.P ns F]).map (Sp.den B.P (cC B.P ns F)),[],[]⟩:wL)=_;rw[map_append,map_cons,map_nil,hj'];unfold cC;rw[em,fQ m fun i hi=>S1.lt i (fV (by simp[aD.all,dN,hi]))];have ef1:F.fs.map (den B.P (gW ns F))=F.fs.map (den B.P ns):=ef0;rw[ef1]
 ·unfold cC;rw[em,DN fun i hi=>S1.lt i (nG hi),e2]
theorem jz.close(S:jz B ns (F::G::r))(hf:F.bs=[]∧F.ps=[]){i:Nat}(hi:F.fs=[i]):jz B ns ({ G with ps:=G.ps++[i] }::r):=by
 have mem:∀j,j∈({ G with ps:=G.ps++[i] }::r).flatMap aD.all↔j∈(F::G::r).flatMap aD.all:=fun j=>by
  simp only[flatMap_cons,aD.all,mem_append,mem_singleton,hf.1,hf.2,hi,append_nil];constructor
  ·rintro ((h | (h | (h|h)))|h)<;>simp[h]
  ·rintro (h | ((h | (h|h))|h))<;>simp[h]
 exact⟨S.ext,S.good,S.Wv,fun j hj=>S.lt j ((mem j).mp hj),S.cov.mono fun j hj=>by
  rcases mem_append.mp hj with z|z
  ·exact mem_append_left _ z
  ·exact mem_append_right _ ((mem j).mpr z)⟩
theorem jz.Z9(S:jz B ns (F::G::r))(hf:F.bs=[]∧F.ps=[])(h1:1≤F.asked)(h2:F.asked≤F.fs.length):jz B (ns++[(F.asked,F.fs)]) ({ G with ps:=G.ps++[B.P+ns.length] }::r):=by
 have hfs:∀i∈F.fs,i<B.P+ns.length:=fun i hi=>S.lt i (fV (by simp[aD.all,hi]));have mem:∀j,j∈({ G with ps:=G.ps++[B.P+ns.length] }::r).flatMap aD.all↔j=B.P+ns.length∨j∈(G::r).flatMap aD.all:=fun j=>by
  simp only[flatMap_cons,aD.all,mem_append,mem_singleton];constructor
  ·rintro ((h | (h | (h|h)))|h)<;>simp[h]
  ·rintro (h | ((h | (h|h))|h))<;>simp[h]
 obtain⟨m,em⟩:=S.ext;have hl:(ns++[(F.asked,F.fs)]).length=ns.length+1:=by simp
 refine⟨⟨m++[(F.asked,F.fs)],by rw[em,append_assoc]⟩,S.good.snoc hfs h1 h2,fun i hi=>by rw[hl];have:=S.Wv i hi;omega,fun j hj=>?_,?_⟩
 ·rw[hl];rcases (mem j).mp hj with rfl|z
  ·omega
  ·have:=S.lt j (nG z);omega
 ·refine S.cov.node hfs (fun i hi=>?_) (fun i hi=>?_) (mem_append_right _ ((mem _).mpr (.inl rfl)))
  ·rcases mem_append.mp hi with z|z
   ·exact S.Wv i z
   ·exact S.lt i z
  ·rcases mem_append.mp hi with z|z
   ·exact .inr (mem_append_left _ z)
   ·rw[flatMap_cons]at z;rcases mem_append.mp z with z|z
    ·have z:i∈F.fs:=by simpa[aD.all,hf.1,hf.2] using z
     exact .inl z
    ·exact .inr (mem_append_right _ ((mem i).mpr (.inr z)))
theorem jz.known(S:jz B ns r)(k:B.Ok):(⟨B.people,ns,B.ls⟩:Bk).known=B.known:=by
 unfold Bk.known;show (⟨B.people,B.ls.map fun x=>(x.1,den B.P ns x.2)⟩:Known)=_;congr 1;refine map_congr_left fun x hx=>?_;rw[S.old (k.lt x hx)]
theorem jz.done(k:B.Ok)(S:jz B ns [F])(hf:F.bs=[]∧F.ps=[]){i:Nat}(hi:F.fs=[i])(x:Bytes):(⟨B.people,ns,B.ls++[(x,i)]⟩:Bk).Ok ∧
  (⟨B.people,ns,B.ls++[(x,i)]⟩:Bk).known=⟨B.known.people,B.known.lets++[(x,den B.P ns i)]⟩:=by
 have hall:[F].flatMap aD.all=[i]:=by simp[aD.all,hf.1,hf.2,hi]
 refine⟨⟨S.good,fun y hy=>?_,?_⟩,?_⟩
 ·rcases mem_append.mp hy with z|z
  ·exact S.Wv y.2 (mem_map.mpr ⟨y,z,rfl⟩)
  ·simp at z;subst z;exact S.lt i (by rw[hall];simp)
 ·have c:=S.cov;rw[hall]at c;show Fe B.P ns ((B.ls++[(x,i)]).map (·.2));rw[map_append];exact c
 ·have e:=S.known k;unfold Bk.known at e ⊢;show (⟨B.people,(B.ls++[(x,i)]).map fun y=>(y.1,den B.P ns y.2)⟩:Known)=_;rw[map_append];have e2:(B.ls.map fun y=>(y.1,den B.P ns y.2))=B.ls.map fun y=>(y.1,den B.P B.ns y.2):=congrArg Known.lets e;rw[e2];rfl
end
end Sp
namespace Pg
open PySem L2 Xc Sp
theorem gA{f:Str}{v:V}{r:List (Str×V)}:List.lookup f ((f,v)::r)=some v:=by rw[lookup_cons,beq_self_eq_true]
theorem bH{f g:Str}{v:V}{r:List (Str×V)}(h:¬f=g):List.lookup f ((g,v)::r)=List.lookup f r:=by rw[lookup_cons,beq_eq_false_iff_ne.mpr h]
theorem Kl{f:Str}{v x:V}{r:List (Str×V)}:cX f v ((f,x)::r)=(f,v)::r:=by
 rw[show cX f v ((f,x)::r)=(if f=f then (f,v)::r else (f,x)::cX f v r) from rfl,if_pos rfl]
theorem gn{f g:Str}{v x:V}{r:List (Str×V)}(h:¬g=f):cX f v ((g,x)::r)=(g,x)::cX f v r:=by
 rw[show cX f v ((g,x)::r)=(if g=f then (g,v)::r else (g,x)::cX f v r) from rfl,if_neg h]
theorem oM{f:Str}{v:V}:cX f v []=[(f,v)]:=rfl
def bT(l:List Nat):Str:=⟨l.toArray⟩
theorem DQ{a b:List Nat}(h:bT a=bT b):a=b:=by
 have:=congrArg TL.tl h;exact this
def kindS(w:List Nat):Str:=match w with
 | []=>"end"
 |c::r=>if Rb35.isSmall c=true∧(c::r).length≤15∧¬Rb35.keys.contains (c::r)=true then "name" else if Rb35.isDigit c=true∧(c::r).length≤5 then "number" else "other"
def GX(k w:Str)(p:Int):List (Str×V):=[("kind",.str k),("word",.str w),("place",.int p)]
def ndF(k:Int)(wl:Addr):List (Str×V):=[("asked",.int k),("within",.ref wl)]
def RB(p:Int)(pa na la ma:Addr):List (Str×V):=[("prime",.int p),("people",.ref pa),("nodes",.ref na),("lets",.ref la),("names",.ref ma)]
def Cj(k:Int)(fl bl pl:Addr):List (Str×V):=[("asked",.int k),("formulas",.ref fl),("boths",.ref bl),("parts",.ref pl)]
def JK(lt:Addr)(i:Int):List (Str×V):=[("tokens",.ref lt),("at",.int i)]
theorem nH(k w:Str)(p:Int):(GX k w p).lookup ("kind":Str)=some (.str k):=gA
theorem iY(k w:Str)(p:Int):(GX k w p).lookup ("word":Str)=some (.str w):=(bH (by decide +kernel)).trans gA
theorem Km(k w:Str)(p:Int):(GX k w p).lookup ("place":Str)=some (.int p):=(bH (by decide +kernel)).trans ((bH (by decide +kernel)).trans gA)
theorem Qs(k:Int)(wl:Addr):(ndF k wl).lookup ("asked":Str)=some (.int k):=gA
theorem oN(k:Int)(wl:Addr):(ndF k wl).lookup ("within":Str)=some (.ref wl):=(bH (by decide +kernel)).trans gA
section
variable(p:Int)(pa na la ma:Addr)
theorem vq:(RB p pa na la ma).lookup ("prime":Str)=some (.int p):=gA
theorem fW:(RB p pa na la ma).lookup ("people":Str)=some (.ref pa):=(bH (by decide +kernel)).trans gA
theorem nJ:(RB p pa na la ma).lookup ("nodes":Str)=some (.ref na):=(bH (by decide +kernel)).trans ((bH (by decide +kernel)).trans gA)
theorem qm:(RB p pa na la ma).lookup ("lets":Str)=some (.ref la):=(bH (by decide +kernel)).trans ((bH (by decide +kernel)).trans ((bH (by decide +kernel)).trans gA))
theorem kE:(RB p pa na la ma).lookup ("names":Str)=some (.ref ma):=(bH (by decide +kernel)).trans ((bH (by decide +kernel)).trans ((bH (by decide +kernel)).trans ((bH (by decide +kernel)).trans gA)))
theorem oO{m:Str}(h1:¬m="prime")(h2:¬m="people")(h3:¬m="nodes")(h4:¬m="lets")(h5:¬m="names"):(RB p pa na la ma).lookup m=none:=
 (bH h1).trans ((bH h2).trans ((bH h3).trans ((bH h4).trans ((bH h5).trans rfl))))
end
section
variable(k:Int)(fl bl pl x:Addr)
theorem qO:(Cj k fl bl pl).lookup ("asked":Str)=some (.int k):=gA
theorem iw:(Cj k fl bl pl).lookup ("formulas":Str)=some (.ref fl):=(bH (by decide +kernel)).trans gA
theorem Ck:(Cj k fl bl pl).lookup ("boths":Str)=some (.ref bl):=(bH (by decide +kernel)).trans ((bH (by decide +kernel)).trans gA)
theorem qP:(Cj k fl bl pl).lookup ("parts":Str)=some (.ref pl):=(bH (by decide +kernel)).trans ((bH (by decide +kernel)).trans ((bH (by decide +kernel)).trans gA))
theorem zf{m:Str}(h1:¬m="asked")(h2:¬m="formulas")(h3:¬m="boths")(h4:¬m="parts"):(Cj k fl bl pl).lookup m=none:=
 (bH h1).trans ((bH h2).trans ((bH h3).trans ((bH h4).trans rfl)))
theorem DR:cX "parts" (.ref x) (Cj k fl bl pl)=Cj k fl bl x:=by
 unfold Cj;rw[gn (by decide +kernel),gn (by decide +kernel),gn (by decide +kernel),Kl]
theorem DW:cX "boths" (.ref x) (Cj k fl bl pl)=Cj k fl x pl:=by
 unfold Cj;rw[gn (by decide +kernel),gn (by decide +kernel),Kl]
end
theorem Ko(lt:Addr)(i:Int):(JK lt i).lookup ("tokens":Str)=some (.ref lt):=gA
theorem Kr(lt:Addr)(i:Int):(JK lt i).lookup ("at":Str)=some (.int i):=(bH (by decide +kernel)).trans gA
theorem Xn(lt:Addr)(i j:Int):cX "at" (.int j) (JK lt i)=JK lt j:=by
 unfold JK;rw[gn (by decide +kernel),Kl]
theorem iy(lt:Addr)(i:Int){m:Str}(h1:¬m="tokens")(h2:¬m="at"):(JK lt i).lookup m=none:=(bH h1).trans ((bH h2).trans rfl)
def Kp(F:List Addr)(H H':Hp):Prop:=∀b o,H b=some o→b∉F→H' b=some o
theorem Kp.refl{H:Hp}{F:List Addr}:Kp F H H:=fun _ _ h _=>h
theorem Kp.trans{F:List Addr}{H H1 H2:Hp}(a:Kp F H H1)(b:Kp F H1 H2):Kp F H H2:=fun c o h n=>b c o (a c o h n) n
theorem Kp.mono{F G:List Addr}{H H1:Hp}(a:Kp F H H1)(h:∀x∈F,x∈G):Kp G H H1:=fun c o q n=>a c o q fun z=>n (h c z)
theorem Kp.same{H H1:Hp}(h:Same H H1)(F:List Addr):Kp F H H1:=fun c o q _=>h c o q
theorem Kp.aac{H H1:Hp}(h:Kp [] H H1):Same H H1:=fun c o q=>h c o q (by simp)
theorem Kp.upd{F:List Addr}{H H1:Hp}{a:Addr}{o:HO}(h:Kp F H H1)(ha:a∈F∨H a=none):Kp F H (L2.upd H1 a o):=fun c u q n=>by
 have hca:c≠a:=by
  rcases ha with z|z
  ·exact fun e=>n (e▸z)
  ·exact aB q z
 rw[aj hca];exact h c u q n
structure Cs where
 jm:Addr
 boo:Addr
 tok:Addr
 dJ:Addr
 cD:Addr
 ref:Addr
 pO:Addr
 pP:Addr
 cst:Addr
end Pg
namespace Pg
open PySem PySem.Spec PyProof.Rows L2 Xc Sp
section
variable{P:Program}{w:World}{K:PySem.W.Frag}{mg:Str→Option Value}{base:Heap}
theorem okN{x qual:Str}{st:Stmt}{f:Addr}{fd:FuncData}{N ps:List Str}{k:Nat}{sp:Sp}(F:Ka K x qual st f fd)(S:aH N ps (au st))(len:∀vs H Q E,sp vs H Q E→vs.length=ps.length)(hbody:∀(cdv:Value)(A:Around)(outer:List Env)(s:Shared)(H:Hp)(vs:List V)(Q:VK)(E:XK),cY k (A.deeper (envOfC qual (au st) s.heap.objs.size f cdv))→sp vs H Q E →
   ∃t,JH (aL (bI P w) P w K mg base N qual (au st) f cdv A outer s H E).nox (cu st) t∧t { nx:=fun _ H'=>Q .non H',rt:=Q } (start N vs) H):iT P w K mg base (bI P w) (k+1) f fd ps sp:=by
 obtain⟨oc,od,kV,doc,pm,an,cdv,ct,osl,rfl,lk,hcd⟩:=F.ex;refine Nj lk hcd S len fun A outer s H vs Q E hr hsp=>?_;obtain⟨t,h,q⟩:=hbody cdv A outer s H vs Q E hr hsp;exact⟨t,h.nox,q⟩
theorem Fg{x qual:Str}{st:Stmt}{f:Addr}{fd:FuncData}{N ps:List Str}{k:Nat}{sp:Sp}(F:Ka K x qual st f fd)(S:aH N ps (au st))(len:∀vs H Q E,sp vs H Q E→vs.length=ps.length)(hbody:∀(cdv:Value)(A:Around)(outer:List Env)(s:Shared)(H:Hp)(vs:List V)(Q:VK)(E:XK),cY k (A.deeper (envOfC qual (au st) s.heap.objs.size f cdv))→sp vs H Q E →
   ∃t,JH (aL (bI P w) P w K mg base N qual (au st) f cdv A outer s H E) (cu st) t∧t { nx:=fun _ H'=>Q .non H',rt:=Q } (start N vs) H):iT P w K mg base (bI P w) (k+1) f fd ps sp:=by
 obtain⟨oc,od,kV,doc,pm,an,cdv,ct,osl,rfl,lk,hcd⟩:=F.ex;exact Nj lk hcd S len fun A outer s H vs Q E hr hsp=>hbody cdv A outer s H vs Q E hr hsp
structure aX(P:Program)(w:World)(K:PySem.W.Frag)(mg:Str→Option Value)(base:Heap)(k:Nat)(x:Str)(ps:List Str)(sp:Sp):Prop where
 ex:∃f fd,mg x=some (.ref f)∧keepIn K (.ref f)=true∧Binds K fd ps []∧iT P w K mg base (bI P w) k f fd ps sp
structure bw(P:Program)(w:World)(K:PySem.W.Frag)(mg:Str→Option Value)(base:Heap)(k:Nat)(C:Addr)(m:Str)(ps:List Str)(sp:Sp):Prop where
 ex:∃f fd,Meth K C m f∧Binds K fd ps []∧iT P w K mg base (bI P w) k f fd ps sp
structure lq(P:Program)(w:World)(K:PySem.W.Frag)(mg:Str→Option Value)(base:Heap)(k:Nat)(x:Str)(C:Addr)(ps:List Str)(sp:Sp):Prop where
 ex:∃f fd,mg x=some (.ref C)∧Mk K C f∧Binds K fd ps []∧iT P w K mg base (bI P w) k f fd ps sp
theorem aX.mono{j k:Nat}{x:Str}{ps:List Str}{sp:Sp}(D:aX P w K mg base j x ps sp)(h:j≤k):aX P w K mg base k x ps sp:=
 let ⟨f,fd,a,b,c,d⟩:=D.ex;⟨f,fd,a,b,c,d.mono h⟩
theorem bw.mono{j k:Nat}{C:Addr}{x:Str}{ps:List Str}{sp:Sp}(D:bw P w K mg base j C x ps sp)(h:j≤k):bw P w K mg base k C x ps sp:=
 let ⟨f,fd,a,c,d⟩:=D.ex;⟨f,fd,a,c,d.mono h⟩
theorem lq.mono{j k:Nat}{C:Addr}{x:Str}{ps:List Str}{sp:Sp}(D:lq P w K mg base j x C ps sp)(h:j≤k):lq P w K mg base k x C ps sp:=
 let ⟨f,fd,a,b,c,d⟩:=D.ex;⟨f,fd,a,b,c,d.mono h⟩
end
section
variable{X:Cx}{k:Nat}{C:Addr}{ps:List Str}{sp:Sp}{E:XK}{x m:Str}{p pos apos:Pos}{e o:Expr}{es:List Expr}{ta:TE}{t:TA}
theorem bN(D:aX X.prog X.w X.K X.mg X.base k x ps sp)(hr:cY k X.A)(hg:Gl X x)(hx:Passes (bI X.prog X.w) X E)(ha:PA X (e::es) t)(hdb:(x==("__debug__":Str))=false:=by decide)(he:starEach (e::es) X.env=(false,eval e X.env)::starEach es X.env:=by rfl)(hpl:(backTo pos (starEach es X.env)).any (·.1)=false:=by rfl):PE X (.Call (.Name x p) (e::es) [] pos) (Sw sp [] E t):=by
 obtain⟨f,fd,h1,h2,h3,h4⟩:=D.ex;exact WT h4 hr hg h1 h2 h3 .nil hx ha hdb he hpl
theorem sJ(D:lq X.prog X.w X.K X.mg X.base k x C ps sp)(hr:cY (k+1) X.A)(hg:Gl X x)(hx:Passes (bI X.prog X.w) X E)(ha:PA X (e::es) t)(hdb:(x==("__debug__":Str))=false:=by decide)(he:starEach (e::es) X.env=(false,eval e X.env)::starEach es X.env:=by rfl)(hpl:(backTo pos (starEach es X.env)).any (·.1)=false:=by rfl):PE X (.Call (.Name x p) (e::es) [] pos) (Sx C sp [] E t):=by
 obtain⟨f,fd,h1,h2,h3,h4⟩:=D.ex;exact WX h2 h4 hr hg h1 h3 .nil hx ha hdb he hpl
theorem bK{pl:Sem Bool}(he:PE X o ta)(c:Cls X.K C)(D:bw X.prog X.w X.K X.mg X.base k C m ps sp)(hr:cY k X.A)(hx:Passes (bI X.prog X.w) X E)(ha:PA X (e::es) t)(hst:starEach (e::es) X.env=(false,eval e X.env)::starEach es X.env:=by rfl)(hpl:(backTo pos (starEach es X.env)).any (·.1)=false:=by rfl)(ht:eval (.Call (.Attribute o m apos) (e::es) [] pos) X.env=(do
   let ov ←eval o X.env
   standAt apos.atName
   let (f,first) ←holding [ov] (getMethod ov m pl)
   callWith pos f first (backTo pos (starEach (e::es) X.env)) (backToKw pos (keywordEach [] X.env))):=by rfl) :
  PE X (.Call (.Attribute o m apos) (e::es) [] pos) (ud C m sp [] E ta t):=by
 obtain⟨f,fd,h2,h3,h4⟩:=D.ex;exact WW (pl:=pl) he c h2 h4 hr h3 .nil hx ha hst hpl ht
theorem dU{pl:Sem Bool}(he:PE X o ta)(c:Cls X.K C)(D:bw X.prog X.w X.K X.mg X.base k C m ps sp)(hr:cY k X.A)(hx:Passes (bI X.prog X.w) X E)(ht:eval (.Call (.Attribute o m apos) [] [] pos) X.env=(do
   let ov ←eval o X.env
   standAt apos.atName
   let (f,first) ←holding [ov] (getMethod ov m pl)
   callWith pos f first (backTo pos (starEach [] X.env)) (backToKw pos (keywordEach [] X.env))):=by rfl) :
  PE X (.Call (.Attribute o m apos) [] [] pos) (ud C m sp [] E ta uV):=by
 obtain⟨f,fd,h2,h3,h4⟩:=D.ex;exact Sy (pl:=pl) he c h2 h4 hr h3 .nil hx ht
end
structure bL(K:PySem.W.Frag)(mg:Str→Option Value)(x:Str)(st:Stmt):Prop where
 ex:∃f fd,Ka K x x st f fd∧mg x=some (.ref f)
structure gB(K:PySem.W.Frag)(C:Addr)(m qual:Str)(st:Stmt):Prop where
 ex:∃f fd,Ka K m qual st f fd∧Meth K C m f
structure zj(K:PySem.W.Frag)(mg:Str→Option Value)(x:Str)(C:Addr)(qual:Str)(st:Stmt):Prop where
 ex:∃f fd,Ka K "__init__" qual st f fd∧Mk K C f∧mg x=some (.ref C)
structure GZ(K:PySem.W.Frag)(mg:Str→Option Value)(x:Str)(C:Addr)(qual:Str)(st:Stmt):Prop where
 ex:∃f fd,Ka K "__init__" qual st f fd∧Kf K C f∧mg x=some (.ref C)
 cls:Xh K C
abbrev cG(K:PySem.W.Frag)(C:Addr)(fs:List Str):Prop:=∀f∈fs,pQ K C f
end Pg
namespace Pg
open PySem L2 Xc Sp
def top(i:Nat):Stmt:=PySem.Challenge.pw_secretparts_s07_mend.main.body.getD i (.Pass ⟨0,0,0,0⟩)
abbrev cJ:Stmt:=top 1
abbrev oR:Stmt:=top 2
abbrev oU:Stmt:=top 3
abbrev gH:Stmt:=top 5
abbrev mC:Stmt:=top 6
abbrev iz:Stmt:=top 7
abbrev cT:Stmt:=inClass (top 9) 0
abbrev gP:Stmt:=inClass (top 10) 0
abbrev cQ:Stmt:=inClass (top 11) 0
abbrev iB:Stmt:=inClass (top 12) 0
abbrev gC:Stmt:=inClass (top 13) 0
abbrev fu:Stmt:=top 15
abbrev mD:Stmt:=top 19
abbrev dj:Stmt:=top 20
abbrev qQ:Stmt:=top 22
abbrev cB:Stmt:=top 23
abbrev jA:Stmt:=top 24
abbrev fB:Stmt:=top 25
abbrev oV:Stmt:=inClass (top 27) 0
abbrev oW:Stmt:=inClass (top 28) 0
abbrev gQ:Stmt:=inClass (top 28) 1
abbrev iZ:Stmt:=inClass (top 28) 2
abbrev jJ:Stmt:=inClass (top 28) 3
abbrev fM:Stmt:=inClass (top 28) 4
abbrev gO:Stmt:=inClass (top 28) 5
abbrev mR:Stmt:=inClass (top 42) 0
abbrev oX:Stmt:=top 43
abbrev nM:Stmt:=top 44
abbrev sO:Stmt:=top 45
abbrev jK:Stmt:=top 46
abbrev sS:Stmt:=top 47
abbrev jL:Stmt:=inClass (top 49) 0
abbrev gD:Stmt:=inClass (top 49) 1
abbrev eV:Stmt:=inClass (top 49) 2
abbrev vA:Stmt:=top 50
abbrev jM:Stmt:=top 51
abbrev iC:Stmt:=top 52
abbrev iD:Stmt:=top 53
abbrev vB:Stmt:=top 54
abbrev jN:Stmt:=top 55
abbrev fX:Stmt:=top 60
abbrev lu:Stmt:=inClass (top 63) 0
abbrev mU:Stmt:=inClass (top 63) 1
abbrev lA:Stmt:=inClass (top 63) 2
abbrev eX:Stmt:=inClass (top 63) 3
abbrev dX:Stmt:=inClass (top 63) 4
abbrev dG:Stmt:=inClass (top 63) 5
abbrev fY:Stmt:=inClass (top 63) 6
abbrev fZ:Stmt:=inClass (top 63) 7
abbrev mF:Stmt:=top 64
abbrev sU:Stmt:=top 67
abbrev mV:Stmt:=top 68
abbrev lB:Stmt:=top 69
abbrev qp:Stmt:=top 70
abbrev jV:Stmt:=top 73
abbrev bF:Stmt:=top 74
abbrev jo:Stmt:=top 75
theorem aad(k:Int)(wl:Addr):cX "within" (.ref wl) (cX "asked" (.int k) [])=ndF k wl:=by
 unfold ndF;rw[oM,gn (by decide +kernel),oM]
theorem Xo(k w:Str)(p:Int):cX "place" (.int p) (cX "word" (.str w) (cX "kind" (.str k) []))=GX k w p:=by
 unfold GX;rw[oM,gn (by decide +kernel),oM,gn (by decide +kernel),gn (by decide +kernel),oM]
theorem aae(lt:Addr)(i:Int):cX "at" (.int i) (cX "tokens" (.ref lt) [])=JK lt i:=by
 unfold JK;rw[oM,gn (by decide +kernel),oM]
def TY(cs:Cs):Sp:=fun vs H Q _=>∃(p dx wl:Addr)(k:Int),vs=[.ref p,.int k,.ref wl]∧H p=some (.ins cs.jm dx [])∧∀H',H' p=some (.ins cs.jm dx (ndF k wl))→Kp [p] H H'→Q .non H'
def NP(cs:Cs):Sp:=fun vs H Q _=>∃(p dx:Addr)(k w:Str)(i:Int),vs=[.ref p,.str k,.str w,.int i]∧H p=some (.ins cs.tok dx [])∧∀H',H' p=some (.ins cs.tok dx (GX k w i))→Kp [p] H H'→Q .non H'
def Hf(cs:Cs):Sp:=fun vs H Q _=>∃(p dx lt:Addr),vs=[.ref p,.ref lt]∧H p=some (.ins cs.cD dx [])∧∀H',H' p=some (.ins cs.cD dx (JK lt 0))→Kp [p] H H'→Q .non H'
section
variable{P:Program}{w:World}{K:PySem.W.Frag}{mg:Str→Option Value}{base:Heap}{cs:Cs}
theorem Xp:aH ["self","asked","within"] ["self","asked","within"] (au oV):=⟨rfl,rfl,rfl,by decide +kernel,rfl,by decide +kernel,by decide +kernel⟩
theorem Xq(T:zj K mg "Node" cs.jm "Node.__init__" oV)(cl:Cls K cs.jm)(na:cG K cs.jm ["asked","within"]):lq P w K mg base 1 "Node" cs.jm ["self","asked","within"] (TY cs):=by
 obtain⟨f,fd,F,M,hm⟩:=T.ex;refine⟨f,fd,hm,M,F.binds (fun _ _ _ _ _ _ us hl=>match us,hl with | [_,_,_],_=>rfl),okN F Xp (fun vs H Q E h=>?_) (fun cdv A outer s H vs Q E hr h=>?_)⟩
 ·obtain⟨p,dx,wl,k,rfl,_⟩:=h;rfl
 ·obtain⟨p,dx,wl,k,rfl,hp,kq⟩:=h;refine⟨_,aq (fG (pv 0) (pv 1) rfl) (aC (fG (pv 0) (pv 2) rfl)),?_⟩;refine⟨_,rfl,_,rfl,p,cs.jm,dx,[],rfl,hp,cl,na _ (by simp),(by show 0<1000;decide),_,rfl,_,rfl,p,cs.jm,dx,_,rfl,ao,cl,na _ (by simp),(by show 1<1000;decide),?_⟩;exact kq _ (Eq.trans ao (congrArg (fun q=>some (HO.ins cs.jm dx q)) (aad k wl))) (((Kp.refl).upd (.inl (by simp))).upd (.inl (by simp)))
theorem T3:aH ["self","kind","word","place"] ["self","kind","word","place"] (au mR):=⟨rfl,rfl,rfl,by decide +kernel,rfl,by decide +kernel,by decide +kernel⟩
theorem T4(T:zj K mg "Token" cs.tok "Token.__init__" mR)(cl:Cls K cs.tok)(na:cG K cs.tok ["kind","word","place"]):lq P w K mg base 1 "Token" cs.tok ["self","kind","word","place"] (NP cs):=by
 obtain⟨f,fd,F,M,hm⟩:=T.ex;refine⟨f,fd,hm,M,F.binds (fun _ _ _ _ _ _ us hl=>match us,hl with | [_,_,_,_],_=>rfl),okN F T3 (fun vs H Q E h=>?_) (fun cdv A outer s H vs Q E hr h=>?_)⟩
 ·obtain⟨p,dx,k,wd,i,rfl,_⟩:=h;rfl
 ·obtain⟨p,dx,k,wd,i,rfl,hp,kq⟩:=h;refine⟨_,aq (fG (pv 0) (pv 1) rfl) (aq (fG (pv 0) (pv 2) rfl) (aC (fG (pv 0) (pv 3) rfl))),?_⟩;refine⟨_,rfl,_,rfl,p,cs.tok,dx,[],rfl,hp,cl,na _ (by simp),(by show 0<1000;decide),_,rfl,_,rfl,p,cs.tok,dx,_,rfl,ao,cl,na _ (by simp),(by show 1<1000;decide),?_⟩;refine⟨_,rfl,_,rfl,p,cs.tok,dx,_,rfl,ao,cl,na _ (by simp),?_,?_⟩
  ·exact lt_of_le_of_lt (lV _ _ _) (by show 1+1<1000;decide)
  ·exact kq _ (Eq.trans ao (congrArg (fun q=>some (HO.ins cs.tok dx q)) (Xo k wd i))) ((((Kp.refl).upd (.inl (by simp))).upd (.inl (by simp))).upd (.inl (by simp)))
theorem Qt:aH ["self","tokens"] ["self","tokens"] (au lu):=⟨rfl,rfl,rfl,by decide +kernel,rfl,by decide +kernel,by decide +kernel⟩
theorem Qu(T:zj K mg "Reader" cs.cD "Reader.__init__" lu)(cl:Cls K cs.cD)(na:cG K cs.cD ["tokens","at"]):lq P w K mg base 1 "Reader" cs.cD ["self","tokens"] (Hf cs):=by
 obtain⟨f,fd,F,M,hm⟩:=T.ex;refine⟨f,fd,hm,M,F.binds (fun _ _ _ _ _ _ us hl=>match us,hl with | [_,_],_=>rfl),okN F Qt (fun vs H Q E h=>?_) (fun cdv A outer s H vs Q E hr h=>?_)⟩
 ·obtain⟨p,dx,lt,rfl,_⟩:=h;rfl
 ·obtain⟨p,dx,lt,rfl,hp,kq⟩:=h;refine⟨_,aq (fG (pv 0) (pv 1) rfl) (aC (fG (pv 0) aR rfl)),?_⟩;refine⟨_,rfl,_,rfl,p,cs.cD,dx,[],rfl,hp,cl,na _ (by simp),(by show 0<1000;decide),_,rfl,p,cs.cD,dx,_,rfl,ao,cl,na _ (by simp),(by show 1<1000;decide),?_⟩;exact kq _ (Eq.trans ao (congrArg (fun q=>some (HO.ins cs.cD dx q)) (aae lt 0))) (((Kp.refl).upd (.inl (by simp))).upd (.inl (by simp)))
end
theorem rE{f:Str}{v:V}{fs:List (Str×V)}{n:Nat}(h:fs.length≤n):(cX f v fs).length≤n+1:=le_trans (lV f v fs) (Nat.add_le_add_right h 1)
theorem aaf(k:Int)(pa na la ma:Addr):cX "names" (.ref ma) (cX "lets" (.ref la) (cX "nodes" (.ref na) (cX "people" (.ref pa) (cX "prime" (.int k) []))))=RB k pa na la ma:=by
 unfold RB
 repeat (first|rw[oM]|rw[gn (by decide +kernel)])
theorem aag(k:Int)(fl bl pl:Addr):cX "parts" (.ref pl) (cX "boths" (.ref bl) (cX "formulas" (.ref fl) (cX "asked" (.int k) [])))=Cj k fl bl pl:=by
 unfold Cj
 repeat (first|rw[oM]|rw[gn (by decide +kernel)])
def T5(cs:Cs):Sp:=fun vs H Q _=>∃(p dx:Addr)(k:Int),vs=[.ref p,.int k]∧H p=some (.ins cs.boo dx [])∧∀(pa na la ma:Addr)(H':Hp),H' p=some (.ins cs.boo dx (RB k pa na la ma)) →
 H' pa=some (.lst [])→H' na=some (.lst [])→H' la=some (.lst [])→H' ma=some (.dK [])→H pa=none→H na=none→H la=none→H ma=none→[pa,na,la].Nodup→Kp [p] H H'→Q .non H'
def qR(cs:Cs):Sp:=fun vs H Q _=>∃(p dx:Addr)(k:Int),vs=[.ref p,.int k]∧H p=some (.ins cs.dJ dx [])∧∀(fl bl pl:Addr)(H':Hp),H' p=some (.ins cs.dJ dx (Cj k fl bl pl)) →
 H' fl=some (.lst [])→H' bl=some (.lst [])→H' pl=some (.lst [])→H fl=none→H bl=none→H pl=none→[fl,bl,pl].Nodup→Kp [p] H H'→Q .non H'
section
variable{P:Program}{w:World}{K:PySem.W.Frag}{mg:Str→Option Value}{base:Heap}{cs:Cs}
theorem Ks:aH ["self","asked"] ["self","asked"] (au jL):=⟨rfl,rfl,rfl,by decide +kernel,rfl,by decide +kernel,by decide +kernel⟩
theorem Ku(T:zj K mg "Bracket" cs.dJ "Bracket.__init__" jL)(cl:Cls K cs.dJ)(na:cG K cs.dJ ["asked","formulas","boths","parts"]):lq P w K mg base 1 "Bracket" cs.dJ ["self","asked"] (qR cs):=by
 obtain⟨f,fd,F,M,hm⟩:=T.ex;refine⟨f,fd,hm,M,F.binds (fun _ _ _ _ _ _ us hl=>match us,hl with | [_,_],_=>rfl),okN F Ks (fun vs H Q E h=>?_) (fun cdv A outer s H vs Q E hr h=>?_)⟩
 ·obtain⟨p,dx,k,rfl,_⟩:=h;rfl
 ·obtain⟨p,dx,k,rfl,hp,kq⟩:=h;refine⟨_,aq (fG (pv 0) (pv 1) rfl) (aq (fG (pv 0) (gw aA) rfl) (aq (fG (pv 0) (gw aA) rfl) (aC (fG (pv 0) (gw aA) rfl)))),?_⟩;refine⟨_,rfl,_,rfl,p,cs.dJ,dx,[],rfl,hp,cl,na _ (by simp),(by show 0<1000;decide),?_⟩;refine⟨zero_le _,fun fl hfl=>?_⟩;have p1:p≠fl:=fun z=>by rw[←z,ao]at hfl;cases hfl
  refine⟨_,rfl,p,cs.dJ,dx,_,rfl,by rw[aj p1];exact ao,cl,na _ (by simp),lt_of_le_of_lt (rE (le_refl _)) (by decide),?_⟩;refine⟨zero_le _,fun bl vg=>?_⟩;have p2:p≠bl:=fun z=>by rw[←z,ao]at vg;cases vg
  refine⟨_,rfl,p,cs.dJ,dx,_,rfl,by rw[aj p2];exact ao,cl,na _ (by simp),lt_of_le_of_lt (rE (rE (le_refl _))) (by decide),?_⟩;refine⟨zero_le _,fun pl hpl=>?_⟩;have p3:p≠pl:=fun z=>by rw[←z,ao]at hpl;cases hpl
  refine⟨_,rfl,p,cs.dJ,dx,_,rfl,by rw[aj p3];exact ao,cl,na _ (by simp),lt_of_le_of_lt (rE (rE (rE (le_refl _)))) (by decide),?_⟩;have q1:H fl=none:=by rw[aj p1.symm]at hfl;exact hfl
  have b1:bl≠fl:=fun z=>by rw[aj p2.symm,z,ao]at vg;cases vg
  have q2:H bl=none:=by rw[aj p2.symm,aj b1,aj p2.symm]at vg;exact vg
  have c1:pl≠bl:=fun z=>by rw[aj p3.symm,z,ao]at hpl;cases hpl
  have c2:pl≠fl:=fun z=>by rw[aj p3.symm,aj c1,aj p3.symm,z,ao]at hpl;cases hpl
  have q3:H pl=none:=by rw[aj p3.symm,aj c1,aj p3.symm,aj c2,aj p3.symm]at hpl;exact hpl
  refine kq fl bl pl _ (Eq.trans ao (congrArg (fun q=>some (HO.ins cs.dJ dx q)) (aag k fl bl pl))) ?_ ?_ ?_ q1 q2 q3 (by simp[b1.symm,c1.symm,c2.symm]) ?_
  ·rw[aj p1.symm,aj c2.symm,aj p1.symm,aj b1.symm,aj p1.symm,ao]
  ·rw[aj p2.symm,aj c1.symm,aj p2.symm,ao]
  ·rw[aj p3.symm,ao]
  ·exact((((((Kp.refl.upd (.inl (by simp))).upd (.inr q1)).upd (.inl (by simp))).upd (.inr q2)).upd (.inl (by simp))).upd (.inr q3)).upd (.inl (by simp))
theorem Xr:aH ["self","prime"] ["self","prime"] (au oW):=⟨rfl,rfl,rfl,by decide +kernel,rfl,by decide +kernel,by decide +kernel⟩
theorem Xu(T:zj K mg "Book" cs.boo "Book.__init__" oW)(cl:Cls K cs.boo)(na:cG K cs.boo ["prime","people","nodes","lets","names"]):lq P w K mg base 1 "Book" cs.boo ["self","prime"] (T5 cs):=by
 obtain⟨f,fd,F,M,hm⟩:=T.ex;refine⟨f,fd,hm,M,F.binds (fun _ _ _ _ _ _ us hl=>match us,hl with | [_,_],_=>rfl),okN F Xr (fun vs H Q E h=>?_) (fun cdv A outer s H vs Q E hr h=>?_)⟩
 ·obtain⟨p,dx,k,rfl,_⟩:=h;rfl
 ·obtain⟨p,dx,k,rfl,hp,kq⟩:=h;refine⟨_,aq (fG (pv 0) (pv 1) rfl) (aq (fG (pv 0) (gw aA) rfl) (aq (fG (pv 0) (gw aA) rfl) (aq (fG (pv 0) (gw aA) rfl) (aC (fG (pv 0) Tg rfl))))),?_⟩;refine⟨_,rfl,_,rfl,p,cs.boo,dx,[],rfl,hp,cl,na _ (by simp),(by show 0<1000;decide),?_⟩;refine⟨zero_le _,fun fl hfl=>?_⟩;have p1:p≠fl:=fun z=>by rw[←z,ao]at hfl;cases hfl
  refine⟨_,rfl,p,cs.boo,dx,_,rfl,by rw[aj p1];exact ao,cl,na _ (by simp),lt_of_le_of_lt (rE (le_refl _)) (by decide),?_⟩;refine⟨zero_le _,fun bl vg=>?_⟩;have p2:p≠bl:=fun z=>by rw[←z,ao]at vg;cases vg
  refine⟨_,rfl,p,cs.boo,dx,_,rfl,by rw[aj p2];exact ao,cl,na _ (by simp),lt_of_le_of_lt (rE (rE (le_refl _))) (by decide),?_⟩;refine⟨zero_le _,fun pl hpl=>?_⟩;have p3:p≠pl:=fun z=>by rw[←z,ao]at hpl;cases hpl
  refine⟨_,rfl,p,cs.boo,dx,_,rfl,by rw[aj p3];exact ao,cl,na _ (by simp),lt_of_le_of_lt (rE (rE (rE (le_refl _)))) (by decide),?_⟩;intro ma hma;have p4:p≠ma:=fun z=>by rw[←z,ao]at hma;cases hma
  refine⟨_,rfl,p,cs.boo,dx,_,rfl,by rw[aj p4];exact ao,cl,na _ (by simp),lt_of_le_of_lt (rE (rE (rE (rE (le_refl _))))) (by decide),?_⟩;have q1:H fl=none:=by rw[aj p1.symm]at hfl;exact hfl
  have b1:bl≠fl:=fun z=>by rw[aj p2.symm,z,ao]at vg;cases vg
  have q2:H bl=none:=by rw[aj p2.symm,aj b1,aj p2.symm]at vg;exact vg
  have c1:pl≠bl:=fun z=>by rw[aj p3.symm,z,ao]at hpl;cases hpl
  have c2:pl≠fl:=fun z=>by rw[aj p3.symm,aj c1,aj p3.symm,z,ao]at hpl;cases hpl
  have q3:H pl=none:=by rw[aj p3.symm,aj c1,aj p3.symm,aj c2,aj p3.symm]at hpl;exact hpl
  have d1:ma≠pl:=fun z=>by rw[aj p4.symm,z,ao]at hma;cases hma
  have d2:ma≠bl:=fun z=>by rw[aj p4.symm,aj d1,aj p4.symm,z,ao]at hma;cases hma
  have d3:ma≠fl:=fun z=>by rw[aj p4.symm,aj d1,aj p4.symm,aj d2,aj p4.symm,z,ao]at hma;cases hma
  have q4:H ma=none:=by rw[aj p4.symm,aj d1,aj p4.symm,aj d2,aj p4.symm,aj d3,aj p4.symm]at hma;exact hma
  refine kq fl bl pl ma _ (Eq.trans ao (congrArg (fun q=>some (HO.ins cs.boo dx q)) (aaf k fl bl pl ma))) ?_ ?_ ?_ ?_ q1 q2 q3 q4 (by simp[b1.symm,c1.symm,c2.symm]) ?_
  ·rw[aj p1.symm,aj d3.symm,aj p1.symm,aj c2.symm,aj p1.symm,aj b1.symm,aj p1.symm,ao]
  ·rw[aj p2.symm,aj d2.symm,aj p2.symm,aj c1.symm,aj p2.symm,ao]
  ·rw[aj p3.symm,aj d1.symm,aj p3.symm,ao]
  ·rw[aj p4.symm,ao]
  ·exact((((((((Kp.refl.upd (.inl (by simp))).upd (.inr q1)).upd (.inl (by simp))).upd (.inr q2)).upd (.inl (by simp))).upd (.inr q3)).upd (.inl (by simp))).upd (.inr q4)).upd (.inl (by simp))
end
structure d8 where
 pa:Addr
 na:Addr
 la:Addr
 ma:Addr
 oA:List (Addr×Addr)
def d8.lists(A:d8):List Addr:=A.pa::A.na::A.la::A.oA.map (·.2)
def nV(l:List Nat):List V:=l.map fun (i:Nat)=>V.int (i:Int)
theorem aK(l:List Nat):(nV l).length=l.length:=length_map _
theorem iG(l:List Nat)(i:Nat):nV (l++[i])=nV l++[V.int (i:Int)]:=by unfold nV;rw[map_append];rfl
def aah(cs:Cs)(H:Hp)(x:Addr×Addr)(n:aG):Prop:=(∃dx,H x.1=some (.ins cs.jm dx (ndF (n.1:Int) x.2)))∧H x.2=some (.lst (nV n.2))
structure aV(cs:Cs)(H:Hp)(b:Addr)(A:d8)(p:Nat)(B:Bk):Prop where
 ob:∃dx,H b=some (.ins cs.boo dx (RB (p:Int) A.pa A.na A.la A.ma))
 people:H A.pa=some (.lst (B.people.map fun x=>V.str (bT x)))
 nodes:H A.na=some (.lst (A.oA.map fun x=>V.ref x.1))
 lets:H A.la=some (.lst (nV (B.ls.map (·.2))))
 names:H A.ma=some (.dK (B.names.map fun x=>(Sum.inr (bT x.1),V.int (x.2:Int))))
 len:A.oA.length=B.ns.length
 at_:∀(j:Nat)(x:Addr×Addr)(n:aG),A.oA[j]?=some x→B.ns[j]?=some n→aah cs H x n
 nd:A.lists.Nodup
theorem dY{H:Hp}{a b:Addr}{C dx:Addr}{fs:List (Str×V)}{xs:List V}(h:H a=some (.ins C dx fs))(h':H b=some (.lst xs)):a≠b:=iW h h' (by intro z;cases z)
theorem Hg{H:Hp}{a b:Addr}{kvs:List (Key×V)}{xs:List V}(h:H a=some (.dK kvs))(h':H b=some (.lst xs)):a≠b:=iW h h' (by intro z;cases z)
theorem aV.Hh{cs:Cs}{H H':Hp}{b:Addr}{A:d8}{p:Nat}{B:Bk}(R:aV cs H b A p B){F:List Addr}(k:Kp F H H')(hF:∀x∈F,x∉A.lists∧∀C dx fs,H x=some (.ins C dx fs)→C≠cs.boo∧C≠cs.jm)(hD:∀x∈F,∀kvs,H x≠some (.dK kvs)):aV cs H' b A p B:=by
 have lst:∀x xs,x∈A.lists→H x=some (.lst xs)→H' x=some (.lst xs):=fun x xs hx e=>k x _ e fun z=>(hF x z).1 hx;obtain⟨dx,ob⟩:=R.ob;refine⟨⟨dx,k b _ ob fun z=>((hF b z).2 _ _ _ ob).1 rfl⟩,lst _ _ (by simp[d8.lists]) R.people,lst _ _ (by simp[d8.lists]) R.nodes,lst _ _ (by simp[d8.lists]) R.lets,k _ _ R.names fun z=>hD _ z _ R.names,R.len,fun j x n h1 h2=>?_,R.nd⟩;obtain⟨⟨dy,n1⟩,n2⟩:=R.at_ j x n h1 h2;exact⟨⟨dy,k _ _ n1 fun z=>((hF _ z).2 _ _ _ n1).2 rfl⟩,lst _ _ (by
  have:x.2∈A.oA.map (·.2):=mem_map.mpr ⟨x,mem_of_getElem? h1,rfl⟩;simp[d8.lists,this]) n2⟩
def vC(cs:Cs):Sp:=fun vs H Q _=>∃(b wl:Addr)(k:Nat)(A:d8)(p:Nat)(B:Bk)(ws:List Nat),vs=[.ref b,.int k,.ref wl]∧aV cs H b A p B∧H wl=some (.lst (nV ws))∧wl∉A.lists∧B.ns.length<100000 ∧
 ∀(nx:Addr)(H':Hp),aV cs H' b { A with oA:=A.oA++[(nx,wl)] } p { B with ns:=B.ns++[(k,ws)] }→Kp [A.na] H H'→H nx=none→Q (.int ((B.P+B.ns.length:Nat):Int)) H'
section
variable{P:Program}{w:World}{K:PySem.W.Frag}{mg:Str→Option Value}{base:Heap}{cs:Cs}
theorem bM:100000<sizeLine:=by decide
theorem Hi:aH ["self","asked","within"] ["self","asked","within"] (au iZ):=⟨rfl,rfl,rfl,by decide +kernel,rfl,by decide +kernel,by decide +kernel⟩
theorem Hj(T:gB K cs.boo "add_node" "Book.add_node" iZ)(gR:Cls K cs.boo)(naB:cG K cs.boo ["prime","people","nodes","lets","names"])(hlen:mg "len"=none)(N1:lq P w K mg base 1 "Node" cs.jm ["self","asked","within"] (TY cs)) :
  bw P w K mg base 3 cs.boo "add_node" ["self","asked","within"] (vC cs):=by
 obtain⟨f,fd,F,M⟩:=T.ex;refine⟨f,fd,M,F.binds (fun _ _ _ _ _ _ us hl=>match us,hl with | [_,_,_],_=>rfl),okN F Hi (fun vs H Q E h=>?_) (fun cdv A outer s H vs Q E hr h=>?_)⟩
 ·obtain⟨b,wl,k,A,p,B,ws,rfl,_⟩:=h;rfl
 ·obtain⟨b,wl,k,Ad,p,B,ws,rfl,R,hwl,nwl,hsm,kq⟩:=h;obtain⟨dx,ob⟩:=R.ob;refine⟨_,aq (aN (kY plainAttrs_list PySem.F.slot_list_append PySem.F.type_list_append cZ (aM (pv 0) rfl) (ak (sJ N1 hr rfl aF (ak (pv 1) (ak (pv 2) aA))) aA)))
   (aC (aZ (fj rW (fj JV (aQ aO (by rfl) hlen PySem.boot_len (ak (aM (pv 0) rfl) aA)) (aQ aO (by rfl) hlen PySem.boot_len (ak (aM (pv 0) rfl) aA))) aR))),?_⟩
  refine⟨_,rfl,b,cs.boo,dx,_,_,rfl,ob,gR,naB _ (by simp),nJ _ _ _ _ _,.inl ⟨rfl,_,bJ.of R.nodes⟩,_,rfl,_,rfl,?_⟩;intro x RG nx ndx nex;refine⟨x,RG,wl,k,rfl,ao,fun H1 h1 k1=>⟨rfl,?_⟩⟩;have s1:Same H H1:=Same.made nx ndx fun c o e hc=>k1 c o e (by simpa using hc);have nl1:=s1 _ _ R.nodes;have hll:(Ad.oA.map fun x=>V.ref x.1).length<sizeLine:=by rw[length_map,R.len];exact lt_trans hsm bM
  refine⟨Ad.na,_,_,rfl,rfl,nl1,hll,?_⟩;have NQ:(upd H1 Ad.na (.lst ((Ad.oA.map fun x=>V.ref x.1)++[V.ref x]))) b=some (.ins cs.boo dx (RB (p:Int) Ad.pa Ad.na Ad.la Ad.ma)):=by rw[aj (dY ob R.nodes)];exact s1 _ _ ob
  have npn:Ad.pa≠Ad.na:=fun z=>by have:=R.nd;unfold d8.lists at this;rw[z]at this;simp at this
  refine⟨_,rfl,b,cs.boo,dx,_,_,rfl,NQ,gR,naB _ (by simp),fW _ _ _ _ _,_,_,rfl,.inl (bJ.of (by rw[aj npn];exact s1 _ _ R.people)),?_⟩;refine⟨_,rfl,b,cs.boo,dx,_,_,rfl,NQ,gR,naB _ (by simp),nJ _ _ _ _ _,_,_,rfl,.inl (bJ.of ao),_,_,rfl,rfl,_,_,rfl,rfl,?_⟩;have ek:Kp [Ad.na] H (upd H1 Ad.na (.lst ((Ad.oA.map fun x=>V.ref x.1)++[V.ref x]))):=(Kp.same s1 _).upd (.inl (by simp));have ev:(V.int (((B.people.map fun x=>V.str (bT x)).length:Int)+(((Ad.oA.map fun x=>V.ref x.1)++[V.ref x]).length:Int)-1))=V.int ((B.P+B.ns.length:Nat):Int):=by
   rw[length_map,length_append,length_map,R.len,length_singleton];show V.int ((B.people.length:Int)+((B.ns.length+1:Nat):Int)-1)=V.int ((B.people.length+B.ns.length:Nat):Int);congr 1;omega
  show Q (V.int (((B.people.map fun x=>V.str (bT x)).length:Int)+(((Ad.oA.map fun x=>V.ref x.1)++[V.ref x]).length:Int)-1)) _;rw[ev];refine kq x _ ?_ ek nx;have nnd:=R.nd;have hnl:∀y∈Ad.lists,y≠wl:=fun y hy z=>nwl (z▸hy);have acD:∀y∈Ad.oA.map (·.2),y≠Ad.na:=fun y hy z=>by
   have:=R.nd;unfold d8.lists at this;rw[z]at hy;simp only[nodup_cons]at this;exact this.2.1 (mem_cons_of_mem _ hy)
  have ae5:wl≠Ad.na:=fun z=>nwl (by rw[z];simp[d8.lists]);refine⟨⟨dx,NQ⟩,by show upd _ _ _ Ad.pa=_;rw[aj npn];exact s1 _ _ R.people,?_,?_,?_,?_,fun j y n e1 e2=>?_,?_⟩
  ·show upd _ _ _ Ad.na=_;rw[ao,map_append];rfl
  ·show upd _ _ _ Ad.la=_;have:Ad.la≠Ad.na:=fun z=>by have:=R.nd;unfold d8.lists at this;rw[z]at this;simp at this
   rw[aj this];exact s1 _ _ R.lets
  ·show upd _ _ _ Ad.ma=_;rw[aj (Hg R.names R.nodes)];exact s1 _ _ R.names
  ·show (Ad.oA++[(x,wl)]).length=(B.ns++[(k,ws)]).length;rw[length_append,length_append,R.len];rfl
  ·by_cases hj:j<Ad.oA.length
   ·rw[getElem?_append_left hj]at e1;rw[getElem?_append_left (by rw[←R.len];exact hj)]at e2;obtain⟨⟨dy,n1⟩,n2⟩:=R.at_ j y n e1 e2;exact⟨⟨dy,by rw[aj (dY n1 R.nodes)];exact s1 _ _ n1⟩,by rw[aj (acD _ (mem_map.mpr ⟨y,mem_of_getElem? e1,rfl⟩))];exact s1 _ _ n2⟩
   ·rw[getElem?_append_right (by omega)]at e1;rw[getElem?_append_right (by rw[←R.len];omega)]at e2;have h0:j-Ad.oA.length=0:=by
     cases q:j-Ad.oA.length with
     |zero=>rfl
     |succ i=>rw[q]at e1;simp at e1
    have h0':j-B.ns.length=0:=by rw[←R.len];exact h0
    rw[h0]at e1;rw[h0']at e2;simp at e1 e2;subst e1 e2;exact⟨⟨RG,by rw[aj (dY h1 nl1)];exact h1⟩,by rw[aj ae5];exact s1 _ _ hwl⟩
  ·show (Ad.pa::Ad.na::Ad.la::(Ad.oA++[(x,wl)]).map (·.2)).Nodup;have e:(Ad.pa::Ad.na::Ad.la::(Ad.oA++[(x,wl)]).map (·.2))=Ad.lists++[wl]:=by unfold d8.lists;rw[map_append];rfl
   rw[e];exact Nu R.nd nwl
end
def lU(H:Hp)(A A':d8)(ws:List Addr):Prop:=∃more:List (Addr×Addr),A'={ A with oA:=A.oA++more }∧more.map (·.2)=ws∧∀x∈more,H x.1=none
theorem lU.none(H:Hp)(A:d8):lU H A A []:=⟨[],by simp,rfl,fun x hx=>by simp at hx⟩
theorem lU.one{H:Hp}{A:d8}{nx wl:Addr}(h:H nx=Option.none):lU H A { A with oA:=A.oA++[(nx,wl)] } [wl]:=⟨[(nx,wl)],rfl,rfl,fun x hx=>by simp at hx;subst hx;exact h⟩
theorem lU.lists{H:Hp}{A A':d8}{ws:List Addr}(g:lU H A A' ws):A'.lists=A.lists++ws:=by
 obtain⟨more,rfl,rfl,_⟩:=g;show A.pa::A.na::A.la::(A.oA++more).map (·.2)=(A.pa::A.na::A.la::A.oA.map (·.2))++more.map (·.2);rw[map_append];rfl
theorem lU.na{H:Hp}{A A':d8}{ws:List Addr}(g:lU H A A' ws):A'.na=A.na∧A'.ma=A.ma∧A'.la=A.la∧A'.pa=A.pa:=by
 obtain⟨more,rfl,_,_⟩:=g;exact⟨rfl,rfl,rfl,rfl⟩
theorem lU.trans{H H1:Hp}{A A1 A2:d8}{ws vs:List Addr}(a:lU H A A1 ws)(b:lU H1 A1 A2 vs)(h:∀x,H1 x=Option.none→H x=Option.none):lU H A A2 (ws++vs):=by
 obtain⟨m,rfl,rfl,h1⟩:=a;obtain⟨m2,rfl,rfl,h2⟩:=b;refine⟨m++m2,by simp,by rw[map_append],fun x hx=>?_⟩;rcases mem_append.mp hx with z|z
 ·exact h1 x z
 ·exact h _ (h2 x z)
theorem Kp.free{F:List Addr}{H H':Hp}(k:Kp F H H')(hF:∀x∈F,H' x≠Option.none){x:Addr}(h:H' x=Option.none):H x=Option.none:=by
 cases q:H x with
 |none=>rfl
 |some o=>
  by_cases hx:x∈F
  ·exact absurd h (hF x hx)
  ·rw[k x o q hx]at h;cases h
structure fD where
 ob:Addr
 fl:Addr
 bl:Addr
 pl:Addr
def fD.lists(a:fD):List Addr:=[a.fl,a.bl,a.pl]
structure jB(cs:Cs)(H:Hp)(a:fD)(F:aD):Prop where
 ob:∃dx,H a.ob=some (.ins cs.dJ dx (Cj (F.asked:Int) a.fl a.bl a.pl))
 fs:H a.fl=some (.lst (nV F.fs))
 bs:H a.bl=some (.lst (nV F.bs))
 ps:H a.pl=some (.lst (nV F.ps))
structure ux(cs:Cs):Prop where
 nb:cs.jm≠cs.boo
 bn:cs.dJ≠cs.jm
 bb:cs.dJ≠cs.boo
 rn:cs.cD≠cs.jm
 rb:cs.cD≠cs.boo
 rr:cs.cD≠cs.dJ
def zm(cs:Cs):Sp:=fun vs H Q _=>∃(b wl:Addr)(k:Nat)(A:d8)(p:Nat)(B:Bk)(ws:List Nat),vs=[.ref b,.int k,.ref wl]∧aV cs H b A p B∧H wl=some (.lst (nV ws))∧wl∉A.lists∧B.ns.length<100000 ∧
 ∀(A':d8)(vs':List Addr)(H':Hp),aV cs H' b A' p { B with ns:=dM B.ns k ws }→lU H A A' vs'→(∀x∈vs',x=wl)→vs'.length≤1→Kp [A.na] H H'→Q (.int ((fU B.P B.ns ws:Nat):Int)) H'
section
variable{P:Program}{w:World}{K:PySem.W.Frag}{mg:Str→Option Value}{base:Heap}{cs:Cs}
theorem Qv:aH ["book","asked","within"] ["book","asked","within"] (au vA):=⟨rfl,rfl,rfl,by decide +kernel,rfl,by decide +kernel,by decide +kernel⟩
theorem Qw(T:bL K mg "joined" vA)(gR:Cls K cs.boo)(hlen:mg "len"=none)(AN:bw P w K mg base 3 cs.boo "add_node" ["self","asked","within"] (vC cs)) :
  aX P w K mg base 4 "joined" ["book","asked","within"] (zm cs):=by
 obtain⟨f,fd,F,hm⟩:=T.ex;refine⟨f,fd,hm,F.kp,F.binds (fun _ _ _ _ _ _ us hl=>match us,hl with | [_,_,_],_=>rfl),okN F Qv (fun vs H Q E h=>?_) (fun cdv A outer s H vs Q E hr h=>?_)⟩
 ·obtain⟨b,wl,k,A,p,B,ws,rfl,_⟩:=h;rfl
 ·obtain⟨b,wl,k,Ad,p,B,ws,rfl,R,hwl,nwl,hsm,kq⟩:=h;obtain⟨dx,ob⟩:=R.ob;refine⟨_,aq (dW (aU gY (aQ aO (by rfl) hlen PySem.boot_len (ak (pv 2) aA)) aR (bf _)) (aC (aZ (fK dR (pv 2) aR (fun _ _=>rfl)))) bW)
   (aC (aZ (bK (pv 0) gR AN hr aF (ak (pv 1) (ak (pv 2) aA))))),?_⟩
  refine⟨_,rfl,_,_,rfl,.inl (bJ.of hwl),rfl,_,rfl,bY (fun hc=>?_) fun hc=>?_⟩
  ·have h1:ws.length=1:=by
    have:=of_decide_eq_true hc;injection this with this
    rw[aK]at this;omega
   match ws,h1,hwl,kq with
   | [i],_,hwl,kq=>
    refine⟨_,rfl,wl,_,_,V.int (i:Int),rfl,rfl,bJ.of hwl,at_of (j:=0) rfl rfl,?_⟩;exact kq Ad [] H (by
     have e:dM B.ns k [i]=B.ns:=if_pos rfl;rw[e];exact R) (lU.none H Ad) (fun x hx=>by simp at hx) (by simp) Kp.refl
  ·have h1:¬ws.length=1:=fun z=>hc (decide_eq_true (by rw[aK,z];rfl));refine⟨_,rfl,b,dx,_,rfl,ob,oO _ _ _ _ _ (by decide +kernel) (by decide +kernel) (by decide +kernel) (by decide +kernel) (by decide +kernel),_,rfl,_,rfl,b,wl,k,Ad,p,B,ws,rfl,R,hwl,nwl,hsm,fun nx H' R' k' hn=>?_⟩;have e1:dM B.ns k ws=B.ns++[(k,ws)]:=if_neg h1;have e2:fU B.P B.ns ws=B.P+B.ns.length:=if_neg h1;show Q _ H';rw[←e2];exact kq _ [wl] H' (by rw[e1];exact R') (lU.one hn) (fun x hx=>by simpa using hx) (by simp) k'
end
theorem aV.zp{cs:Cs}{H:Hp}{b:Addr}{A:d8}{p:Nat}{B:Bk}(R:aV cs H b A p B){x:Addr}(h:x∈A.lists):∃xs,H x=some (.lst xs):=by
 unfold d8.lists at h;rcases mem_cons.mp h with rfl|h
 ·exact⟨_,R.people⟩
 rcases mem_cons.mp h with rfl|h
 ·exact⟨_,R.nodes⟩
 rcases mem_cons.mp h with rfl|h
 ·exact⟨_,R.lets⟩
 obtain⟨y,hy,rfl⟩:=mem_map.mp h;obtain⟨j,hj⟩:=List.getElem?_of_mem hy;have hl:j<B.ns.length:=by rw[←R.len];exact(List.getElem?_eq_some_iff.mp hj).1
 exact⟨_,(R.at_ j y B.ns[j] hj (getElem?_eq_getElem hl)).2⟩
theorem aV.keep{cs:Cs}{H H':Hp}{b:Addr}{A:d8}{p:Nat}{B:Bk}(R:aV cs H b A p B){F:List Addr}(k:Kp F H H')(hF:∀x∈F,(∃xs,H x=some (.lst xs)∧x∉A.lists)∨∃C dx fs,H x=some (.ins C dx fs)∧C≠cs.boo∧C≠cs.jm):aV cs H' b A p B:=by
 refine R.Hh k (fun x hx=>?_) (fun x hx kvs e=>?_)
 ·rcases hF x hx with⟨xs,e,n⟩|⟨C,dx,fs,e,n1,n2⟩
  ·exact⟨n,fun C dx fs z=>by rw[e]at z;cases z⟩
  ·refine⟨fun z=>?_,fun C' dx' fs' z=>?_⟩
   ·obtain⟨xs,q⟩:=R.zp z;rw[e]at q;cases q
   ·rw[e]at z;cases z;exact⟨n1,n2⟩
 ·rcases hF x hx with⟨xs,q,n⟩|⟨C,dx,fs,q,n1,n2⟩<;>(rw[q]at e;cases e)
structure Pair(cs:Cs)(H:Hp)(a:fD)(F:aD)(b:Addr)(A:d8)(p:Nat)(B:Bk):Prop where
 br:jB cs H a F
 bk:aV cs H b A p B
 nd:a.lists.Nodup
 ap:∀x∈a.lists,x∉A.lists
 few:F.all.length<50000
 acE:B.ns.length<50000
def vD(cs:Cs):Sp:=fun vs H Q _=>∃(a:fD)(F:aD)(b:Addr)(A:d8)(p:Nat)(B:Bk),vs=[.ref a.ob,.ref b]∧Pair cs H a F b A p B ∧
 ∀(A':d8)(vs':List Addr)(Kv:Addr)(H':Hp),jB cs H' { a with pl:=Kv } (dN B.P B.ns F)→aV cs H' b A' p { B with ns:=gW B.ns F }→lU H A A' vs'→(∀x∈vs',x=a.pl)→vs'.length≤1→H Kv=none→Kp [A.na,a.bl,a.ob] H H'→Q .non H'
section
variable{P:Program}{w:World}{K:PySem.W.Frag}{mg:Str→Option Value}{base:Heap}{cs:Cs}
theorem Hl:aH ["self","book"] ["self","book"] (au gD):=⟨rfl,rfl,rfl,by decide +kernel,rfl,by decide +kernel,by decide +kernel⟩
theorem Ho(co:ux cs)(T:gB K cs.dJ "end_both" "Bracket.end_both" gD)(cl:Cls K cs.dJ)(na:cG K cs.dJ ["asked","formulas","boths","parts"])(hlen:mg "len"=none)(J:aX P w K mg base 4 "joined" ["book","asked","within"] (zm cs)):bw P w K mg base 5 cs.dJ "end_both" ["self","book"] (vD cs):=by
 obtain⟨f,fd,F,M⟩:=T.ex;refine⟨f,fd,M,F.binds (fun _ _ _ _ _ _ us hl=>match us,hl with | [_,_],_=>rfl),okN F Hl (fun vs H Q E h=>?_) (fun cdv A outer s H vs Q E hr h=>?_)⟩
 ·obtain⟨a,F,b,A,p,B,rfl,_⟩:=h;rfl
 ·obtain⟨a,Fr,b,Ad,p,B,rfl,R,kq⟩:=h;obtain⟨dx,ob⟩:=R.br.ob;have Kw:a.bl∉Ad.lists:=R.ap _ (by simp[fD.lists]);have Hq:a.pl∉Ad.lists:=R.ap _ (by simp[fD.lists]);have NT:a.fl∉Ad.lists:=R.ap _ (by simp[fD.lists]);have acF:a.bl≠Ad.na:=fun z=>Kw (by rw[z];simp[d8.lists]);have hnd:=R.nd;unfold fD.lists at hnd;simp only[nodup_cons,mem_cons,mem_singleton,not_mem_nil,not_or]at hnd;obtain⟨⟨nfb,nfp,_⟩,⟨YM,_⟩,_⟩:=hnd;refine⟨_,aq (aN (kY plainAttrs_list PySem.F.slot_list_append PySem.F.type_list_append cZ (aM (pv 0) rfl)
    (ak (bN J hr rfl aF (ak (pv 1) (ak (aQ aO (by rfl) hlen PySem.boot_len (ak (aM (pv 0) rfl) aA)) (ak (aM (pv 0) rfl) aA)))) aA)))
   (aC (fG (pv 0) (gw aA) rfl)),?_⟩
  refine⟨_,rfl,a.ob,cs.dJ,dx,_,_,rfl,ob,cl,na _ (by simp),Ck _ _ _ _,.inl ⟨rfl,_,bJ.of R.br.bs⟩,_,rfl,?_⟩;refine⟨_,rfl,a.ob,cs.dJ,dx,_,_,rfl,ob,cl,na _ (by simp),qP _ _ _ _,_,_,rfl,.inl (bJ.of R.br.ps),?_⟩;refine⟨_,rfl,a.ob,cs.dJ,dx,_,_,rfl,ob,cl,na _ (by simp),qP _ _ _ _,b,a.pl,(nV Fr.ps).length,Ad,p,B,Fr.ps,rfl,R.bk,R.br.ps,Hq,lt_trans R.acE (by decide),fun A' vs' H1 R1 g hv hv1 k1=>?_⟩;have bl1:H1 a.bl=some (.lst (nV Fr.bs)):=k1 _ _ R.br.bs (by simpa using acF);have xH:H1 a.fl=some (.lst (nV Fr.fs)):=k1 _ _ R.br.fs (by simpa using fun z:a.fl=Ad.na=>NT (by rw[z];simp[d8.lists]));have wO:H1 a.ob=some (.ins cs.dJ dx (Cj (Fr.asked:Int) a.fl a.bl a.pl)):=k1 _ _ ob (by simpa using dY ob R.bk.nodes);refine⟨a.bl,_,_,rfl,rfl,bl1,?_,?_⟩
  ·rw[aK];have:=R.few;unfold aD.all at this;rw[length_append,length_append]at this;exact lt_trans (by omega) bM
  refine⟨zero_le _,fun Kv hpl'=>?_⟩;have o1:a.ob≠a.bl:=dY wO bl1;have o2:a.ob≠Kv:=fun z=>by rw[←z,aj o1,wO]at hpl';cases hpl'
  have b2:Kv≠a.bl:=fun z=>by rw[z,ao]at hpl';cases hpl'
  have pn1:H1 Kv=none:=by rw[aj b2]at hpl';exact hpl'
  have f2:a.fl≠Kv:=aB xH pn1;refine⟨_,rfl,a.ob,cs.dJ,dx,_,rfl,by rw[aj o2,aj o1];exact wO,cl,na _ (by simp),(by show 4<1000;decide),?_⟩;have kk:Kp [a.bl,a.ob] H1 (upd (upd (upd H1 a.bl (.lst (nV Fr.bs++[V.int ((fU B.P B.ns Fr.ps:Nat):Int)]))) Kv (.lst [])) a.ob (.ins cs.dJ dx (cX "parts" (.ref Kv) (Cj (Fr.asked:Int) a.fl a.bl a.pl)))):=
   ((Kp.refl.upd (.inl (by simp))).upd (.inr pn1)).upd (.inl (by simp))
  have en:dM B.ns (nV Fr.ps).length Fr.ps=gW B.ns Fr:=by rw[aK];rfl
  rw[en]at R1;refine kq A' vs' Kv _ ⟨⟨dx,Eq.trans ao (congrArg (fun q=>some (HO.ins cs.dJ dx q)) (DR _ _ _ _ _))⟩,?_,?_,?_⟩ (R1.keep kk fun x hx=>?_) g hv hv1 ?_ ?_
  ·show upd _ _ _ a.fl=_;rw[aj (dY wO xH).symm,aj f2,aj nfb];exact xH
  ·show upd _ _ _ a.bl=_;rw[aj o1.symm,aj b2.symm,ao];show some (HO.lst (nV Fr.bs++[_]))=some (HO.lst (nV (Fr.bs++[fU B.P B.ns Fr.ps])));rw[iG]
  ·show upd _ _ _ Kv=_;rw[aj o2.symm,ao];rfl
  ·rcases mem_cons.mp hx with rfl|hx
   ·refine .inl ⟨_,bl1,fun z=>?_⟩;rw[g.lists]at z;rcases mem_append.mp z with z|z
    ·exact Kw z
    ·exact YM (hv _ z)
   ·rcases mem_singleton.mp hx with rfl
    exact .inr ⟨_,_,_,wO,co.bb,co.bn⟩
  ·exact k1.free (fun x hx=>by
    rcases mem_singleton.mp hx with rfl
    rw[show H1 Ad.na=some _ from by have:=R1.nodes;rw[g.na.1]at this;exact this];simp) pn1
  ·exact(k1.mono fun x hx=>by simp at hx;simp[hx]).trans (kk.mono fun x hx=>by simp at hx;rcases hx with rfl|rfl<;>simp)
end
theorem aai{x y:Addr}(hxy:x≠y):∀{vs ws:List Addr},(∀a∈vs,a=x)→vs.length≤1→(∀a∈ws,a=y)→ws.length≤1→(vs++ws).Nodup
 | [],[],_,_,_,_=>by simp
 | [],[b],_,_,_,_=>by simp
 | [a],[],_,_,_,_=>by simp
 | [a],[b],h1,_,h2,_=>by
  have e1:=h1 a (by simp);have e2:=h2 b (by simp);subst e1 e2;simp[hxy]
 |_::_::_,_,_,h,_,_=>by simp at h
 | [],_::_::_,_,_,_,h=>by simp at h
 | [_],_::_::_,_,_,_,h=>by simp at h
theorem zq(ns:List aG)(F:aD):(gW ns F).length≤ns.length+1:=by
 unfold gW dM;split
 ·omega
 ·simp
theorem T6(P:Nat)(ns:List aG)(F:aD):(cC P ns F).length≤ns.length+2:=by
 have:=zq ns F;unfold cC dM;split
 ·omega
 ·simp;omega
def jW(cs:Cs):Sp:=fun vs H Q _=>∃(a:fD)(F:aD)(b:Addr)(A:d8)(p:Nat)(B:Bk),vs=[.ref a.ob,.ref b]∧Pair cs H a F b A p B ∧
 ∀(A':d8)(vs':List Addr)(xJ Kv:Addr)(H':Hp),jB cs H' { a with bl:=xJ,pl:=Kv } (bV B.P B.ns F)→aV cs H' b A' p { B with ns:=cC B.P B.ns F }→lU H A A' vs'→(∀x∈vs',x=a.pl∨x=a.bl)→vs'.Nodup →
  H xJ=none→H Kv=none→xJ≠Kv→Kp [A.na,a.bl,a.fl,a.ob] H H'→Q .non H'
section
variable{P:Program}{w:World}{K:PySem.W.Frag}{mg:Str→Option Value}{base:Heap}{cs:Cs}
theorem zu:aH ["self","book"] ["self","book"] (au eV):=⟨rfl,rfl,rfl,by decide +kernel,rfl,by decide +kernel,by decide +kernel⟩
theorem zx(co:ux cs)(T:gB K cs.dJ "end_formula" "Bracket.end_formula" eV)(cl:Cls K cs.dJ)(na:cG K cs.dJ ["asked","formulas","boths","parts"])(J:aX P w K mg base 4 "joined" ["book","asked","within"] (zm cs))(EB:bw P w K mg base 5 cs.dJ "end_both" ["self","book"] (vD cs)):bw P w K mg base 6 cs.dJ "end_formula" ["self","book"] (jW cs):=by
 obtain⟨f,fd,F,M⟩:=T.ex;refine⟨f,fd,M,F.binds (fun _ _ _ _ _ _ us hl=>match us,hl with | [_,_],_=>rfl),okN F zu (fun vs H Q E h=>?_) (fun cdv A outer s H vs Q E hr h=>?_)⟩
 ·obtain⟨a,F,b,A,p,B,rfl,_⟩:=h;rfl
 ·obtain⟨a,Fr,b,Ad,p,B,rfl,R,kq⟩:=h;obtain⟨dx,ob⟩:=R.br.ob;have NT:a.fl∉Ad.lists:=R.ap _ (by simp[fD.lists]);have Kw:a.bl∉Ad.lists:=R.ap _ (by simp[fD.lists]);have Hq:a.pl∉Ad.lists:=R.ap _ (by simp[fD.lists]);have ahO:Ad.na∈Ad.lists:=by simp[d8.lists]
  have hnd:=R.nd;unfold fD.lists at hnd;simp only[nodup_cons,mem_cons,mem_singleton,not_mem_nil,not_or]at hnd;obtain⟨⟨nfb,nfp,_⟩,⟨YM,_⟩,_⟩:=hnd;refine⟨_,aq (aN (bK (pv 0) cl EB hr aF (ak (pv 1) aA)))
   (aq (aN (kY plainAttrs_list PySem.F.slot_list_append PySem.F.type_list_append cZ (aM (pv 0) rfl)
    (ak (bN (J.mono (by decide:4≤5)) hr rfl aF (ak (pv 1) (ak aR (ak (aM (pv 0) rfl) aA)))) aA)))
   (aC (fG (pv 0) (gw aA) rfl))),?_⟩
  refine⟨_,rfl,a.ob,dx,_,rfl,ob,zf _ _ _ _ (by decide +kernel) (by decide +kernel) (by decide +kernel) (by decide +kernel),_,rfl,a,Fr,b,Ad,p,B,rfl,R,fun A1 v1 Ww H1 br1 R1 g1 hv1 hl1 hp1 k1=>?_⟩;obtain⟨YQ,wO⟩:=br1.ob;have T7:H1 a.ob=some (.ins cs.dJ YQ (Cj (Fr.asked:Int) a.fl a.bl Ww)):=wO;have xH:H1 a.fl=some (.lst (nV Fr.fs)):=br1.fs;have bl1:H1 a.bl=some (.lst (nV (dN B.P B.ns Fr).bs)):=br1.bs;have ae8:H1 Ww=some (.lst []):=br1.ps;have acG:a.bl∉A1.lists:=fun z=>by
   rw[g1.lists]at z;rcases mem_append.mp z with z|z
   ·exact Kw z
   ·exact YM (hv1 _ z)
  have acH:a.fl∉A1.lists:=fun z=>by
   rw[g1.lists]at z;rcases mem_append.mp z with z|z
   ·exact NT z
   ·exact nfp (hv1 _ z)
  have fr1:∀x,H1 x=none→H x=none:=fun x hx=>k1.free (fun y hy=>by
   simp only[mem_cons,mem_singleton,not_mem_nil,or_false]at hy;rcases hy with rfl|rfl|rfl
   ·rw[←g1.na.1,R1.nodes];simp
   ·rw[bl1];simp
   ·rw[T7];simp) hx
  refine⟨_,rfl,a.ob,cs.dJ,YQ,_,_,rfl,T7,cl,na _ (by simp),iw _ _ _ _,.inl ⟨rfl,_,bJ.of xH⟩,_,rfl,?_⟩;refine⟨_,rfl,a.ob,cs.dJ,YQ,_,_,rfl,T7,cl,na _ (by simp),Ck _ _ _ _,b,a.bl,1,A1,p,_,_,rfl,R1,bl1,acG,?_,fun A2 v2 H2 R2 g2 hv2 hl2 k2=>?_⟩
  ·show (gW B.ns Fr).length<100000;have h1:=zq B.ns Fr;have h2:=R.acE;omega
  have na1:A1.na=Ad.na:=g1.na.1;have fl2:H2 a.fl=some (.lst (nV Fr.fs)):=k2 _ _ xH (by simpa using fun z:a.fl=A1.na=>acH (by rw[z];simp[d8.lists]));have bl2:H2 a.bl=some (.lst (nV (dN B.P B.ns Fr).bs)):=k2 _ _ bl1 (by simpa using fun z:a.bl=A1.na=>acG (by rw[z];simp[d8.lists]));have NQ:H2 a.ob=some (.ins cs.dJ YQ (Cj (Fr.asked:Int) a.fl a.bl Ww)):=k2 _ _ T7 (by simpa using dY T7 R1.nodes);have nlA:Ww≠Ad.na:=fun z=>by rw[z,R.bk.nodes]at hp1;cases hp1
  have RJ:H2 Ww=some (.lst []):=k2 _ _ ae8 (by rw[na1];simpa using nlA);have npf:Ww≠a.fl:=fun z=>by rw[z,R.br.fs]at hp1;cases hp1
  refine⟨a.fl,_,_,rfl,rfl,fl2,?_,?_⟩
  ·rw[aK];have:=R.few;unfold aD.all at this;rw[length_append,length_append]at this;exact lt_trans (by omega) bM
  refine⟨zero_le _,fun xJ GF=>?_⟩;have o1:a.ob≠a.fl:=dY NQ fl2;have o2:a.ob≠xJ:=fun z=>by rw[←z,aj o1,NQ]at GF;cases GF
  have b2:xJ≠a.fl:=fun z=>by rw[z,ao]at GF;cases GF
  have bn2:H2 xJ=none:=by rw[aj b2]at GF;exact GF
  have pb:Ww≠xJ:=aB RJ bn2;refine⟨_,rfl,a.ob,cs.dJ,YQ,_,rfl,by rw[aj o2,aj o1];exact NQ,cl,na _ (by simp),(by show 4<1000;decide),?_⟩;have kk:Kp [a.fl,a.ob] H2 (upd (upd (upd H2 a.fl (.lst (nV Fr.fs++[V.int ((fU B.P (gW B.ns Fr) (dN B.P B.ns Fr).bs:Nat):Int)]))) xJ (.lst [])) a.ob (.ins cs.dJ YQ (cX "boths" (.ref xJ) (Cj (Fr.asked:Int) a.fl a.bl Ww)))):=
   ((Kp.refl.upd (.inl (by simp))).upd (.inr bn2)).upd (.inl (by simp))
  have fr2:∀x,H2 x=none→H1 x=none:=fun x hx=>k2.free (fun y hy=>by
   simp only[mem_cons,mem_singleton,not_mem_nil,or_false]at hy;subst hy;rw[←g2.na.1,R2.nodes];simp) hx
  have gg:=g1.trans g2 fr1;have acI:a.fl∉A2.lists:=fun z=>by
   rw[g2.lists]at z;rcases mem_append.mp z with z|z
   ·exact acH z
   ·exact nfb (hv2 _ z)
  refine kq A2 (v1++v2) xJ Ww _ ⟨⟨YQ,Eq.trans ao (congrArg (fun q=>some (HO.ins cs.dJ YQ q)) (DW _ _ _ _ _))⟩,?_,?_,?_⟩ (R2.keep kk fun x hx=>?_) gg (fun x hx=>?_) (aai (fun z=>YM z.symm) hv1 hl1 hv2 hl2) (fr1 _ (fr2 _ bn2)) hp1 pb.symm ?_
  ·show upd _ _ _ a.fl=_;rw[aj o1.symm,aj b2.symm,ao];show some (HO.lst (nV Fr.fs++[_]))=some (HO.lst (nV (Fr.fs++[nF B.P B.ns Fr])));rw[iG];rfl
  ·show upd _ _ _ xJ=_;rw[aj o2.symm,ao];rfl
  ·show upd _ _ _ Ww=_;rw[aj (dY NQ RJ).symm,aj pb,aj npf,RJ];rfl
  ·simp only[mem_cons,mem_singleton,not_mem_nil,or_false]at hx;rcases hx with rfl|rfl
   ·exact .inl ⟨_,fl2,acI⟩
   ·exact .inr ⟨_,_,_,NQ,co.bb,co.bn⟩
  ·rcases mem_append.mp hx with z|z
   ·exact .inl (hv1 _ z)
   ·exact .inr (hv2 _ z)
  ·refine(k1.mono fun x hx=>?_).trans ((k2.mono fun x hx=>?_).trans (kk.mono fun x hx=>?_))
   ·simp at hx ⊢;rcases hx with rfl|rfl|rfl<;>simp
   ·simp at hx;rw[hx,na1];simp
   ·simp at hx;rcases hx with rfl|rfl<;>simp
end
def qt(ns:List aG)(F:aD):List aG:=if F.asked=0 then ns else ns++[(F.asked,F.fs)]
def rF(P:Nat)(ns:List aG)(F:aD):Nat:=if F.asked=0 then F.fs.headD 0 else P+ns.length
def Hr(cs:Cs):Sp:=fun vs H Q _=>∃(a:fD)(F:aD)(b:Addr)(A:d8)(p:Nat)(B:Bk),vs=[.ref a.ob,.ref b]∧jB cs H a F∧aV cs H b A p B∧a.fl∉A.lists∧F.fs≠[]∧B.ns.length<100000 ∧
 ∀(A':d8)(vs':List Addr)(H':Hp),aV cs H' b A' p { B with ns:=qt B.ns F }→lU H A A' vs'→(∀x∈vs',x=a.fl)→vs'.length≤1→Kp [A.na] H H'→Q (.int ((rF B.P B.ns F:Nat):Int)) H'
section
variable{P:Program}{w:World}{K:PySem.W.Frag}{mg:Str→Option Value}{base:Heap}{cs:Cs}
theorem Qx:aH ["bracket","book"] ["bracket","book"] (au vB):=⟨rfl,rfl,rfl,by decide +kernel,rfl,by decide +kernel,by decide +kernel⟩
theorem Qy(T:bL K mg "closed" vB)(cl:Cls K cs.dJ)(na:cG K cs.dJ ["asked","formulas","boths","parts"])(gR:Cls K cs.boo)(AN:bw P w K mg base 3 cs.boo "add_node" ["self","asked","within"] (vC cs)):aX P w K mg base 4 "closed" ["bracket","book"] (Hr cs):=by
 obtain⟨f,fd,F,hm⟩:=T.ex;refine⟨f,fd,hm,F.kp,F.binds (fun _ _ _ _ _ _ us hl=>match us,hl with | [_,_],_=>rfl),okN F Qx (fun vs H Q E h=>?_) (fun cdv A outer s H vs Q E hr h=>?_)⟩
 ·obtain⟨a,F,b,A,p,B,rfl,_⟩:=h;rfl
 ·obtain⟨a,Fr,b,Ad,p,B,rfl,br,R,NT,hne,hsm,kq⟩:=h;obtain⟨dx,ob⟩:=br.ob;obtain⟨dxB,obB⟩:=R.ob;refine⟨_,aq (dW (aU gY (aM (pv 0) rfl) aR (bf _)) (aC (aZ (fK dR (aM (pv 0) rfl) aR (fun _ _=>rfl)))) bW)
   (aC (aZ (bK (pv 1) gR AN hr aF (ak (aM (pv 0) rfl) (ak (aM (pv 0) rfl) aA))))),?_⟩
  refine⟨_,rfl,a.ob,cs.dJ,dx,_,_,rfl,ob,cl,na _ (by simp),qO _ _ _ _,rfl,_,rfl,bY (fun hc=>?_) fun hc=>?_⟩
  ·have h0:Fr.asked=0:=by
    have:=of_decide_eq_true hc;injection this with this
    omega
   have e1:qt B.ns Fr=B.ns:=if_pos h0;have e2:rF B.P B.ns Fr=Fr.fs.headD 0:=if_pos h0;obtain⟨i,r,hi⟩:∃i r,Fr.fs=i::r:=by
    cases q:Fr.fs with
    |nil=>exact absurd q hne
    |cons i r=>exact⟨i,r,rfl⟩
   refine⟨_,rfl,a.ob,cs.dJ,dx,_,_,rfl,ob,cl,na _ (by simp),iw _ _ _ _,a.fl,_,_,V.int (i:Int),rfl,rfl,bJ.of br.fs,at_of (j:=0) rfl (by rw[hi];rfl),?_⟩;show Q (V.int (i:Int)) H;have e3:(i:Int)=((rF B.P B.ns Fr:Nat):Int):=by rw[e2,hi];rfl
   rw[e3];exact kq Ad [] H (by rw[e1];exact R) (lU.none H Ad) (fun x hx=>by simp at hx) (by simp) Kp.refl
  ·have h0:¬Fr.asked=0:=fun z=>hc (decide_eq_true (by rw[z];rfl));have e1:qt B.ns Fr=B.ns++[(Fr.asked,Fr.fs)]:=if_neg h0;have e2:rF B.P B.ns Fr=B.P+B.ns.length:=if_neg h0;refine⟨_,rfl,b,dxB,_,rfl,obB,oO _ _ _ _ _ (by decide +kernel) (by decide +kernel) (by decide +kernel) (by decide +kernel) (by decide +kernel),_,rfl,a.ob,cs.dJ,dx,_,_,rfl,ob,cl,na _ (by simp),qO _ _ _ _,
    _,rfl,a.ob,cs.dJ,dx,_,_,rfl,ob,cl,na _ (by simp),iw _ _ _ _,b,a.fl,Fr.asked,Ad,p,B,Fr.fs,rfl,R,br.fs,NT,hsm,fun nx H' R' k' hn=>?_⟩
   rw[←e2];exact kq _ [a.fl] H' (by rw[e1];exact R') (lU.one hn) (fun x hx=>by simpa using hx) (by simp) k'
end
end Pg
namespace Pg
open PySem PySem.Spec PyProof.Rows L2 Xc Sp
structure YS(K:PySem.W.Frag)(C:Addr)(m:Str)(f:Addr):Prop where
 rd:readsIn K C (.type "type")=true
 fc:findCls K (.ref C) (.type "type") m=some (.val (.ref f))
 ga:specialIn K (.ref C) "__getattribute__"=some (some (.builtin "type.__getattribute__"))
 kp:keepIn K (.ref f)=true
theorem oY{X:Cx}{k:Nat}{C f:Addr}{fd:FuncData}{ps:List Str}{sp:Sp}{E:XK}{x m:Str}{p pos apos:Pos}{e:Expr}{es:List Expr}{t:TA}{pl:Sem Bool}(hg:Gl X x)(hm:X.mg x=some (.ref C))(c:YS X.K C m f)(F:iT X.prog X.w X.K X.mg X.base (bI X.prog X.w) k f fd ps sp)(hr:cY k X.A)(hb:Binds X.K fd ps [])(hx:Passes (bI X.prog X.w) X E)(ha:PA X (e::es) t)(hdb:(x==("__debug__":Str))=false:=by decide)(hst:starEach (e::es) X.env=(false,eval e X.env)::starEach es X.env:=by rfl)(hpl:(backTo pos (starEach es X.env)).any (·.1)=false:=by rfl)(ht:eval (.Call (.Attribute (.Name x p) m apos) (e::es) [] pos) X.env=(do
   let ov ←eval (.Name x p) X.env
   standAt apos.atName
   let (f,first) ←holding [ov] (getMethod ov m pl)
   callWith pos f first (backTo pos (starEach (e::es) X.env)) (backToKw pos (keywordEach [] X.env))):=by rfl) :
  PE X (.Call (.Attribute (.Name x p) m apos) (e::es) [] pos) (Sw sp [] E t):=by
 intro pins s σ H Q I h;refine methodCall_KW (pl:=pl) (jT I hg hm ?_ hdb) ht;refine PySem.W.method_cls I.rQ c.ga (PySem.W.cls_value I.rQ c.rd c.fc rfl ?_);have I1:=I.tok (s.toks+1);refine callWith_K (first:=[]) (h₀:=X.base) I.ok.mod.Wo c.kp (dH (ha pos pins _ σ H _ I1 h) fun us s2 ⟨vs,H2,I2,r,q2⟩=>⟨I2.rQ,?_⟩) hst hpl;exact Dl (us:=us) (vs:=vs) F hr hb .nil hx I2 r q2
def T8(n:Int):List (Str×V):=[("number",.int n)]
def Qz(K:PySem.W.Frag):Sp:=fun vs H Q _=>∃(x C:Addr)(n:Int),vs=[.ref x,.int n]∧H x=some (.ext (uo C x))∧Xh K C∧PySem.W.findIn K (.ref C) "number"=some none ∧
 ∀(dx:Addr)(H':Hp),H' x=some (.ext (qb C dx x))→H' dx=some (.xd (T8 n))→H dx=none→Kp [x] H H'→Q .non H'
def oZ(K:PySem.W.Frag)(C:Addr)(n:Int):Sp:=fun vs H Q _=>∃(x:Addr),vs=[.ref x]∧H x=some (.ext (uo C x)) ∧
 ∀(dx:Addr)(H':Hp),H' x=some (.ext (qb C dx x))→H' dx=some (.xd (T8 n))→H dx=none→Kp [x] H H'→Q .non H'
def T9(K:PySem.W.Frag)(C:Addr):Sp:=fun vs H Q _=>∃(x:Addr)(i:Int),vs=[.ref x,.int i]∧H x=some (.ext (uo C x)) ∧
 ∀(dx:Addr)(H':Hp),H' x=some (.ext (qb C dx x))→H' dx=some (.xd (T8 (-100-i)))→H dx=none→Kp [x] H H'→Q .non H'
section
variable{P:Program}{w:World}{K:PySem.W.Frag}{mg:Str→Option Value}{base:Heap}{cs:Cs}
theorem Ky:aH ["self","number"] ["self","number"] (au cT):=⟨rfl,rfl,rfl,by decide +kernel,rfl,by decide +kernel,by decide +kernel⟩
theorem o7{f:Addr}{fd:FuncData}(F:Ka K "__init__" "Refusal.__init__" cT f fd):iT P w K mg base (bI P w) 1 f fd ["self","number"] (Qz K):=by
 refine okN F Ky (fun vs H Q E h=>?_) (fun cdv A outer s H vs Q E hr h=>?_)
 ·obtain⟨x,C,n,rfl,_⟩:=h;rfl
 ·obtain⟨x,C,n,rfl,hx,c,nn,kq⟩:=h;refine⟨_,aC (Xj (pv 0) (pv 1) rfl),?_⟩;refine⟨_,rfl,_,rfl,x,C,rfl,hx,c,nn,fun dx hd=>?_⟩;have hdx:dx≠x:=fun z=>by rw[z,hx]at hd;cases hd
  exact kq dx _ ao (by rw[aj hdx,ao];rfl) hd ((Kp.refl.upd (.inr hd)).upd (.inl (by simp)))
theorem jq{f:Addr}{fd:FuncData}(F:Ka K "__init__" "Refusal.__init__" cT f fd):Binds K fd ["self","number"] []:=F.binds (fun _ _ _ _ _ _ us hl=>match us,hl with | [_,_],_=>rfl)
structure wz(K:PySem.W.Frag)(mg:Str→Option Value)(cs:Cs):Prop where
 ref:∃f fd,Ka K "__init__" "Refusal.__init__" cT f fd∧YS K cs.ref "__init__" f
 mref:mg "Refusal"=some (.ref cs.ref)
 pO:GZ K mg "OutOfRange" cs.pO "OutOfRange.__init__" gP
 pP:GZ K mg "OverLimit" cs.pP "OverLimit.__init__" iB
 cst:GZ K mg "CannotStand" cs.cst "CannotStand.__init__" gC
 aaj:PySem.W.findIn K (.ref cs.pO) "number"=some none
 acJ:PySem.W.findIn K (.ref cs.pP) "number"=some none
 acK:PySem.W.findIn K (.ref cs.cst) "number"=some none
structure uy(P:Program)(w:World)(K:PySem.W.Frag)(mg:Str→Option Value)(base:Heap)(k:Nat)(x:Str)(C:Addr)(ps:List Str)(sp:Sp):Prop where
 ex:∃f fd,mg x=some (.ref C)∧Kf K C f∧Binds K fd ps []∧iT P w K mg base (bI P w) k f fd ps sp
theorem Bm:aH ["self"] ["self"] (au gP):=⟨rfl,rfl,rfl,by decide +kernel,rfl,by decide +kernel,by decide +kernel⟩
theorem DX:aH ["self"] ["self"] (au iB):=⟨rfl,rfl,rfl,by decide +kernel,rfl,by decide +kernel,by decide +kernel⟩
theorem zy:aH ["self","place"] ["self","place"] (au gC):=⟨rfl,rfl,rfl,by decide +kernel,rfl,by decide +kernel,by decide +kernel⟩
theorem mW(T:wz K mg cs):uy P w K mg base 2 "OutOfRange" cs.pO ["self"] (oZ K cs.pO (-2)):=by
 obtain⟨fR,fdR,FR,cm⟩:=T.ref;obtain⟨f,fd,F,M,hm⟩:=T.pO.ex;refine⟨f,fd,hm,M,F.binds (fun _ _ _ _ _ _ us hl=>match us,hl with | [_],_=>rfl),okN F Bm (fun vs H Q E h=>?_) (fun cdv A outer s H vs Q E hr h=>?_)⟩
 ·obtain⟨x,rfl,_⟩:=h;rfl
 ·obtain⟨x,rfl,hx,kq⟩:=h;refine⟨_,aC (aN (oY rfl T.mref cm (o7 FR) hr (jq FR) aF (ak (pv 0) (ak (yc rY aR) aA)))),?_⟩;refine⟨_,rfl,_,rfl,x,cs.pO,-2,rfl,hx,T.pO.cls,T.aaj,fun dx H' h1 h2 h3 h4=>kq dx H' h1 h2 h3 h4⟩
theorem DY(T:wz K mg cs):uy P w K mg base 2 "OverLimit" cs.pP ["self"] (oZ K cs.pP (-5)):=by
 obtain⟨fR,fdR,FR,cm⟩:=T.ref;obtain⟨f,fd,F,M,hm⟩:=T.pP.ex;refine⟨f,fd,hm,M,F.binds (fun _ _ _ _ _ _ us hl=>match us,hl with | [_],_=>rfl),okN F DX (fun vs H Q E h=>?_) (fun cdv A outer s H vs Q E hr h=>?_)⟩
 ·obtain⟨x,rfl,_⟩:=h;rfl
 ·obtain⟨x,rfl,hx,kq⟩:=h;refine⟨_,aC (aN (oY rfl T.mref cm (o7 FR) hr (jq FR) aF (ak (pv 0) (ak (yc rY aR) aA)))),?_⟩;refine⟨_,rfl,_,rfl,x,cs.pP,-5,rfl,hx,T.pP.cls,T.acJ,fun dx H' h1 h2 h3 h4=>kq dx H' h1 h2 h3 h4⟩
theorem zA(T:wz K mg cs):uy P w K mg base 2 "CannotStand" cs.cst ["self","place"] (T9 K cs.cst):=by
 obtain⟨fR,fdR,FR,cm⟩:=T.ref;obtain⟨f,fd,F,M,hm⟩:=T.cst.ex;refine⟨f,fd,hm,M,F.binds (fun _ _ _ _ _ _ us hl=>match us,hl with | [_,_],_=>rfl),okN F zy (fun vs H Q E h=>?_) (fun cdv A outer s H vs Q E hr h=>?_)⟩
 ·obtain⟨x,i,rfl,_⟩:=h;rfl
 ·obtain⟨x,i,rfl,hx,kq⟩:=h;refine⟨_,aC (aN (oY rfl T.mref cm (o7 FR) hr (jq FR) aF (ak (pv 0) (ak (fj rW (yc rY aR) (pv 1)) aA)))),?_⟩;refine⟨_,rfl,_,rfl,_,rfl,_,_,rfl,rfl,x,cs.cst,-100-i,rfl,hx,T.cst.cls,T.acK,fun dx H' h1 h2 h3 h4=>kq dx H' h1 h2 h3 h4⟩
end
end Pg
namespace Pg
open PySem L2 Xc Sp
def YT(cs:Cs)(H:Hp)(a:Addr)(t:PT):Prop:=∃dx,H a=some (.ins cs.tok dx (GX (kindS t.1) (bT t.1) (t.2:Int)))
structure sV(cs:Cs)(H:Hp)(lt:Addr)(as:List Addr)(T:List PT):Prop where
 lst:H lt=some (.lst (as.map V.ref))
 len:as.length=T.length
 at_:∀(j:Nat)(a:Addr)(t:PT),as[j]?=some a→T[j]?=some t→YT cs H a t
structure bO(cs:Cs)(H:Hp)(r lt:Addr)(as:List Addr)(T:List PT)(i:Nat):Prop where
 ob:∃dx,H r=some (.ins cs.cD dx (JK lt (i:Int)))
 tk:sV cs H lt as T
def zB(E:XK)(C:Addr)(n:Int):Prop:=∀dx H',H' dx=some (.xd (T8 n))→E (.ref C) (some dx) H'
def mG(cs:Cs):Sp:=fun vs H Q _=>∃(r lt:Addr)(as:List Addr)(T:List PT)(i:Nat)(t:PT),vs=[.ref r]∧bO cs H r lt as T i∧T[i]?=some t∧∀a,YT cs H a t→Q (.ref a) H
def o8(cs:Cs):Sp:=fun vs H Q E=>∃(r lt:Addr)(as:List Addr)(T:List PT)(i:Nat)(t:PT)(c:Bool),vs=[.ref r,.bl c]∧bO cs H r lt as T i∧T[i]?=some t ∧
 (c=true→∀H',bO cs H' r lt as T (i+1)→Kp [r] H H'→Q (.str (bT t.1)) H')∧(c=false→zB E cs.cst (-100-(t.2:Int)))
def kI(cs:Cs):Sp:=fun vs H Q E=>∃(r lt:Addr)(as:List Addr)(T:List PT)(i:Nat)(t:PT)(wd:Str),vs=[.ref r,.str wd]∧bO cs H r lt as T i∧T[i]?=some t ∧
 (bT t.1=wd→∀H',bO cs H' r lt as T (i+1)→Kp [r] H H'→Q (.str (bT t.1)) H')∧(¬bT t.1=wd→zB E cs.cst (-100-(t.2:Int)))
def vG(cs:Cs)(known:Bool):Sp:=fun vs H Q E=>∃(r lt:Addr)(as:List Addr)(T:List PT)(i:Nat)(t:PT)(ma:Addr)(kvs:List (Key×V)),vs=[.ref r,.ref ma]∧bO cs H r lt as T i∧T[i]?=some t∧H ma=some (.dK kvs) ∧
 (kindS t.1="name"∧(lR kvs (Sum.inr (bT t.1))).isSome=known→∀H',bO cs H' r lt as T (i+1)→Kp [r] H H'→Q (.str (bT t.1)) H') ∧
 (¬(kindS t.1="name"∧(lR kvs (Sum.inr (bT t.1))).isSome=known)→zB E cs.cst (-100-(t.2:Int)))
section
variable{P:Program}{w:World}{K:PySem.W.Frag}{mg:Str→Option Value}{base:Heap}{cs:Cs}
theorem aak:aH ["self"] ["self"] (au mU):=⟨rfl,rfl,rfl,by decide +kernel,rfl,by decide +kernel,by decide +kernel⟩
theorem aal(T:gB K cs.cD "now" "Reader.now" mU)(cl:Cls K cs.cD)(na:cG K cs.cD ["tokens","at"]):bw P w K mg base 1 cs.cD "now" ["self"] (mG cs):=by
 obtain⟨f,fd,F,M⟩:=T.ex;refine⟨f,fd,M,F.binds (fun _ _ _ _ _ _ us hl=>match us,hl with | [_],_=>rfl),okN F aak (fun vs H Q E h=>?_) (fun cdv A outer s H vs Q E hr h=>?_)⟩
 ·obtain⟨r,lt,as,T,i,t,rfl,_⟩:=h;rfl
 ·obtain⟨r,lt,as,T,i,t,rfl,R,ht,kq⟩:=h;obtain⟨dx,ob⟩:=R.ob;have hi:i<as.length:=by rw[R.tk.len];exact(List.getElem?_eq_some_iff.mp ht).1
  refine⟨_,aC (aZ (fK dR (aM (pv 0) rfl) (aM (pv 0) rfl) (fun _ _=>rfl))),?_⟩;refine⟨_,rfl,r,cs.cD,dx,_,_,rfl,ob,cl,na _ (by simp),Ko _ _,_,rfl,r,cs.cD,dx,_,_,rfl,ob,cl,na _ (by simp),Kr _ _,lt,_,_,V.ref as[i],rfl,rfl,bJ.of R.tk.lst,at_of (j:=i) rfl (by rw[getElem?_map,getElem?_eq_getElem hi];rfl),?_⟩;exact kq as[i] (R.tk.at_ i _ t (getElem?_eq_getElem hi) ht)
theorem NZ:aH ["self","stands","token"] ["self","stands"] (au lA):=⟨rfl,rfl,rfl,by decide +kernel,rfl,by decide +kernel,by decide +kernel⟩
theorem Xv(T:gB K cs.cD "take" "Reader.take" lA)(cl:Cls K cs.cD)(na:cG K cs.cD ["tokens","at"])(qT:Cls K cs.tok)(qU:cG K cs.tok ["kind","word","place"])(NW:bw P w K mg base 1 cs.cD "now" ["self"] (mG cs))(CS:uy P w K mg base 2 "CannotStand" cs.cst ["self","place"] (T9 K cs.cst)):bw P w K mg base 4 cs.cD "take" ["self","stands"] (o8 cs):=by
 obtain⟨f,fd,F,M⟩:=T.ex;obtain⟨fC,fdC,QB,MC,bC,GC⟩:=CS.ex;refine⟨f,fd,M,F.binds (fun _ _ _ _ _ _ us hl=>match us,hl with | [_,_],_=>rfl),Fg F NZ (fun vs H Q E h=>?_) (fun cdv A outer s H vs Q E hr h=>?_)⟩
 ·obtain⟨r,lt,as,T,i,t,c,rfl,_⟩:=h;rfl
 ·obtain⟨r,lt,as,T,i,t,c,rfl,R,ht,kq,kx⟩:=h;obtain⟨dx,ob⟩:=R.ob;refine⟨_,aq (aY (i:=2) NZ.nd rfl (Or.inl rfl) (dU (pv 0) cl (NW.mono (by decide:1≤3)) hr aF))
   (aq (dW (JM (mL (pv 1))) (aC (Tr MC GC hr bC rfl QB (ak (aM (pv 2) rfl) aA))) bW)
   (aq (Qa (pv 0) aR ZC) (aC (aZ (aM (pv 2) rfl))))),?_⟩
  refine⟨_,rfl,r,dx,_,rfl,ob,iy _ _ (by decide +kernel) (by decide +kernel),r,lt,as,T,i,t,rfl,R,ht,fun a ta=>?_⟩;obtain⟨dt,Bb⟩:=id ta;refine⟨_,rfl,c,rfl,?_⟩;cases c with
  |false=>
   refine Gx ?_;refine⟨_,rfl,a,cs.tok,dt,_,_,rfl,Bb,qT,qU _ (by simp),Km _ _ _,(by show 1≤sizeLine;decide),fun x hx=>?_⟩;refine⟨x,_,rfl,ao,fun dy H' h1 h2 h3 h4=>⟨rfl,x,dy,rfl,h1,?_⟩⟩;have hdx:dy≠x:=fun z=>by rw[z,ao]at h3;cases h3
   exact kx rfl dy _ (by rw[fP hdx];exact h2)
  |true=>
   refine Gw ?_;refine⟨_,rfl,r,cs.cD,dx,_,_,rfl,ob,cl,na _ (by simp),Kr _ _,_,_,rfl,rfl,dx,_,ob,(by show 2<1000;decide),?_⟩;have na':a≠r:=iW Bb ob (by
    intro z;injection z with _ _ z
    exact absurd (congrArg List.length z) (by show ¬3=2;decide))
   refine⟨_,rfl,a,cs.tok,dt,_,_,rfl,by rw[aj na'];exact Bb,qT,qU _ (by simp),iY _ _ _,?_⟩;have kp:Kp [r] H (upd H r (.ins cs.cD dx (cX "at" (.int ((i:Int)+1)) (JK lt (i:Int))))):=Kp.refl.upd (.inl (by simp));refine kq rfl _ ⟨⟨dx,?_⟩,⟨kp _ _ R.tk.lst (by simpa using (dY ob R.tk.lst).symm),R.tk.len,fun j b u e1 e2=>?_⟩⟩ kp
   ·rw[ao,Xn];rfl
   ·obtain⟨dy,hb⟩:=R.tk.at_ j b u e1 e2;exact⟨dy,kp _ _ hb (by
     have:b≠r:=iW hb ob (by
      intro z;injection z with _ _ z
      exact absurd (congrArg List.length z) (by show ¬3=2;decide))
     simpa using this)⟩
theorem Kz:aH ["self","word"] ["self","word"] (au eX):=⟨rfl,rfl,rfl,by decide +kernel,rfl,by decide +kernel,by decide +kernel⟩
theorem KC(T:gB K cs.cD "take_written" "Reader.take_written" eX)(cl:Cls K cs.cD)(qT:Cls K cs.tok)(qU:cG K cs.tok ["kind","word","place"])(NW:bw P w K mg base 1 cs.cD "now" ["self"] (mG cs))(TK:bw P w K mg base 4 cs.cD "take" ["self","stands"] (o8 cs)):bw P w K mg base 5 cs.cD "take_written" ["self","word"] (kI cs):=by
 obtain⟨f,fd,F,M⟩:=T.ex;refine⟨f,fd,M,F.binds (fun _ _ _ _ _ _ us hl=>match us,hl with | [_,_],_=>rfl),Fg F Kz (fun vs H Q E h=>?_) (fun cdv A outer s H vs Q E hr h=>?_)⟩
 ·obtain⟨r,lt,as,T,i,t,wd,rfl,_⟩:=h;rfl
 ·obtain⟨r,lt,as,T,i,t,wd,rfl,R,ht,kq,kx⟩:=h;obtain⟨dx,ob⟩:=R.ob;refine⟨_,aC (aZ (bK (pv 0) cl TK hr bG (ak (eN gY (aM (dU (pv 0) cl (NW.mono (by decide:1≤4)) hr aF) rfl) (pv 1) (bf _)) aA))),?_⟩;refine⟨_,rfl,r,dx,_,rfl,ob,iy _ _ (by decide +kernel) (by decide +kernel),?_⟩;refine⟨_,rfl,r,dx,_,rfl,ob,iy _ _ (by decide +kernel) (by decide +kernel),r,lt,as,T,i,t,rfl,R,ht,fun a ta=>?_⟩;obtain⟨dt,Bb⟩:=id ta;refine⟨a,cs.tok,dt,_,_,rfl,Bb,qT,qU _ (by simp),iY _ _ _,_,rfl,rfl,?_⟩;refine⟨r,lt,as,T,i,t,_,rfl,R,ht,fun hc=>kq ?_,fun hc=>kx fun z=>?_⟩
  ·have:=of_decide_eq_true hc;injection this
  ·rw[z]at hc;simp at hc
theorem Ua:aH ["self","names","token"] ["self","names"] (au dX):=⟨rfl,rfl,rfl,by decide +kernel,rfl,by decide +kernel,by decide +kernel⟩
theorem aam(T:gB K cs.cD "take_new_name" "Reader.take_new_name" dX)(cl:Cls K cs.cD)(qT:Cls K cs.tok)(qU:cG K cs.tok ["kind","word","place"])(hN:∃t,mg "NAME"=some (.str "name" t))(NW:bw P w K mg base 1 cs.cD "now" ["self"] (mG cs))(TK:bw P w K mg base 4 cs.cD "take" ["self","stands"] (o8 cs)):bw P w K mg base 5 cs.cD "take_new_name" ["self","names"] (vG cs false):=by
 obtain⟨f,fd,F,M⟩:=T.ex;obtain⟨tn,hN⟩:=hN;refine⟨f,fd,M,F.binds (fun _ _ _ _ _ _ us hl=>match us,hl with | [_,_],_=>rfl),Fg F Ua (fun vs H Q E h=>?_) (fun cdv A outer s H vs Q E hr h=>?_)⟩
 ·obtain⟨r,lt,as,T,i,t,ma,kvs,rfl,_⟩:=h;rfl
 ·obtain⟨r,lt,as,T,i,t,ma,kvs,rfl,R,ht,hma,kq,kx⟩:=h;obtain⟨dx,ob⟩:=R.ob;refine⟨_,aq (aY (i:=2) Ua.nd rfl (Or.inl rfl) (dU (pv 0) cl (NW.mono (by decide:1≤4)) hr aF))
   (aC (aZ (bK (pv 0) cl TK hr bG (ak (Df (eN gY (aM (pv 2) rfl) (bh (v:=.str "name") rfl hN ⟨tn,rfl⟩) (bf _)) (Dd (RV (Qj (yG hr) (aM (pv 2) rfl) (pv 1))))) aA)))),?_⟩
  refine⟨_,rfl,r,dx,_,rfl,ob,iy _ _ (by decide +kernel) (by decide +kernel),r,lt,as,T,i,t,rfl,R,ht,fun a ta=>?_⟩;obtain⟨dt,Bb⟩:=id ta;refine⟨_,rfl,r,dx,_,rfl,ob,iy _ _ (by decide +kernel) (by decide +kernel),?_⟩;refine⟨_,rfl,a,cs.tok,dt,_,_,rfl,Bb,qT,qU _ (by simp),nH _ _ _,rfl,_,rfl,bY (fun hc=>?_) fun hc=>?_⟩
  ·have hk:kindS t.1="name":=by
    have:=of_decide_eq_true hc;injection this
   refine⟨_,rfl,a,cs.tok,dt,_,_,rfl,Bb,qT,qU _ (by simp),iY _ _ _,_,rfl,ma,_,rfl,rD.k (k:=Sum.inr (bT t.1)) hma,?_⟩;refine⟨r,lt,as,T,i,t,_,rfl,R,ht,fun h2=>kq ⟨hk,by simpa using h2⟩,fun h2=>kx fun z=>?_⟩;rw[z.2]at h2;simp at h2
  ·refine⟨r,lt,as,T,i,t,_,rfl,R,ht,fun h2=>absurd h2 Bool.false_ne_true,fun h2=>kx fun z=>hc (decide_eq_true (by rw[z.1]))⟩
theorem Hs:aH ["self","names","token"] ["self","names"] (au dG):=⟨rfl,rfl,rfl,by decide +kernel,rfl,by decide +kernel,by decide +kernel⟩
theorem Ub(T:gB K cs.cD "take_known_name" "Reader.take_known_name" dG)(cl:Cls K cs.cD)(qT:Cls K cs.tok)(qU:cG K cs.tok ["kind","word","place"])(hN:∃t,mg "NAME"=some (.str "name" t))(NW:bw P w K mg base 1 cs.cD "now" ["self"] (mG cs))(TK:bw P w K mg base 4 cs.cD "take" ["self","stands"] (o8 cs)):bw P w K mg base 5 cs.cD "take_known_name" ["self","names"] (vG cs true):=by
 obtain⟨f,fd,F,M⟩:=T.ex;obtain⟨tn,hN⟩:=hN;refine⟨f,fd,M,F.binds (fun _ _ _ _ _ _ us hl=>match us,hl with | [_,_],_=>rfl),Fg F Hs (fun vs H Q E h=>?_) (fun cdv A outer s H vs Q E hr h=>?_)⟩
 ·obtain⟨r,lt,as,T,i,t,ma,kvs,rfl,_⟩:=h;rfl
 ·obtain⟨r,lt,as,T,i,t,ma,kvs,rfl,R,ht,hma,kq,kx⟩:=h;obtain⟨dx,ob⟩:=R.ob;refine⟨_,aq (aY (i:=2) Hs.nd rfl (Or.inl rfl) (dU (pv 0) cl (NW.mono (by decide:1≤4)) hr aF))
   (aC (aZ (bK (pv 0) cl TK hr bG (ak (Df (eN gY (aM (pv 2) rfl) (bh (v:=.str "name") rfl hN ⟨tn,rfl⟩) (bf _)) (Dd (RV (ZR (yG hr) (aM (pv 2) rfl) (pv 1))))) aA)))),?_⟩
  refine⟨_,rfl,r,dx,_,rfl,ob,iy _ _ (by decide +kernel) (by decide +kernel),r,lt,as,T,i,t,rfl,R,ht,fun a ta=>?_⟩;obtain⟨dt,Bb⟩:=id ta;refine⟨_,rfl,r,dx,_,rfl,ob,iy _ _ (by decide +kernel) (by decide +kernel),?_⟩;refine⟨_,rfl,a,cs.tok,dt,_,_,rfl,Bb,qT,qU _ (by simp),nH _ _ _,rfl,_,rfl,bY (fun hc=>?_) fun hc=>?_⟩
  ·have hk:kindS t.1="name":=by
    have:=of_decide_eq_true hc;injection this
   refine⟨_,rfl,a,cs.tok,dt,_,_,rfl,Bb,qT,qU _ (by simp),iY _ _ _,_,rfl,ma,_,rfl,rD.k (k:=Sum.inr (bT t.1)) hma,?_⟩;refine⟨r,lt,as,T,i,t,_,rfl,R,ht,fun h2=>kq ⟨hk,h2⟩,fun h2=>kx fun z=>?_⟩;rw[z.2]at h2;cases h2
  ·refine⟨r,lt,as,T,i,t,_,rfl,R,ht,fun h2=>absurd h2 Bool.false_ne_true,fun h2=>kx fun z=>hc (decide_eq_true (by rw[z.1]))⟩
end
end Pg
namespace Pg
open PySem L2 Xc Sp Rb35
def tk(T:List PT)(i:Nat):Toks:=Dy (T.drop i)
structure RK(T:List PT):Prop where
 next:∀i t,T[i]?=some t→t.1≠[]→∃u,T[i+1]?=some u
 dig:∀t∈T,kindS t.1="number"→∀c∈t.1,isDigit c=true
 few:T.length≤10000
section
variable{T:List PT}{i:Nat}{t:PT}
theorem Xw(h:T[i]?=some t):T.drop i=t::T.drop (i+1):=by
 obtain⟨hi,e⟩:=List.getElem?_eq_some_iff.mp h;rw[drop_eq_getElem_cons hi,e]
theorem gJ(h:T[i]?=some t):tk T i=match bQ t.1 with
  | .bad=>[(.bad,t.2)]
  | .ended=>[(.ended,t.2)]
  |x=>(x,t.2)::tk T (i+1):=by
 unfold tk;rw[Xw h];rfl
theorem jC(h:T[i]?=some t):placeOf (tk T i)=t.2:=by
 rw[gJ h];cases bQ t.1<;>rfl
def sgn:List Nat:=[40,41,44,59,61,38,124]
theorem Uc{c:Nat}(h:c∈sgn):bQ [c]=.sign c:=by
 simp only[sgn,mem_cons,not_mem_nil,or_false]at h;rcases h with rfl|rfl|rfl|rfl|rfl|rfl|rfl<;>rfl
theorem Ea{w:List Nat}{c:Nat}(h:bQ w=.sign c):w=[c]:=by
 cases w with
 |nil=>cases h
 |cons a r=>
  unfold bQ at h;dsimp only at h;split at h
  ·split at h<;>cases h
  ·split at h
   ·split at h<;>cases h
   ·split at h
    ·rename_i q;cases h;rw[q.1]
    ·cases h
theorem jX{w b:List Nat}(h:bQ w=.name b):w=b:=by
 cases w with
 |nil=>cases h
 |cons a r=>
  unfold bQ at h;dsimp only at h;split at h
  ·split at h
   ·cases h
   ·cases h;rfl
  ·split at h
   ·split at h<;>cases h
   ·split at h<;>cases h
theorem Ht{w:List Nat}(h:bQ w=.ended):w=[]:=by
 cases w with
 |nil=>rfl
 |cons a r=>
  unfold bQ at h;dsimp only at h;split at h
  ·split at h<;>cases h
  ·split at h
   ·split at h<;>cases h
   ·split at h<;>cases h
theorem iH{c:Nat}(hc:c∈sgn)(h:T[i]?=some t)(e:t.1=[c]):tk T i=(.sign c,t.2)::tk T (i+1):=by
 rw[gJ h,e,Uc hc]
theorem rM{c:Nat}(hc:c∈sgn)(h:T[i]?=some t):is_ c (tk T i)=decide (t.1=[c]):=by
 by_cases e:t.1=[c]
 ·rw[iH hc h e,decide_eq_true e];simp[is_]
 ·rw[decide_eq_false e,gJ h];cases q:bQ t.1 with
  |sign d=>
   show (c==d)=false;have:=Ea q;simpa using fun z:c=d=>e (by rw[this,z])
  |name b=>rfl
  |num b=>rfl
  |bad=>rfl
  |ended=>rfl
theorem o9{s:String}(hs:bQ (ascii s)=.name (ascii s))(h:T[i]?=some t):isKey s (tk T i)=decide (t.1=ascii s):=by
 by_cases e:t.1=ascii s
 ·rw[decide_eq_true e,gJ h,e,hs];simp[isKey]
 ·rw[decide_eq_false e,gJ h];cases q:bQ t.1 with
  |name b=>
   show decide (b=ascii s)=false;rw[←jX q];exact decide_eq_false e
  |sign b=>rfl
  |num b=>rfl
  |bad=>rfl
  |ended=>rfl
theorem qW{s:String}(hs:bQ (ascii s)=.name (ascii s))(h:T[i]?=some t)(e:t.1=ascii s):tk T i=(.name (ascii s),t.2)::tk T (i+1):=by
 rw[gJ h,e,hs]
theorem Cm{w:List Nat}(h:kindS w="name"):bQ w=.name w∧keys.contains w=false:=by
 cases w with
 |nil=>exact absurd h (by decide +kernel)
 |cons c r=>
  unfold kindS at h;dsimp only at h;by_cases q:isSmall c=true∧(c::r).length≤15∧¬keys.contains (c::r)=true
  ·refine⟨?_,by simpa using q.2.2⟩;unfold bQ;dsimp only;rw[if_pos q.1,if_neg (by omega)]
  ·rw[if_neg q]at h;split at h<;>exact absurd h (by decide +kernel)
theorem rN{w b:List Nat}(h:¬kindS w="name")(a:bQ w=.name b):keys.contains b=true:=by
 have e:=jX a;subst e;cases w with
 |nil=>cases a
 |cons c r=>
  unfold bQ at a;dsimp only at a;by_cases hs:isSmall c=true
  ·rw[if_pos hs]at a;by_cases hl:15<(c::r).length
   ·rw[if_pos hl]at a;cases a
   ·cases k:keys.contains (c::r) with
    |true=>rfl
    |false=>
     refine absurd ?_ h;unfold kindS;dsimp only;rw[if_pos ⟨hs,by omega,by rw[k];decide⟩]
  ·rw[if_neg hs]at a;split at a
   ·split at a<;>cases a
   ·split at a<;>cases a
theorem wA{c:Nat}(h:isDigit c=true):isSmall c=false:=by
 cases q:isSmall c with
 |false=>rfl
 |true=>simp[isSmall,isDigit]at h q;omega
theorem jD{w:List Nat}(h:kindS w="number"):bQ w=.num (valueOf w)∧w.length≤5:=by
 cases w with
 |nil=>exact absurd h (by decide +kernel)
 |cons c r=>
  unfold kindS at h;dsimp only at h;by_cases q:isSmall c=true∧(c::r).length≤15∧¬keys.contains (c::r)=true
  ·rw[if_pos q]at h;exact absurd h (by decide +kernel)
  ·rw[if_neg q]at h;by_cases d:isDigit c=true∧(c::r).length≤5
   ·refine⟨?_,d.2⟩;unfold bQ;dsimp only;rw[if_neg (by rw[wA d.1];decide),if_pos d.1,if_neg (by omega)]
   ·rw[if_neg d]at h;exact absurd h (by decide +kernel)
theorem uz{w:List Nat}{n:Nat}(h:¬kindS w="number"):bQ w≠.num n:=fun a=>by
 cases w with
 |nil=>cases a
 |cons c r=>
  unfold bQ at a;dsimp only at a;by_cases hs:isSmall c=true
  ·rw[if_pos hs]at a;split at a<;>cases a
  ·rw[if_neg hs]at a;by_cases hd:isDigit c=true
   ·rw[if_pos hd]at a;by_cases hl:5<(c::r).length
    ·rw[if_pos hl]at a;cases a
    ·refine h ?_;unfold kindS;dsimp only;rw[if_neg fun z=>hs z.1,if_pos ⟨hd,by omega⟩]
   ·rw[if_neg hd]at a;split at a<;>cases a
theorem Hu{w:List Nat}:kindS w="end"↔w=[]:=by
 constructor
 ·intro h;cases w with
  |nil=>rfl
  |cons c r=>
   unfold kindS at h;dsimp only at h;split at h
   ·exact absurd h (by decide +kernel)
   ·split at h<;>exact absurd h (by decide +kernel)
 ·rintro rfl;rfl
theorem zE(h:T[i]?=some t):atEnd (tk T i)=decide (t.1=[]):=by
 by_cases e:t.1=[]
 ·rw[decide_eq_true e,gJ h,e];rfl
 ·rw[decide_eq_false e,gJ h];cases q:bQ t.1 with
  |ended=>exact absurd (Ht q) e
  |name b=>rfl
  |sign b=>rfl
  |num b=>rfl
  |bad=>rfl
theorem uD{c:Nat}(hc:c∈sgn)(h:T[i]?=some t)(e:t.1=[c]):take_ c (tk T i)=.ok (tk T (i+1)):=by
 unfold take_;rw[rM hc h,decide_eq_true e,if_pos rfl,iH hc h e];rfl
theorem qX{c:Nat}(hc:c∈sgn)(h:T[i]?=some t)(e:¬t.1=[c]):take_ c (tk T i)=.error t.2:=by
 unfold take_;rw[rM hc h,decide_eq_false e,if_neg (by decide),jC h]
theorem N5{e:Known}(h:T[i]?=some t)(h1:kindS t.1="name")(h2:knows e t.1=false):newName e (tk T i)=.ok (t.1,tk T (i+1)):=by
 obtain⟨a,b⟩:=Cm h1;rw[gJ h,a];show (if keys.contains t.1=true∨knows e t.1=true then _ else _)=_;rw[if_neg (by rw[b,h2];decide)]
theorem Ud{e:Known}(h:T[i]?=some t)(h1:¬(kindS t.1="name"∧knows e t.1=false)):newName e (tk T i)=.error t.2:=by
 rw[gJ h];cases q:bQ t.1 with
 |name b=>
  show (if keys.contains b=true∨knows e b=true then _ else _)=_;rw[if_pos];by_cases hk:kindS t.1="name"
  ·right;rw[←jX q];cases z:knows e t.1 with
   |true=>rfl
   |false=>exact absurd ⟨hk,z⟩ h1
  ·exact .inl (rN hk q)
 |sign b=>rfl
 |num b=>rfl
 |bad=>rfl
 |ended=>rfl
variable{e:Known}{F:wL}{r:List wL}
theorem Xx(h:T[i]?=some t)(h1:t.1=[40]):gj e F r (tk T i)=gj e (wL.empty 0) (F::r) (tk T (i+1)):=by
 rw[iH (by decide) h h1,Z7]
theorem Eb:bQ (ascii "of")=.name (ascii "of"):=rfl
theorem Ue{u v:PT}(h:T[i]?=some t)(hu:T[i+1]?=some u)(hv:T[i+2]?=some v)(h1:kindS t.1="number")(h2:valueOf t.1≠0)(h3:u.1=ascii "of")(h4:v.1=[40]) :
  gj e F r (tk T i)=gj e (wL.empty (valueOf t.1)) (F::r) (tk T (i+3)):=by
 have e1:tk T i=(.num (valueOf t.1),t.2)::tk T (i+1):=by rw[gJ h,(jD h1).1]
 rw[e1,qW Eb hu h3,iH (by decide) hv h4,Xk _ _ _ _ h2 rfl]
theorem Xy(h:T[i]?=some t)(h1:kindS t.1="number")(h2:valueOf t.1=0):gj e F r (tk T i)=.error t.2:=by
 have e1:tk T i=(.num (valueOf t.1),t.2)::tk T (i+1):=by rw[gJ h,(jD h1).1]
 unfold gj;rw[e1,DG,if_pos h2];rfl
theorem Xz{u:PT}(h:T[i]?=some t)(hu:T[i+1]?=some u)(h1:kindS t.1="number")(h2:valueOf t.1≠0)(h3:¬u.1=ascii "of"):gj e F r (tk T i)=.error u.2:=by
 have e1:tk T i=(.num (valueOf t.1),t.2)::tk T (i+1):=by rw[gJ h,(jD h1).1]
 unfold gj;rw[e1,DG,if_neg h2,if_pos (by rw[o9 Eb hu];exact decide_eq_false h3),jC hu];rfl
theorem Ug{u v:PT}(h:T[i]?=some t)(hu:T[i+1]?=some u)(hv:T[i+2]?=some v)(h1:kindS t.1="number")(h2:valueOf t.1≠0)(h3:u.1=ascii "of")(h4:¬v.1=[40]):gj e F r (tk T i)=.error v.2:=by
 have e1:tk T i=(.num (valueOf t.1),t.2)::tk T (i+1):=by rw[gJ h,(jD h1).1]
 unfold gj;rw[e1,DG,if_neg h2,if_neg (by rw[o9 Eb hu,decide_eq_true h3];decide),qW Eb hu h3];show ((take_ 40 (tk T (i+1+1))).bind _).bind _=_;rw[qX (by decide) hv h4];rfl
theorem XC{x:Form}(h:T[i]?=some t)(h1:kindS t.1="name")(h2:meaning e t.1=some x):gj e F r (tk T i)=iU e { F with ps:=F.ps++[x] } r (tk T (i+1)):=by
 obtain⟨a,b⟩:=Cm h1;rw[gJ h,a];exact Z8 _ b h2
theorem aan(h:T[i]?=some t)(h1:¬t.1=[40])(h2:¬kindS t.1="number")(h3:¬(kindS t.1="name"∧(meaning e t.1).isSome=true)):gj e F r (tk T i)=.error t.2:=by
 have key:RL e 0 (tk T i)=.error (placeOf (tk T i)):=by
  have els:GK (tk T i)=true→RL e 0 (tk T i)=.error (placeOf (tk T i)):=fun hp=>by
   rw[Nz e _ hp];unfold yQ;rw[qX (by decide) h h1,jC h];rfl
  cases q:bQ t.1 with
  |name b=>
   have hb:=jX q;have e1:tk T i=(.name b,t.2)::tk T (i+1):=by rw[gJ h,q]
   rw[e1,Ny];have z:(if keys.contains b=true then none else meaning e b)=none:=by
    by_cases hk:kindS t.1="name"
    ·cases m:meaning e b with
     |none=>simp
     |some y=>exact absurd ⟨hk,by rw[hb,m];rfl⟩ h3
    ·rw[if_pos (rN hk q)]
   rw[z];rfl
  |num n=>exact absurd q (uz h2)
  |sign c=>exact els (by rw[gJ h,q];rfl)
  |bad=>exact els (by rw[gJ h,q];rfl)
  |ended=>exact els (by rw[gJ h,q];rfl)
 rw[acv key,jC h]
end
def xK(l:List (Bytes×Nat)):List (Key×V):=l.map fun x=>(Sum.inr (bT x.1),V.int (x.2:Int))
theorem uE(l:List (Bytes×Nat))(b:Bytes):lR (xK l) (Sum.inr (bT b))=(look l b).map fun (i:Nat)=>V.int (i:Int):=by
 induction l with
 |nil=>rfl
 |cons a r ih=>
  unfold lR look xK at ih ⊢;rw[map_cons,find?_cons,find?_cons];by_cases h:a.1=b
  ·rw[decide_eq_true (by show (Sum.inr (bT a.1):Key)=Sum.inr (bT b);rw[h])];simp[h]
  ·rw[decide_eq_false (by intro z;exact h (DQ (Sum.inr.inj z)))];have:(a.1==b)=false:=by simpa using h
   rw[this];exact ih
theorem N6{l:List (Bytes×Nat)}{b:Bytes}(h:look l b=none)(i:Nat):putK (xK l) (Sum.inr (bT b)) (V.int (i:Int))=xK (l++[(b,i)]):=by
 have hv:lR (xK l) (Sum.inr (bT b))=none:=by rw[uE,h];rfl
 rw[Te _ hv];unfold xK;rw[map_append];rfl
def qu(cs:Cs):Sp:=fun vs H Q _=>∃(b:Addr)(x:Bytes)(A:d8)(p:Nat)(B:Bk),vs=[.ref b,.str (bT x)]∧aV cs H b A p B∧look B.names x=none∧B.ls=[]∧B.people.length<50000 ∧
 ∀H',aV cs H' b A p { B with people:=B.people++[x] }→Kp [A.pa,A.ma] H H'→Q .non H'
def Hv(cs:Cs):Sp:=fun vs H Q _=>∃(b:Addr)(x:Bytes)(i:Nat)(A:d8)(p:Nat)(B:Bk),vs=[.ref b,.str (bT x),.int i]∧aV cs H b A p B∧look B.names x=none∧B.names.length<50000 ∧
 ∀H',aV cs H' b A p { B with ls:=B.ls++[(x,i)] }→Kp [A.la,A.ma] H H'→Q .non H'
section
variable{P:Program}{w:World}{K:PySem.W.Frag}{mg:Str→Option Value}{base:Heap}{cs:Cs}
theorem Bo:aH ["self","name"] ["self","name"] (au gQ):=⟨rfl,rfl,rfl,by decide +kernel,rfl,by decide +kernel,by decide +kernel⟩
theorem Bp(T:gB K cs.boo "add_person" "Book.add_person" gQ)(gR:Cls K cs.boo)(naB:cG K cs.boo ["prime","people","nodes","lets","names"])(hlen:mg "len"=none) :
  bw P w K mg base 1 cs.boo "add_person" ["self","name"] (qu cs):=by
 obtain⟨f,fd,F,M⟩:=T.ex;refine⟨f,fd,M,F.binds (fun _ _ _ _ _ _ us hl=>match us,hl with | [_,_],_=>rfl),okN F Bo (fun vs H Q E h=>?_) (fun cdv A outer s H vs Q E hr h=>?_)⟩
 ·obtain⟨b,x,A,p,B,rfl,_⟩:=h;rfl
 ·obtain⟨b,x,Ad,p,B,rfl,R,hx,hls,hsm,kq⟩:=h;obtain⟨dx,ob⟩:=R.ob;refine⟨_,aq (Dt (yG hr) (aM (pv 0) rfl) (pv 1) (aQ aO (by rfl) hlen PySem.boot_len (ak (aM (pv 0) rfl) aA)) rfl)
   (aC (aN (kY plainAttrs_list PySem.F.slot_list_append PySem.F.type_list_append cZ (aM (pv 0) rfl) (ak (pv 1) aA)))),?_⟩
  have hlen':(xK B.names).length<sizeLine:=by
   show (List.map _ _).length<_;rw[length_map];unfold Bk.names;rw[hls,append_nil,List.length_zipIdx];exact lt_trans (by omega) bM
  refine⟨_,rfl,b,cs.boo,dx,_,_,rfl,ob,gR,naB _ (by simp),fW _ _ _ _ _,_,_,rfl,.inl (bJ.of R.people),?_⟩;refine⟨_,rfl,b,cs.boo,dx,_,_,rfl,ob,gR,naB _ (by simp),kE _ _ _ _ _,_,rfl,Ad.ma,_,rfl,J8.k (k:=Sum.inr (bT x)) R.names hlen',?_⟩;have obm:b≠Ad.ma:=iW ob R.names (by intro z;cases z);have pam:Ad.pa≠Ad.ma:=fun z=>Hg R.names R.people z.symm;refine⟨_,rfl,b,cs.boo,dx,_,_,rfl,by rw[aj obm];exact ob,gR,naB _ (by simp),fW _ _ _ _ _,.inl ⟨rfl,_,bJ.of (by rw[aj pam];exact R.people)⟩,_,rfl,Ad.pa,_,_,rfl,rfl,by rw[aj pam];exact R.people,?_,?_⟩
  ·rw[length_map];exact lt_trans (by omega) bM
  have kk:Kp [Ad.pa,Ad.ma] H (upd (upd H Ad.ma (.dK (putK (xK B.names) (Sum.inr (bT x)) (V.int ((B.people.map fun x=>V.str (bT x)).length:Int))))) Ad.pa (.lst ((B.people.map fun x=>V.str (bT x))++[V.str (bT x)]))):=
   (Kp.refl.upd (.inl (by simp))).upd (.inl (by simp))
  have nd:=R.nd;have nin:∀y∈Ad.na::Ad.la::Ad.oA.map (·.2),y∉[Ad.pa,Ad.ma]:=fun y hy z=>by
   simp only[mem_cons,not_mem_nil,or_false]at z;rcases z with rfl|rfl
   ·unfold d8.lists at nd;exact(nodup_cons.mp nd).1 hy
   ·obtain⟨xs,e⟩:=R.zp (x:=Ad.ma) (by unfold d8.lists;exact mem_cons_of_mem _ hy);rw[R.names]at e;cases e
  refine kq _ ⟨⟨dx,kk _ _ ob ?_⟩,?_,kk _ _ R.nodes (nin _ (by simp)),kk _ _ R.lets (nin _ (by simp)),?_,R.len,fun j y n e1 e2=>?_,R.nd⟩ kk
  ·simp only[mem_cons,not_mem_nil,or_false,not_or];exact⟨dY ob R.people,obm⟩
  ·show upd _ _ _ Ad.pa=_;rw[ao,map_append];rfl
  ·show upd _ _ _ Ad.ma=_;rw[aj pam.symm,ao,length_map];show some (HO.dK (putK (xK B.names) (Sum.inr (bT x)) (V.int (B.people.length:Int))))=some (HO.dK (xK (Bk.names _)));rw[N6 hx];show some (HO.dK (xK (B.people.zipIdx++B.ls++[(x,B.people.length)])))=some (HO.dK (xK ((B.people++[x]).zipIdx++B.ls)));rw[hls,List.zipIdx_append,append_nil,append_nil];simp
  ·obtain⟨⟨dy,n1⟩,n2⟩:=R.at_ j y n e1 e2;refine⟨⟨dy,kk _ _ n1 ?_⟩,kk _ _ n2 (nin _ ?_)⟩
   ·simp only[mem_cons,not_mem_nil,or_false,not_or];exact⟨dY n1 R.people,iW n1 R.names (by intro z;cases z)⟩
   ·have:y.2∈Ad.oA.map (·.2):=mem_map.mpr ⟨y,mem_of_getElem? e1,rfl⟩;simp[this]
theorem KD:aH ["self","name","formula"] ["self","name","formula"] (au jJ):=⟨rfl,rfl,rfl,by decide +kernel,rfl,by decide +kernel,by decide +kernel⟩
theorem KH(T:gB K cs.boo "add_let" "Book.add_let" jJ)(gR:Cls K cs.boo)(naB:cG K cs.boo ["prime","people","nodes","lets","names"]) :
  bw P w K mg base 1 cs.boo "add_let" ["self","name","formula"] (Hv cs):=by
 obtain⟨f,fd,F,M⟩:=T.ex;refine⟨f,fd,M,F.binds (fun _ _ _ _ _ _ us hl=>match us,hl with | [_,_,_],_=>rfl),okN F KD (fun vs H Q E h=>?_) (fun cdv A outer s H vs Q E hr h=>?_)⟩
 ·obtain⟨b,x,i,A,p,B,rfl,_⟩:=h;rfl
 ·obtain⟨b,x,i,Ad,p,B,rfl,R,hx,hsm,kq⟩:=h;obtain⟨dx,ob⟩:=R.ob;refine⟨_,aq (Dt (yG hr) (aM (pv 0) rfl) (pv 1) (pv 2) rfl)
   (aC (aN (kY plainAttrs_list PySem.F.slot_list_append PySem.F.type_list_append cZ (aM (pv 0) rfl) (ak (pv 2) aA)))),?_⟩
  have hll:B.ls.length≤B.names.length:=by unfold Bk.names;rw[length_append];omega
  have hlen':(xK B.names).length<sizeLine:=by
   show (List.map _ _).length<_;rw[length_map];exact lt_trans (by omega) bM
  refine⟨_,rfl,_,rfl,b,cs.boo,dx,_,_,rfl,ob,gR,naB _ (by simp),kE _ _ _ _ _,_,rfl,Ad.ma,_,rfl,J8.k (k:=Sum.inr (bT x)) R.names hlen',?_⟩;have obm:b≠Ad.ma:=iW ob R.names (by intro z;cases z);have lam:Ad.la≠Ad.ma:=fun z=>Hg R.names R.lets z.symm;refine⟨_,rfl,b,cs.boo,dx,_,_,rfl,by rw[aj obm];exact ob,gR,naB _ (by simp),qm _ _ _ _ _,.inl ⟨rfl,_,bJ.of (by rw[aj lam];exact R.lets)⟩,_,rfl,Ad.la,_,_,rfl,rfl,by rw[aj lam];exact R.lets,?_,?_⟩
  ·rw[aK,length_map];exact lt_trans (by omega) bM
  have kk:Kp [Ad.la,Ad.ma] H (upd (upd H Ad.ma (.dK (putK (xK B.names) (Sum.inr (bT x)) (V.int (i:Int))))) Ad.la (.lst (nV (B.ls.map (·.2))++[V.int (i:Int)]))):=
   (Kp.refl.upd (.inl (by simp))).upd (.inl (by simp))
  have nd:=R.nd;have nin:∀y∈Ad.pa::Ad.na::Ad.oA.map (·.2),y∉[Ad.la,Ad.ma]:=fun y hy z=>by
   simp only[mem_cons,not_mem_nil,or_false]at z;rcases z with rfl|rfl
   ·unfold d8.lists at nd;simp only[nodup_cons,mem_cons,not_or]at nd hy;rcases hy with e|e|e
    ·exact nd.1.2.1 e.symm
    ·exact nd.2.1.1 e.symm
    ·exact nd.2.2.1 e
   ·obtain⟨xs,e⟩:=R.zp (x:=Ad.ma) (by
     unfold d8.lists;simp only[mem_cons]at hy ⊢;rcases hy with e|e|e
     ·exact .inl e
     ·exact .inr (.inl e)
     ·exact .inr (.inr (.inr e)))
    rw[R.names]at e;cases e
  refine kq _ ⟨⟨dx,kk _ _ ob ?_⟩,kk _ _ R.people (nin _ (by simp)),kk _ _ R.nodes (nin _ (by simp)),?_,?_,R.len,fun j y n e1 e2=>?_,R.nd⟩ kk
  ·simp only[mem_cons,not_mem_nil,or_false,not_or];exact⟨dY ob R.lets,obm⟩
  ·show upd _ _ _ Ad.la=_;rw[ao,map_append];show some (HO.lst (nV (B.ls.map (·.2))++[V.int (i:Int)]))=some (HO.lst (nV (B.ls.map (·.2)++[i])));rw[iG]
  ·show upd _ _ _ Ad.ma=_;rw[aj lam.symm,ao];show some (HO.dK (putK (xK B.names) (Sum.inr (bT x)) (V.int (i:Int))))=some (HO.dK (xK (B.people.zipIdx++(B.ls++[(x,i)]))));rw[N6 hx];unfold Bk.names;rw[append_assoc]
  ·obtain⟨⟨dy,n1⟩,n2⟩:=R.at_ j y n e1 e2;refine⟨⟨dy,kk _ _ n1 ?_⟩,kk _ _ n2 (nin _ ?_)⟩
   ·simp only[mem_cons,not_mem_nil,or_false,not_or];exact⟨dY n1 R.lets,iW n1 R.names (by intro z;cases z)⟩
   ·have:y.2∈Ad.oA.map (·.2):=mem_map.mpr ⟨y,mem_of_getElem? e1,rfl⟩;simp[this]
end
theorem Kp.into{G F:List Addr}{H0 H H':Hp}(k0:Kp G H0 H)(k:Kp F H H')(h:∀x∈F,x∈G∨H0 x=none):Kp G H0 H':=fun c o q n=>
 k c o (k0 c o q n) fun z=>(h c z).elim n fun e=>by rw[q]at e;cases e
theorem jB.keep{cs:Cs}{H H':Hp}{a:fD}{F:aD}{Fs:List Addr}(R:jB cs H a F)(k:Kp Fs H H')(h1:a.ob∉Fs)(h2:∀x∈a.lists,x∉Fs):jB cs H' a F:=by
 obtain⟨dx,ob⟩:=R.ob;exact⟨⟨dx,k _ _ ob h1⟩,k _ _ R.fs (h2 _ (by simp[fD.lists])),k _ _ R.bs (h2 _ (by simp[fD.lists])),k _ _ R.ps (h2 _ (by simp[fD.lists]))⟩
def obs(dF:List fD):List Addr:=dF.map fD.ob
def pq(dF:List fD):List Addr:=dF.flatMap fD.lists
theorem bx(a:fD)(r:List fD):pq (a::r)=a.lists++pq r:=flatMap_cons
theorem lC{cs:Cs}{H H':Hp}{Fs:List Addr}(k:Kp Fs H H'):∀{dF:List fD}{st:List aD},Paired (jB cs H) dF st→(∀x∈Fs,x∉obs dF∧x∉pq dF)→Paired (jB cs H') dF st
 |_,_,.nil,_=>.nil
 |a::dF,F::st,.cons r t,h=>.cons (r.keep k (fun z=>(h _ z).1 (by simp[obs])) fun x hx z=>(h _ z).2 (by rw[bx];exact mem_append_left _ hx))
   (lC k t fun x hx=>⟨fun z=>(h x hx).1 (by simp only[obs,map_cons,mem_cons];exact .inr z),fun z=>(h x hx).2 (by rw[bx];exact mem_append_right _ z)⟩)
theorem zF{cs:Cs}{H:Hp}:∀{dF:List fD}{st:List aD},Paired (jB cs H) dF st→∀x∈obs dF,∃dx fs,H x=some (.ins cs.dJ dx fs)
 |_,_,.nil,x,hx=>by simp[obs]at hx
 |a::dF,F::st,.cons r t,x,hx=>by
  simp only[obs,map_cons,mem_cons]at hx;rcases hx with rfl|hx
  ·obtain⟨dx,ob⟩:=r.ob;exact⟨dx,_,ob⟩
  ·exact zF t x hx
theorem uF{cs:Cs}{H:Hp}:∀{dF:List fD}{st:List aD},Paired (jB cs H) dF st→∀x∈pq dF,∃xs,H x=some (.lst xs)
 |_,_,.nil,x,hx=>by simp[pq]at hx
 |a::dF,F::st,.cons r t,x,hx=>by
  rw[bx]at hx;rcases mem_append.mp hx with hx|hx
  ·simp only[fD.lists,mem_cons,not_mem_nil,or_false]at hx;rcases hx with rfl|rfl|rfl
   ·exact⟨_,r.fs⟩
   ·exact⟨_,r.bs⟩
   ·exact⟨_,r.ps⟩
  ·exact uF t x hx
structure Brs(cs:Cs)(H:Hp)(bl:Addr)(lo:List Addr)(dF:List fD)(st:List aD)(A:d8):Prop where
 lst:H bl=some (.lst (lo.map V.ref))
 at_:Paired (jB cs H) dF st
 nd:(bl::pq dF).Nodup
 ap:∀x∈bl::pq dF,x∉A.lists
 ob:(obs dF).Nodup
structure jY(cs:Cs)(H0 H:Hp)(r lt:Addr)(as:List Addr)(T:List PT)(i:Nat)(b:Addr)(A:d8)(p:Nat)(B:Bk)(ns:List aG)(bl:Addr)(lo:List Addr)(dF:List fD)(st:List aD):Prop where
 tk0:sV cs H0 lt as T
 r0:∃dx j,H0 r=some (.ins cs.cD dx (JK lt j))
 XD:∃xs,H0 A.na=some (.lst xs)
 Hw:lt≠A.na
 ob:∃dx,H r=some (.ins cs.cD dx (JK lt (i:Int)))
 bk:aV cs H b A p { B with ns:=ns }
 br:Brs cs H bl lo dF st A
 kp:Kp [r,A.na] H0 H
 fr:∀x,x=bl∨x∈obs dF∨x∈pq dF→H0 x=none
section
variable{cs:Cs}{H0 H H' H1:Hp}{r lt b bl x:Addr}{as lo lo':List Addr}{T:List PT}{i:Nat}{A A':d8}{p:Nat}{B:Bk}{ns ns':List aG}{dF:List fD}{st:List aD}{a a':fD}{F F':aD}
theorem jY.rd(S:jY cs H0 H r lt as T i b A p B ns bl lo dF st):bO cs H r lt as T i:=by
 obtain⟨dx,j,hr⟩:=S.r0;obtain⟨xs,hn⟩:=S.XD;refine⟨S.ob,S.kp _ _ S.tk0.lst ?_,S.tk0.len,fun k c t h1 h2=>?_⟩
 ·simp only[mem_cons,not_mem_nil,or_false,not_or];exact⟨(dY hr S.tk0.lst).symm,S.Hw⟩
 ·obtain⟨dy,hc⟩:=S.tk0.at_ k c t h1 h2;refine⟨dy,S.kp _ _ hc ?_⟩;simp only[mem_cons,not_mem_nil,or_false,not_or];refine⟨iW hc hr ?_,dY hc hn⟩;intro z;injection z with _ _ z
  exact absurd (congrArg List.length z) (by show ¬3=2;decide)
theorem jY.Uh(S:jY cs H0 H r lt as T i b A p B ns bl lo dF st)(h:H x=none):H0 x=none:=by
 obtain⟨dx,ob⟩:=S.ob;refine S.kp.free (fun y hy=>?_) h;simp only[mem_cons,not_mem_nil,or_false]at hy;rcases hy with rfl|rfl
 ·rw[ob];simp
 ·rw[S.bk.nodes];simp
theorem jY.rne(S:jY cs H0 H r lt as T i b A p B ns bl lo dF st)(h:H0 x=none):x≠r:=fun z=>by
 obtain⟨dx,j,hr⟩:=S.r0;rw[z,hr]at h;cases h
theorem jY.moved(co:ux cs)(S:jY cs H0 H r lt as T i b A p B ns bl lo dF st)(R:bO cs H' r lt as T (i+1))(k:Kp [r] H H'):jY cs H0 H' r lt as T (i+1) b A p B ns bl lo dF st:=by
 obtain⟨dx,ob⟩:=S.ob;have nr:∀x,x=bl∨x∈obs dF∨x∈pq dF→x≠r:=fun x hx=>S.rne (S.fr x hx);refine⟨S.tk0,S.r0,S.XD,S.Hw,R.ob,S.bk.keep k fun x hx=>?_,⟨k _ _ S.br.lst (by simpa using nr bl (.inl rfl)),lC k S.br.at_ fun x hx=>?_,S.br.nd,S.br.ap,S.br.ob⟩,S.kp.into k fun x hx=>?_,S.fr⟩
 ·simp only[mem_cons,not_mem_nil,or_false]at hx;subst hx;exact .inr ⟨_,_,_,ob,co.rb,co.rn⟩
 ·simp only[mem_cons,not_mem_nil,or_false]at hx;subst hx;exact⟨fun z=>nr _ (.inr (.inl z)) rfl,fun z=>nr _ (.inr (.inr z)) rfl⟩
 ·simp only[mem_cons,not_mem_nil,or_false]at hx;exact .inl (by simp[hx])
theorem jY.Ui(S:jY cs H0 H r lt as T i b A p B ns bl lo dF st)(lo':List Addr):jY cs H0 (upd H bl (.lst (lo'.map V.ref))) r lt as T i b A p B ns bl lo' dF st:=by
 obtain⟨dx,ob⟩:=S.ob;have k:Kp [bl] H (upd H bl (.lst (lo'.map V.ref))):=Kp.refl.upd (.inl (by simp));have nd:=S.br.nd;refine⟨S.tk0,S.r0,S.XD,S.Hw,⟨dx,k _ _ ob (by simpa using dY ob S.br.lst)⟩,S.bk.keep k fun x hx=>?_,⟨ao,lC k S.br.at_ fun x hx=>?_,S.br.nd,S.br.ap,S.br.ob⟩,S.kp.into k fun x hx=>?_,S.fr⟩
 ·simp only[mem_cons,not_mem_nil,or_false]at hx;subst hx;exact .inl ⟨_,S.br.lst,S.br.ap _ (by simp)⟩
 ·simp only[mem_cons,not_mem_nil,or_false]at hx;subst hx;refine⟨fun z=>?_,(nodup_cons.mp nd).1⟩;obtain⟨dy,fs,e⟩:=zF S.br.at_ _ z;rw[S.br.lst]at e;cases e
 ·simp only[mem_cons,not_mem_nil,or_false]at hx;subst hx;exact .inr (S.fr _ (.inl rfl))
theorem jY.same(S:jY cs H0 H r lt as T i b A p B ns bl lo dF st)(s:Same H H1):jY cs H0 H1 r lt as T i b A p B ns bl lo dF st:=by
 obtain⟨dx,ob⟩:=S.ob;exact⟨S.tk0,S.r0,S.XD,S.Hw,⟨dx,s _ _ ob⟩,S.bk.keep (Kp.same s []) (fun x hx=>by simp at hx),⟨s _ _ S.br.lst,lC (Kp.same s []) S.br.at_ (fun x hx=>by simp at hx),S.br.nd,S.br.ap,S.br.ob⟩,
  S.kp.trans (Kp.same s _),S.fr⟩
theorem jY.add(S:jY cs H0 H r lt as T i b A p B ns bl lo dF st)(s:Same H H1)(br:jB cs H1 a F)(h1:H a.ob=none)(h2:∀x∈a.lists,H x=none)(nd:a.lists.Nodup):jY cs H0 H1 r lt as T i b A p B ns bl lo (a::dF) (F::st):=by
 have S1:=S.same s;have out:∀x∈a.lists,x∉bl::pq dF:=fun x hx z=>by
  rcases mem_cons.mp z with rfl|z
  ·have:=h2 _ hx;rw[S.br.lst]at this;cases this
  ·obtain⟨xs,e⟩:=uF S.br.at_ _ z;have:=h2 _ hx;rw[e]at this;cases this
 refine⟨S1.tk0,S1.r0,S1.XD,S1.Hw,S1.ob,S1.bk,⟨S1.br.lst,.cons br S1.br.at_,?_,fun x hx=>?_,?_⟩,S1.kp,fun x hx=>?_⟩
 ·rw[bx];have h:=S.br.nd;rw[nodup_cons]at h ⊢;refine⟨fun z=>?_,?_⟩
  ·rcases mem_append.mp z with z|z
   ·exact out _ z mem_cons_self
   ·exact h.1 z
  ·rw[nodup_append];exact⟨nd,h.2,fun x hx y hy e=>out x hx (by rw[e];exact mem_cons_of_mem _ hy)⟩
 ·rw[bx]at hx;rcases mem_cons.mp hx with rfl|hx
  ·exact S.br.ap _ mem_cons_self
  ·rcases mem_append.mp hx with hx|hx
   ·intro z;obtain⟨xs,e⟩:=S.bk.zp z;rw[h2 _ hx]at e;cases e
   ·exact S.br.ap _ (mem_cons_of_mem _ hx)
 ·show (a.ob::obs dF).Nodup;rw[nodup_cons];refine⟨fun z=>?_,S.br.ob⟩;obtain⟨dy,fs,e⟩:=zF S.br.at_ _ z;rw[h1]at e;cases e
 ·rcases hx with rfl|hx|hx
  ·exact S.fr _ (.inl rfl)
  ·simp only[obs,map_cons,mem_cons]at hx;rcases hx with rfl|hx
   ·exact S.Uh h1
   ·exact S.fr _ (.inr (.inl hx))
  ·rw[bx]at hx;rcases mem_append.mp hx with hx|hx
   ·exact S.Uh (h2 _ hx)
   ·exact S.fr _ (.inr (.inr hx))
theorem jY.head(S:jY cs H0 H r lt as T i b A p B ns bl lo (a::dF) (F::st)):jB cs H a F∧Paired (jB cs H) dF st:=by
 cases S.br.at_ with
 |cons x y=>exact⟨x,y⟩
theorem jY.facts(S:jY cs H0 H r lt as T i b A p B ns bl lo (a::dF) (F::st)):a.lists.Nodup∧(∀x∈a.lists,x∉A.lists∧x≠bl∧x∉pq dF∧x∉obs dF∧x≠a.ob)∧bl∉pq dF∧a.ob∉obs dF∧a.ob∉pq dF∧a.ob≠bl:=by
 have nd:=S.br.nd;rw[bx,nodup_cons,nodup_append]at nd;obtain⟨n1,n2,n3,n4⟩:=nd;have nob:=S.br.ob;rw[show obs (a::dF)=a.ob::obs dF from rfl,nodup_cons]at nob;obtain⟨hd,tl⟩:=S.head;obtain⟨dx,ob⟩:=hd.ob;have lsx:∀x∈a.lists,∃xs,H x=some (.lst xs):=fun x hx=>uF S.br.at_ x (by rw[bx];exact mem_append_left _ hx);refine⟨n2,fun x hx=>⟨S.br.ap x (mem_cons_of_mem _ (by rw[bx];exact mem_append_left _ hx)),fun z=>n1 (by rw[←z];exact mem_append_left _ hx),fun z=>n4 x hx x z rfl,fun z=>?_,fun z=>?_⟩,fun z=>n1 (mem_append_right _ z),nob.1,fun z=>?_,dY ob S.br.lst⟩
 ·obtain⟨xs,e⟩:=lsx x hx;obtain⟨dy,fs,e2⟩:=zF tl _ z;rw[e]at e2;cases e2
 ·obtain⟨xs,e⟩:=lsx x hx;rw[z,ob]at e;cases e
 ·obtain⟨xs,e⟩:=uF tl _ z;rw[ob]at e;cases e
theorem jY.YW(S:jY cs H0 H r lt as T i b A p B ns bl lo dF st):A.na≠bl∧A.na∉obs dF∧A.na∉pq dF:=by
 have hin:A.na∈A.lists:=by simp[d8.lists]
 refine⟨fun z=>S.br.ap bl mem_cons_self (by rw[←z];exact hin),fun z=>?_,fun z=>S.br.ap _ (mem_cons_of_mem _ z) hin⟩;obtain⟨dy,fs,e⟩:=zF S.br.at_ _ z;rw[S.bk.nodes]at e;cases e
theorem jY.swap{ws:List Addr}(S:jY cs H0 H r lt as T i b A p B ns bl lo (a::dF) (F::st))(ha:a'.ob=a.ob)(k:Kp [A.na,a.bl,a.fl,a.ob] H H')(br:jB cs H' a' F')(bk:aV cs H' b A' p { B with ns:=ns' })(g:lU H A A' ws)(hw:∀x∈ws,x∈a.lists)(hl:∀x∈a'.lists,(x∈a.lists∧x∉ws)∨H x=none)(nd:a'.lists.Nodup):jY cs H0 H' r lt as T i b A' p B ns' bl lo (a'::dF) (F'::st):=by
 obtain⟨dx,ob⟩:=S.ob;obtain⟨hd,tl⟩:=S.head;obtain⟨f1,f2,f3,f4,f5,f6⟩:=S.facts;obtain⟨m1,m2,m3⟩:=S.YW;have na':=g.na.1;have mfl:a.fl∈a.lists:=by simp[fD.lists]
 have mbl:a.bl∈a.lists:=by simp[fD.lists]
 have Fp:∀x∈[A.na,a.bl,a.fl,a.ob],x∈[r,A.na]∨H0 x=none:=fun x hx=>by
  simp only[mem_cons,not_mem_nil,or_false]at hx;rcases hx with rfl|rfl|rfl|rfl
  ·exact .inl (by simp)
  ·exact .inr (S.fr _ (.inr (.inr (by rw[bx];exact mem_append_left _ mbl))))
  ·exact .inr (S.fr _ (.inr (.inr (by rw[bx];exact mem_append_left _ mfl))))
  ·exact .inr (S.fr _ (.inr (.inl (by simp[obs]))))
 have afd:r∉[A.na,a.bl,a.fl,a.ob]:=fun hx=>by
  have h:=Fp r hx;obtain⟨dz,j,hr⟩:=S.r0;simp only[mem_cons,not_mem_nil,or_false]at hx;rcases hx with e|e|e|e
  ·exact dY ob S.bk.nodes e
  ·exact dY ob hd.bs e
  ·exact dY ob hd.fs e
  ·exact S.rne (S.fr a.ob (.inr (.inl (by simp[obs])))) e.symm
 have acN:bl∉[A.na,a.bl,a.fl,a.ob]:=by
  simp only[mem_cons,not_mem_nil,or_false,not_or];exact⟨m1.symm,(f2 _ mbl).2.1.symm,(f2 _ mfl).2.1.symm,f6.symm⟩
 have Uj:∀x,x∈bl::pq (a::dF)→H x≠none:=fun x hx=>by
  rcases mem_cons.mp hx with rfl|hx
  ·rw[S.br.lst];simp
  ·obtain⟨xs,e⟩:=uF S.br.at_ _ hx;rw[e];simp
 have tlk:Paired (jB cs H') dF st:=lC k tl fun x hx=>by
  simp only[mem_cons,not_mem_nil,or_false]at hx;rcases hx with rfl|rfl|rfl|rfl
  ·exact⟨fun z=>m2 (by simp only[obs,map_cons,mem_cons];exact .inr z),fun z=>m3 (by rw[bx];exact mem_append_right _ z)⟩
  ·exact⟨(f2 _ mbl).2.2.2.1,(f2 _ mbl).2.2.1⟩
  ·exact⟨(f2 _ mfl).2.2.2.1,(f2 _ mfl).2.2.1⟩
  ·exact⟨f4,f5⟩
 have aap:∀x∈A.lists,H x≠none:=fun x hx=>by obtain⟨xs,e⟩:=S.bk.zp hx;rw[e];simp
 refine⟨S.tk0,S.r0,by rw[na'];exact S.XD,by rw[na'];exact S.Hw,⟨dx,k _ _ ob afd⟩,bk,⟨k _ _ S.br.lst acN,.cons br tlk,?_,fun x hx=>?_,?_⟩,by rw[na'];exact S.kp.into k Fp,fun x hx=>?_⟩
 ·rw[bx,nodup_cons,nodup_append];have XF:=S.br.nd;rw[bx,nodup_cons,nodup_append]at XF;refine⟨fun z=>?_,nd,XF.2.2.1,fun x hx y hy e=>?_⟩
  ·rcases mem_append.mp z with z|z
   ·rcases hl _ z with⟨q,_⟩|q
    ·exact XF.1 (mem_append_left _ q)
    ·exact Uj bl mem_cons_self q
   ·exact XF.1 (mem_append_right _ z)
  ·subst e;rcases hl _ hx with⟨q,_⟩|q
   ·exact XF.2.2.2 x q x hy rfl
   ·exact Uj x (by rw[bx];exact mem_cons_of_mem _ (mem_append_right _ hy)) q
 ·rw[g.lists];intro z;rw[bx]at hx;have Uk:x=bl∨x∈a'.lists∨x∈pq dF:=by
   rcases mem_cons.mp hx with e|hx
   ·exact .inl e
   ·rcases mem_append.mp hx with q|q
    ·exact .inr (.inl q)
    ·exact .inr (.inr q)
  rcases mem_append.mp z with z|z
  ·rcases Uk with rfl|q|q
   ·exact S.br.ap _ mem_cons_self z
   ·rcases hl _ q with⟨q,_⟩|q
    ·exact(f2 _ q).1 z
    ·exact aap _ z q
   ·exact S.br.ap _ (by rw[bx];exact mem_cons_of_mem _ (mem_append_right _ q)) z
  ·have za:=hw _ z;rcases Uk with rfl|q|q
   ·exact(f2 _ za).2.1 rfl
   ·rcases hl _ q with⟨_,q⟩|q
    ·exact q z
    ·exact Uj _ (by rw[bx];exact mem_cons_of_mem _ (mem_append_left _ za)) q
   ·exact(f2 _ za).2.2.1 q
 ·show (a'.ob::obs dF).Nodup;rw[ha];exact S.br.ob
 ·rcases hx with rfl|hx|hx
  ·exact S.fr _ (.inl rfl)
  ·have:obs (a'::dF)=obs (a::dF):=by simp only[obs,map_cons,ha]
   rw[this]at hx;exact S.fr _ (.inr (.inl hx))
  ·rw[bx]at hx;rcases mem_append.mp hx with hx|hx
   ·rcases hl _ hx with⟨q,_⟩|q
    ·exact S.fr _ (.inr (.inr (by rw[bx];exact mem_append_left _ q)))
    ·exact S.Uh q
   ·exact S.fr _ (.inr (.inr (by rw[bx];exact mem_append_right _ hx)))
theorem jY.gone{ws:List Addr}(S:jY cs H0 H r lt as T i b A p B ns bl lo (a::dF) (F::st))(k:Kp [A.na] H H')(bk:aV cs H' b A' p { B with ns:=ns' })(g:lU H A A' ws)(hw:∀x∈ws,x=a.fl):jY cs H0 H' r lt as T i b A' p B ns' bl lo dF st:=by
 obtain⟨dx,ob⟩:=S.ob;obtain⟨hd,tl⟩:=S.head;obtain⟨f1,f2,f3,f4,f5,f6⟩:=S.facts;obtain⟨m1,m2,m3⟩:=S.YW;have na':=g.na.1;have mfl:a.fl∈a.lists:=by simp[fD.lists]
 have XF:=S.br.nd;rw[bx,nodup_cons,nodup_append]at XF;refine⟨S.tk0,S.r0,by rw[na'];exact S.XD,by rw[na'];exact S.Hw,⟨dx,k _ _ ob (by simpa using dY ob S.bk.nodes)⟩,bk,⟨k _ _ S.br.lst (by simpa using m1.symm),lC k tl fun x hx=>?_,?_,fun x hx=>?_,?_⟩,by rw[na'];exact S.kp.into k fun x hx=>.inl (by simp at hx;simp[hx]),fun x hx=>S.fr x ?_⟩
 ·simp only[mem_cons,not_mem_nil,or_false]at hx;subst hx;exact⟨fun z=>m2 (by simp only[obs,map_cons,mem_cons];exact .inr z),fun z=>m3 (by rw[bx];exact mem_append_right _ z)⟩
 ·exact nodup_cons.mpr ⟨fun z=>XF.1 (mem_append_right _ z),XF.2.2.1⟩
 ·rw[g.lists];intro z;have hx':x∈bl::pq (a::dF):=by
   rw[bx];rcases mem_cons.mp hx with rfl|hx
   ·exact mem_cons_self
   ·exact mem_cons_of_mem _ (mem_append_right _ hx)
  rcases mem_append.mp z with z|z
  ·exact S.br.ap _ hx' z
  ·have e:=hw _ z;subst e;rcases mem_cons.mp hx with e|hx
   ·exact(f2 _ mfl).2.1 e
   ·exact(f2 _ mfl).2.2.1 hx
 ·have:=S.br.ob;rw[show obs (a::dF)=a.ob::obs dF from rfl]at this;exact(nodup_cons.mp this).2
 ·rcases hx with hx|hx|hx
  ·exact .inl hx
  ·exact .inr (.inl (by simp only[obs,map_cons,mem_cons];exact .inr hx))
  ·exact .inr (.inr (by rw[bx];exact mem_append_right _ hx))
theorem jY.part(S:jY cs H0 H r lt as T i b A p B ns bl lo (a::dF) (F::st))(x:Nat):jY cs H0 (upd H a.pl (.lst (nV F.ps++[V.int (x:Int)]))) r lt as T i b A p B ns bl lo (a::dF) ({ F with ps:=F.ps++[x] }::st):=by
 obtain⟨dx,ob⟩:=S.ob;obtain⟨hd,tl⟩:=S.head;obtain⟨f1,f2,f3,f4,f5,f6⟩:=S.facts;obtain⟨dh,hob⟩:=hd.ob;have mpl:a.pl∈a.lists:=by simp[fD.lists]
 have k:Kp [a.pl] H (upd H a.pl (.lst (nV F.ps++[V.int (x:Int)]))):=Kp.refl.upd (.inl (by simp));unfold fD.lists at f1;simp only[nodup_cons,mem_cons,not_mem_nil,or_false,not_or]at f1;refine⟨S.tk0,S.r0,S.XD,S.Hw,⟨dx,k _ _ ob (by simpa using dY ob hd.ps)⟩,S.bk.keep k fun y hy=>?_,⟨k _ _ S.br.lst (by simpa using (f2 _ mpl).2.1.symm),.cons ⟨⟨dh,k _ _ hob (by simpa using dY hob hd.ps)⟩,k _ _ hd.fs (by simpa using f1.1.2),k _ _ hd.bs (by simpa using f1.2.1),?_⟩ (lC k tl fun y hy=>?_),S.br.nd,S.br.ap,S.br.ob⟩,S.kp.into k fun y hy=>?_,S.fr⟩
 ·simp only[mem_cons,not_mem_nil,or_false]at hy;subst hy;exact .inl ⟨_,hd.ps,(f2 _ mpl).1⟩
 ·rw[ao,iG]
 ·simp only[mem_cons,not_mem_nil,or_false]at hy;subst hy;exact⟨(f2 _ mpl).2.2.2.1,(f2 _ mpl).2.2.1⟩
 ·simp only[mem_cons,not_mem_nil,or_false]at hy;subst hy;exact .inr (S.fr _ (.inr (.inr (by rw[bx];exact mem_append_left _ mpl))))
structure Fw(ns:List aG)(st:List aD)(n:Nat):Prop where
 le:ns.length+(st.flatMap aD.all).length≤n
 wi:∀x∈ns,x.2.length≤50000
 dp:st.length≤n+1
theorem Fw.mono{n m:Nat}(f:Fw ns st n)(h:n≤m):Fw ns st m:=⟨le_trans f.le h,f.wi,le_trans f.dp (Nat.add_le_add_right h 1)⟩
theorem jY.pair{n:Nat}(S:jY cs H0 H r lt as T i b A p B ns bl lo (a::dF) (F::st))(f:Fw ns (F::st) n)(hn:n<50000):Pair cs H a F b A p { B with ns:=ns }:=by
 have h:=f.le;rw[flatMap_cons,length_append]at h;exact⟨S.head.1,S.bk,S.facts.1,fun x hx=>(S.facts.2.1 x hx).1,by omega,by show ns.length<50000;omega⟩
theorem jr(F:aD):F.all.length=F.fs.length+(F.bs.length+F.ps.length):=by unfold aD.all;rw[length_append,length_append]
theorem Cp{k:Nat}{w:List Nat}(h:∀x∈ns,x.2.length≤50000)(hw:w.length≤50000):∀x∈dM ns k w,x.2.length≤50000:=by
 unfold dM;split
 ·exact h
 ·intro x hx;rcases mem_append.mp hx with q|q
  ·exact h x q
  ·simp at q;subst q;exact hw
theorem Fw.part{n:Nat}(f:Fw ns (F::st) n)(x:Nat):Fw ns ({ F with ps:=F.ps++[x] }::st) (n+1):=by
 refine⟨?_,f.wi,le_succ_of_le f.dp⟩;have h:=f.le;rw[flatMap_cons,length_append,jr]at h ⊢;show ns.length+(F.fs.length+(F.bs.length+(F.ps++[x]).length)+_)≤_;rw[length_append,length_singleton];omega
theorem Fw.eb{n P:Nat}(f:Fw ns (F::st) n)(hp:F.ps≠[])(hn:n<50000):Fw (gW ns F) (dN P ns F::st) (n+1):=by
 have h:=f.le;have hl:=zq ns F;have hps:1≤F.ps.length:=by cases q:F.ps with
  |nil=>exact absurd q hp
  |cons a r=>simp
 rw[flatMap_cons,length_append,jr]at h;refine⟨?_,Cp f.wi (by omega),le_succ_of_le f.dp⟩;rw[flatMap_cons,length_append,jr];show (gW ns F).length+(F.fs.length+((F.bs++[fU P ns F.ps]).length+0)+_)≤_;rw[length_append,length_singleton];omega
theorem Fw.ef{n P:Nat}(f:Fw ns (F::st) n)(hp:F.ps≠[])(hn:n<49999):Fw (cC P ns F) (bV P ns F::st) (n+2):=by
 have f1:=f.eb (P:=P) hp (by omega);have h:=f.le;have hl:=T6 P ns F;have hps:1≤F.ps.length:=by cases q:F.ps with
  |nil=>exact absurd q hp
  |cons a r=>simp
 rw[flatMap_cons,length_append,jr]at h;refine⟨?_,Cp f1.wi ?_,le_trans f.dp (by omega)⟩
 ·rw[flatMap_cons,length_append,jr];show (cC P ns F).length+((F.fs++[nF P ns F]).length+(0+0)+_)≤_;rw[length_append,length_singleton];omega
 ·show (F.bs++[fU P ns F.ps]).length≤_;rw[length_append,length_singleton];omega
theorem Fw.cl{n P:Nat}{G:aD}(f:Fw ns (F::G::st) n)(h1:1≤F.fs.length)(hn:n<50000):Fw (qt ns F) ({ G with ps:=G.ps++[x] }::st) (n+1):=by
 have h:=f.le;rw[flatMap_cons,flatMap_cons,length_append,length_append,jr,jr]at h;have hc:(qt ns F).length≤ns.length+1:=by
  unfold qt;split
  ·omega
  ·simp
 have hdp:(G::st).length+1≤n+1:=f.dp;refine⟨?_,?_,by show (G::st).length≤_;omega⟩
 ·rw[flatMap_cons,length_append,jr];show (qt ns F).length+(G.fs.length+(G.bs.length+(G.ps++[x]).length)+_)≤_;rw[length_append,length_singleton];omega
 ·unfold qt;split
  ·exact f.wi
  ·intro y hy;rcases mem_append.mp hy with q|q
   ·exact f.wi y q
   ·simp at q;subst q;show F.fs.length≤50000;omega
end
end Pg
namespace Pg
open PySem L2 Xc Sp
def N7:Sp:=fun vs H Q _=>∃n:Nat,vs=[.int n]∧n≤99999∧∀H',Same H H'→Q (.bl (decide (n≤251)&&Rb35.prime n)) H'
def divs(n i:Nat):List Bool:=(List.range i).map fun (d:Nat)=>!decide (V.int ((n:Int)%(2+(d:Int)))=V.int 0)
theorem QC(n i:Nat):divs n (i+1)=divs n i++[!decide (V.int ((n:Int)%(2+(i:Int)))=V.int 0)]:=by
 unfold divs;rw[range_succ,map_append];rfl
theorem iI(a b:Int):decide (V.int a=V.int b)=decide (a=b):=by
 by_cases h:a=b
 ·subst h;simp
 ·rw[decide_eq_false h,decide_eq_false fun z=>h (by injection z)]
theorem KJ(n:Nat)(h:2≤n):(divs n (n-2)).all id=Rb35.prime n:=by
 unfold divs Rb35.prime;rw[decide_eq_true h,Bool.true_and,Bool.eq_iff_iff,all_eq_true,all_eq_true];constructor
 ·intro hh d hd;rw[mem_range]at hd;by_cases h2:d<2
  ·simp[h2]
  ·have:=hh _ (mem_map.mpr ⟨d-2,mem_range.mpr (by omega),rfl⟩);rw[iI]at this;have e:(2+((d-2:Nat):Int))=(d:Int):=by omega
   rw[e]at this;simp only[id,not_eq_true',decide_eq_false_iff_not]at this;have h3:¬n%d=0:=fun z=>this (by omega);simp[h3]
 ·intro hh x hx;obtain⟨d,hd,rfl⟩:=mem_map.mp hx;rw[mem_range]at hd;have:=hh (d+2) (mem_range.mpr (by omega));rw[iI];have h2:¬d+2<2:=by omega
  simp only[h2,decide_false,Bool.false_or,bne_iff_ne,ne_eq]at this;have e:(2+(d:Int))=((d+2:Nat):Int):=by omega
  rw[e];simp only[id,not_eq_true',decide_eq_false_iff_not];exact fun z=>this (by omega)
section
variable{P:Program}{w:World}{K:PySem.W.Frag}{mg:Str→Option Value}{base:Heap}{cs:Cs}
theorem zG:aH ["number","factor"] ["number"] (au mF):=⟨rfl,rfl,rfl,by decide +kernel,rfl,by decide +kernel,by decide +kernel⟩
theorem Ul(T:bL K mg "is_field" mF)(hG:∃t,mg "GREATEST_PRIME"=some (.int 251 t))(hall:mg "all"=none)(zH:mg "range"=none):aX P w K mg base 2 "is_field" ["number"] N7:=by
 obtain⟨f,fd,F,hm⟩:=T.ex;obtain⟨tg,hG⟩:=hG;refine⟨f,fd,hm,F.kp,F.binds (fun _ _ _ _ _ _ us hl=>match us,hl with | [_],_=>rfl),okN (k:=1) F zG (fun vs H Q E h=>?_) (fun cdv A outer s H vs Q E hr h=>?_)⟩
 ·obtain⟨n,rfl,_⟩:=h;rfl
 ·obtain⟨n,rfl,hn,kq⟩:=h;refine⟨_,aq (dW (Fv (aU Bv (pv 0) aR (bf _)) (xX (aU tZ (pv 0) (bh (v:=.int 251) (by rfl) hG ⟨tg,rfl⟩) (bf _)))).pt (aC (aZ Ft)) bW)
   (aC (aZ (aQ (ZM rfl) (by rfl) hall PyProof.Rows.boot_all (ak (lY rfl zG.nd (PN rfl zH (ak aR (ak (pv 0) aA))) (cU (own:=[("factor",1)]) (by show pN ["number","factor"] (au mF) _ [("factor",1)]=true;decide +kernel))
    (fun _ _ _ _ _=>bU (i:=1) zG.nd rfl (Or.inl rfl)) (fun _ _ _ _ _=>gb) (fun _ _ _ _ _=>eN yd (fj Dj (pv 0) (pv 1)) aR (bf _))) aA)))),?_⟩
  have rest:2≤n→n≤251→∀(D:Addr),H D=none→Q (.bl ((divs n (n-2)).all id)) (upd H D (.lst ((divs n (n-2)).map V.bl))):=fun h1 h2 D hD=>by
   rw[KJ n h1];have:=kq (upd H D (.lst ((divs n (n-2)).map V.bl))) fun c o q=>by rw[aj (aB q hD)];exact q
   rwa[decide_eq_true h2,Bool.true_and]at this
  have no:¬(2≤n∧n≤251)→Q (.bl false) H:=fun hh=>by
   have:=kq H (Same.refl H);have e:(decide (n≤251)&&Rb35.prime n)=false:=by
    by_cases h1:n≤251
    ·have h2:¬2≤n:=fun z=>hh ⟨z,h1⟩;unfold Rb35.prime;rw[decide_eq_false h2];simp
    ·rw[decide_eq_false h1];rfl
   rwa[e]at this
  refine⟨_,rfl,_,_,rfl,rfl,_,rfl,bY (fun hc=>?_) fun hc=>?_⟩
  ·refine Gx ?_;have h1:=of_decide_eq_true hc;exact no fun z=>by omega
  ·have h1:¬(n:Int)<2:=fun z=>hc (decide_eq_true z);refine⟨_,rfl,_,_,rfl,rfl,_,rfl,bY (fun hc2=>?_) fun hc2=>?_⟩
   ·have h2:=of_decide_eq_true hc2;exact no fun z=>by omega
   ·have h2:¬(251:Int)<(n:Int):=fun z=>hc2 (decide_eq_true z);refine⟨_,rfl,2,(n:Int),rfl,⟨by decide,by decide,by omega,by omega⟩,fun D hD=>?_⟩;have en:((n:Int)-2).toNat=n-2:=by omega
    refine Gi (fun i H'=>H'=upd H D (.lst ((divs n i).map V.bl))) rfl ?_ ?_
    ·rintro i H' hi rfl;refine⟨rfl,?_⟩;refine⟨_,rfl,_,rfl,_,_,rfl,rfl,(by show (0:Int)<2+(i:Int);omega),rfl,?_⟩;refine⟨_,ao,?_,?_⟩
     ·rw[length_map];unfold divs;rw[length_map,length_range];exact lt_trans (show i<100000 by omega) bM
     ·rw[gM,QC,map_append];rfl
    ·rintro H' rfl;rw[en];exact⟨D,_,rfl,bJ.of ao,rest (by omega) (by omega) D hD⟩
end
end Pg
namespace Pg
open PySem L2 Xc Sp Rb35
theorem val_eq:∀(l:List Nat)(a:Nat),l.foldl (fun acc c=>acc*10+(c-48)) a=l.foldl (fun (n c:Nat)=>10*n+(c-48)) a
 | [],_=>rfl
 |c::r,a=>by
  rw[foldl_cons,foldl_cons,val_eq r,mul_comm]
theorem Um:∀(l:List Nat)(a:Nat),(∀c∈l,isDigit c=true)→l.foldl (fun (n c:Nat)=>10*n+(c-48)) a<(a+1)*10^l.length
 | [],a,_=>by simp
 |c::r,a,h=>by
  rw[foldl_cons];have h1:=Um r (10*a+(c-48)) fun x hx=>h x (mem_cons_of_mem _ hx);have h2:=h c mem_cons_self;simp[isDigit]at h2;refine lt_of_lt_of_le h1 ?_;rw[length_cons,Nat.pow_succ,mul_comm (10^r.length) 10,←Nat.mul_assoc];exact Nat.mul_le_mul_right _ (by omega)
theorem Uo{l:List Nat}(h:∀c∈l,isDigit c=true)(hl:l.length≤5):valueOf l≤99999:=by
 have:=Um l 0 h;have h2:10^l.length≤10^5:=Nat.pow_le_pow_right (by decide) hl;unfold valueOf;omega
theorem Hx{l:List Nat}(h:∀c∈l,isDigit c=true)(hl:l.length≤5)(hn:l≠[]):intText? (bT l)=some ((valueOf l:Nat):Int):=by
 have e:=PySem.intText_digits (x:=bT l) (fun c hc=>by
  have:=h c hc;simp[isDigit]at this;exact this) hn (by show l.toArray.size≤4300;rw[size_toArray];omega)
 rw[e];show some (((l.foldl (fun acc c=>acc*10+(c-48)) 0:Nat)):Int)=_;rw[val_eq];rfl
theorem bO.same{cs:Cs}{H H':Hp}{r lt:Addr}{as:List Addr}{T:List PT}{i:Nat}(R:bO cs H r lt as T i)(s:Same H H'):bO cs H' r lt as T i:=by
 obtain⟨dx,ob⟩:=R.ob;refine⟨⟨dx,s _ _ ob⟩,s _ _ R.tk.lst,R.tk.len,fun j a t h1 h2=>?_⟩;obtain⟨dy,h⟩:=R.tk.at_ j a t h1 h2;exact⟨dy,s _ _ h⟩
theorem Kp.aaq{F:List Addr}{H H1 H2:Hp}(s:Same H H1)(k:Kp F H1 H2):Kp F H H2:=fun b o h n=>k b o (s b o h) n
def N8(cs:Cs):Sp:=fun vs H Q E=>∃(r lt:Addr)(as:List Addr)(T:List PT)(i:Nat)(t:PT),vs=[.ref r]∧bO cs H r lt as T i∧RK T∧T[i]?=some t ∧
 (kindS t.1="number"∧(decide (valueOf t.1≤251)&&prime (valueOf t.1))=true→∀H',bO cs H' r lt as T (i+1)→Kp [r] H H'→Q (.int ((valueOf t.1:Nat):Int)) H') ∧
 (¬(kindS t.1="number"∧(decide (valueOf t.1≤251)&&prime (valueOf t.1))=true)→zB E cs.cst (-100-(t.2:Int)))
def Oa(cs:Cs):Sp:=fun vs H Q E=>∃(r lt:Addr)(as:List Addr)(T:List PT)(i:Nat)(t:PT),vs=[.ref r]∧bO cs H r lt as T i∧RK T∧T[i]?=some t ∧
 (kindS t.1="number"∧valueOf t.1≠0→∀H',bO cs H' r lt as T (i+1)→Kp [r] H H'→Q (.int ((valueOf t.1:Nat):Int)) H') ∧
 (¬(kindS t.1="number"∧valueOf t.1≠0)→zB E cs.cst (-100-(t.2:Int)))
section
variable{P:Program}{w:World}{K:PySem.W.Frag}{mg:Str→Option Value}{base:Heap}{cs:Cs}
theorem Hy:aH ["self","token"] ["self"] (au fY):=⟨rfl,rfl,rfl,by decide +kernel,rfl,by decide +kernel,by decide +kernel⟩
theorem Uq(T:gB K cs.cD "take_prime" "Reader.take_prime" fY)(cl:Cls K cs.cD)(qT:Cls K cs.tok)(qU:cG K cs.tok ["kind","word","place"])(hN:∃t,mg "NUMBER"=some (.str "number" t))(hint:mg "int"=none)(NW:bw P w K mg base 1 cs.cD "now" ["self"] (mG cs))(TK:bw P w K mg base 4 cs.cD "take" ["self","stands"] (o8 cs))(FI:aX P w K mg base 2 "is_field" ["number"] N7):bw P w K mg base 5 cs.cD "take_prime" ["self"] (N8 cs):=by
 obtain⟨f,fd,F,M⟩:=T.ex;obtain⟨tn,hN⟩:=hN;refine⟨f,fd,M,F.binds (fun _ _ _ _ _ _ us hl=>match us,hl with | [_],_=>rfl),Fg F Hy (fun vs H Q E h=>?_) (fun cdv A outer s H vs Q E hr h=>?_)⟩
 ·obtain⟨r,lt,as,T,i,t,rfl,_⟩:=h;rfl
 ·obtain⟨r,lt,as,T,i,t,rfl,R,ok,ht,kq,kx⟩:=h;obtain⟨dx,ob⟩:=R.ob;refine⟨_,aq (aY (i:=1) Hy.nd rfl (Or.inl rfl) (dU (pv 0) cl (NW.mono (by decide:1≤4)) hr aF))
   (aC (aZ (j8 jU (by rfl) hint PyProof.Rows.boot_int (ak (bK (pv 0) cl TK hr bG (ak (Df (eN gY (aM (pv 1) rfl) (bh (v:=.str "number") rfl hN ⟨tn,rfl⟩) (bf _))
    (Dd (bN (FI.mono (by decide:2≤4)) hr rfl aF (ak (j8 jU (by rfl) hint PyProof.Rows.boot_int (ak (aM (pv 1) rfl) aA)) aA)))) aA)) aA)))),?_⟩
  refine⟨_,rfl,r,dx,_,rfl,ob,iy _ _ (by decide +kernel) (by decide +kernel),r,lt,as,T,i,t,rfl,R,ht,fun a ta=>?_⟩;obtain⟨dt,Bb⟩:=id ta;refine⟨_,rfl,r,dx,_,rfl,ob,iy _ _ (by decide +kernel) (by decide +kernel),?_⟩;refine⟨_,rfl,a,cs.tok,dt,_,_,rfl,Bb,qT,qU _ (by simp),nH _ _ _,rfl,_,rfl,bY (fun hc=>?_) fun hc=>?_⟩
  ·have hk:kindS t.1="number":=by
    have:=of_decide_eq_true hc;injection this
   have hd:=ok.dig t (mem_of_getElem? ht) hk;have hl:=(jD hk).2;have hne:t.1≠[]:=fun z=>by rw[z]at hk;exact absurd hk (by decide +kernel)
   have hiw:=Hx hd hl hne;have hsz:(bT t.1).length≤640:=by show t.1.toArray.size≤640;rw[size_toArray];omega
   refine⟨_,rfl,a,cs.tok,dt,_,_,rfl,Bb,qT,qU _ (by simp),iY _ _ _,_,_,rfl,hiw,hsz,?_⟩;refine⟨valueOf t.1,rfl,Uo hd hl,fun H1 s1=>?_⟩;refine⟨r,lt,as,T,i,t,_,rfl,R.same s1,ht,fun h2 H2 R2 k2=>?_,fun h2=>kx fun z=>?_⟩
   ·exact⟨_,_,rfl,hiw,hsz,kq ⟨hk,h2⟩ H2 R2 (Kp.aaq s1 k2)⟩
   ·rw[z.2]at h2;cases h2
  ·refine⟨r,lt,as,T,i,t,_,rfl,R,ht,fun h2=>absurd h2 Bool.false_ne_true,fun h2=>kx fun z=>hc (decide_eq_true (by rw[z.1]))⟩
theorem Hz:aH ["self","token"] ["self"] (au fZ):=⟨rfl,rfl,rfl,by decide +kernel,rfl,by decide +kernel,by decide +kernel⟩
theorem Ur(T:gB K cs.cD "take_asked" "Reader.take_asked" fZ)(cl:Cls K cs.cD)(qT:Cls K cs.tok)(qU:cG K cs.tok ["kind","word","place"])(hN:∃t,mg "NUMBER"=some (.str "number" t))(hint:mg "int"=none)(NW:bw P w K mg base 1 cs.cD "now" ["self"] (mG cs))(TK:bw P w K mg base 4 cs.cD "take" ["self","stands"] (o8 cs)):bw P w K mg base 5 cs.cD "take_asked" ["self"] (Oa cs):=by
 obtain⟨f,fd,F,M⟩:=T.ex;obtain⟨tn,hN⟩:=hN;refine⟨f,fd,M,F.binds (fun _ _ _ _ _ _ us hl=>match us,hl with | [_],_=>rfl),Fg F Hz (fun vs H Q E h=>?_) (fun cdv A outer s H vs Q E hr h=>?_)⟩
 ·obtain⟨r,lt,as,T,i,t,rfl,_⟩:=h;rfl
 ·obtain⟨r,lt,as,T,i,t,rfl,R,ok,ht,kq,kx⟩:=h;obtain⟨dx,ob⟩:=R.ob;refine⟨_,aq (aY (i:=1) Hz.nd rfl (Or.inl rfl) (dU (pv 0) cl (NW.mono (by decide:1≤4)) hr aF))
   (aC (aZ (j8 jU (by rfl) hint PyProof.Rows.boot_int (ak (bK (pv 0) cl TK hr bG (ak (Df (eN gY (aM (pv 1) rfl) (bh (v:=.str "number") rfl hN ⟨tn,rfl⟩) (bf _))
    (Dd (eN Fz (j8 jU (by rfl) hint PyProof.Rows.boot_int (ak (aM (pv 1) rfl) aA)) aR (bf _)))) aA)) aA)))),?_⟩
  refine⟨_,rfl,r,dx,_,rfl,ob,iy _ _ (by decide +kernel) (by decide +kernel),r,lt,as,T,i,t,rfl,R,ht,fun a ta=>?_⟩;obtain⟨dt,Bb⟩:=id ta;refine⟨_,rfl,r,dx,_,rfl,ob,iy _ _ (by decide +kernel) (by decide +kernel),?_⟩;refine⟨_,rfl,a,cs.tok,dt,_,_,rfl,Bb,qT,qU _ (by simp),nH _ _ _,rfl,_,rfl,bY (fun hc=>?_) fun hc=>?_⟩
  ·have hk:kindS t.1="number":=by
    have:=of_decide_eq_true hc;injection this
   have hd:=ok.dig t (mem_of_getElem? ht) hk;have hl:=(jD hk).2;have hne:t.1≠[]:=fun z=>by rw[z]at hk;exact absurd hk (by decide +kernel)
   have hiw:=Hx hd hl hne;have hsz:(bT t.1).length≤640:=by show t.1.toArray.size≤640;rw[size_toArray];omega
   refine⟨_,rfl,a,cs.tok,dt,_,_,rfl,Bb,qT,qU _ (by simp),iY _ _ _,_,_,rfl,hiw,hsz,_,_,rfl,rfl,?_⟩;refine⟨r,lt,as,T,i,t,_,rfl,R,ht,fun h2 H2 R2 k2=>?_,fun h2=>kx fun z=>?_⟩
   ·have h3:(1:Int)≤((valueOf t.1:Nat):Int):=of_decide_eq_true h2;exact⟨_,_,rfl,hiw,hsz,kq ⟨hk,by omega⟩ H2 R2 k2⟩
   ·have h3:¬(1:Int)≤((valueOf t.1:Nat):Int):=of_decide_eq_false h2;omega
  ·refine⟨r,lt,as,T,i,t,_,rfl,R,ht,fun h2=>absurd h2 Bool.false_ne_true,fun h2=>kx fun z=>hc (decide_eq_true (by rw[z.1]))⟩
end
def acP(Pv:L2.St→Hp→Prop)(μ:L2.St→Hp→Nat)(m:Nat)(tb:TS)(D:Ends)(σ:L2.St)(H1:Hp):Prop:=
 ∃N:L2.St→Hp→Prop,(∀σ' H',N σ' H'→∃m',m'<m∧m'=μ σ' H'∧Pv σ' H')∧tb { D with nx:=N,ct:=N,bk:=D.nx } σ H1
theorem lD{c:TT}{tb:TS}{D:Ends}{σ:L2.St}{H:Hp}(Pv:L2.St→Hp→Prop)(μ:L2.St→Hp→Nat)(h0:Pv σ H)(hs:∀σ H,Pv σ H→c σ H fun b H1=>if b=true then acP Pv μ (μ σ H) tb D σ H1 else D.nx σ H1):RZ c tb D σ H:=by
 refine⟨fun m σ H=>m=μ σ H∧Pv σ H,⟨_,rfl,h0⟩,?_⟩;rintro m σ H ⟨rfl,p⟩;exact hs σ H p
theorem YX{Pv:L2.St→Hp→Prop}{μ:L2.St→Hp→Nat}{m:Nat}{tb:TS}{D:Ends}{σ:L2.St}{H1:Hp}(h:tb { D with nx:=fun σ' H'=>Pv σ' H'∧μ σ' H'<m,ct:=fun σ' H'=>Pv σ' H'∧μ σ' H'<m,bk:=D.nx } σ H1):acP Pv μ m tb D σ H1:=
 ⟨_,fun σ' H' q=>⟨_,q.2,rfl,q.1⟩,h⟩
theorem HB:("abcdefghijklmnopqrstuvwxyz":Str).cps.toList=List.range' 97 26:=by decide +kernel
theorem KQ:("0123456789":Str).cps.toList=List.range' 48 10:=by decide +kernel
theorem KR:("abcdefghijklmnopqrstuvwxyz0123456789_":Str).cps.toList=List.range' 97 26++(List.range' 48 10++[95]):=by decide +kernel
theorem pA(c:Nat):decide (c∈("abcdefghijklmnopqrstuvwxyz":Str).cps.toList)=isSmall c:=by
 rw[HB,Bool.eq_iff_iff,decide_eq_true_iff,mem_range'_1];simp[isSmall];omega
theorem gq(c:Nat):decide (c∈("0123456789":Str).cps.toList)=isDigit c:=by
 rw[KQ,Bool.eq_iff_iff,decide_eq_true_iff,mem_range'_1];simp[isDigit];omega
theorem QD(c:Nat):decide (c∈("abcdefghijklmnopqrstuvwxyz0123456789_":Str).cps.toList)=isWord c:=by
 rw[KR,Bool.eq_iff_iff,decide_eq_true_iff,mem_append,mem_append,mem_range'_1,mem_range'_1];simp[isWord,isSmall,isDigit];omega
theorem cP(l:List Nat):(bT l).length=l.length:=by
 show l.toArray.size=_;rw[size_toArray]
def Ob:Sp:=fun vs H Q _=>∃(l:List Nat)(pl:Nat)(z:Str),vs=[.str (bT l),.int pl,.str z]∧pl≤l.length∧l.length≤10000 ∧
 Q (.int ((pl+((l.drop pl).takeWhile fun c=>decide (c∈z.cps.toList)).length:Nat):Int)) H
def HD:Sp:=fun vs H Q _=>∃(l:List Nat)(pl:Nat),vs=[.str (bT l),.int pl]∧pl<l.length∧l.length≤10000∧Q (.int ((pl+aP (l.drop pl):Nat):Int)) H
def Us:Sp:=fun vs H Q _=>∃(wd:List Nat),vs=[.str (bT wd)]∧wd≠[]∧wd.length≤10000∧Q (.str (kindS wd)) H
theorem Ut{X:Cx}:MtR X "str.find" (fun x xs H Q=>∃a b i,x=.str a∧xs=[.str b,.int i]∧Q (.int (Txt.find3 a b i)) H):=by
 intro pins s σ H x xs v us Q I rx rs h;obtain⟨a,b,i,rfl,rfl,h⟩:=h;obtain⟨t,rfl⟩:=rx;cases rs with
 |cons r1 rs=>
  cases rs with
  |cons r2 rs=>
   cases rs;obtain⟨u,rfl⟩:=r1;obtain⟨u2,rfl⟩:=r2;exact PySem.SC.find3 ⟨.int (Txt.find3 a b i),H,I.tok _,⟨_,rfl⟩,h⟩
theorem strEq(c d:Nat):decide (V.str ⟨#[c]⟩=V.str ⟨#[d]⟩)=decide (c=d):=by
 by_cases h:c=d
 ·subst h;simp
 ·rw[decide_eq_false h,decide_eq_false];intro z;injection z with z
  injection z with z
  exact h (by simpa using z)
theorem QF(l:List Nat)(pl:Nat)(hp:pl≤l.length):(if (0:Int)≤Txt.find3 (bT l) ⟨#[10]⟩ (pl:Int) then Txt.find3 (bT l) ⟨#[10]⟩ (pl:Int) else (l.length:Int))=((pl+((l.drop pl).takeWhile fun x=>x != 10).length:Nat):Int):=by
 have hfi:PySem.fromIndex (bT l).length (pl:Int)=pl:=by
  unfold PySem.fromIndex;rw[if_neg (by omega)];omega
 have gd:∀v,(bT l).cps.getD v 0=l.getD v 0:=fun v=>by
  show l.toArray.getD v 0=_;simp[getD_eq_getElem?_getD]
 have key:∀(m:List Nat)(k:Nat),(∀v,v<k→m.getD v 0≠10)→k≤m.length→(k=m.length∨m.getD k 0=10∧k<m.length)→(m.takeWhile fun x=>x != 10).length=k:=by
  intro m
  induction m with
  |nil=>intro k _ h _;simp at h;simp[h]
  |cons a r ih=>
   intro k h1 h2 h3;cases k with
   |zero=>
    rcases h3 with h3|⟨h3,_⟩
    ·simp at h3
    ·have:a=10:=by simpa using h3
     subst this;rw[takeWhile_cons];simp
   |succ k=>
    have ha:a≠10:=by simpa using h1 0 (by omega)
    have hb:(a != 10)=true:=by simpa using ha
    rw[takeWhile_cons,hb];simp only[if_true,length_cons];rw[ih k (fun v hv=>by simpa using h1 (v+1) (by omega)) (by simpa using h2) (by
     rcases h3 with h3|⟨h3,h4⟩
     ·exact .inl (by simpa using h3)
     ·exact .inr ⟨by simpa using h3,by simpa using h4⟩)]
 have dg:∀v,(l.drop pl).getD v 0=l.getD (pl+v) 0:=fun v=>by
  rw[getD_eq_getElem?_getD,getD_eq_getElem?_getD,List.getElem?_drop]
 rcases PySem.StrLaws.find3_spec (bT l) 10 (pl:Int) with⟨h,hn⟩|⟨k,h,h1,h2,h3,h4⟩
 ·rw[hfi]at hn;rw[h,if_neg (by decide)];have e:=key (l.drop pl) (l.length-pl) (fun v hv=>by
   rw[dg,←gd];exact hn (pl+v) (by omega) (by rw[cP];omega)) (by rw[length_drop];exact le_refl _) (.inl (by rw[length_drop]))
  rw[e];omega
 ·rw[hfi]at h1 h4;rw[cP]at h2;rw[h,if_pos (by omega)];have e:=key (l.drop pl) (k-pl) (fun v hv=>by
   rw[dg,←gd];exact h4 (pl+v) (by omega) (by omega)) (by rw[length_drop];omega) (.inr ⟨by rw[dg,←gd,Nat.add_sub_cancel' h1];exact h3,by rw[length_drop];omega⟩)
  rw[e];omega
section
variable{P:Program}{w:World}{K:PySem.W.Frag}{mg:Str→Option Value}{base:Heap}{cs:Cs}
theorem zJ:aH ["row","place","signs","end"] ["row","place","signs"] (au jK):=⟨rfl,rfl,rfl,by decide +kernel,rfl,by decide +kernel,by decide +kernel⟩
theorem Uu(T:bL K mg "end_of_signs" jK)(hlen:mg "len"=none):aX P w K mg base 1 "end_of_signs" ["row","place","signs"] Ob:=by
 obtain⟨f,fd,F,hm⟩:=T.ex;refine⟨f,fd,hm,F.kp,F.binds (fun _ _ _ _ _ _ us hl=>match us,hl with | [_,_,_],_=>rfl),okN F zJ (fun vs H Q E h=>?_) (fun cdv A outer s H vs Q E hr h=>?_)⟩
 ·obtain⟨l,pl,z,rfl,_⟩:=h;rfl
 ·obtain⟨l,pl,z,rfl,hp,hl,kq⟩:=h;refine⟨_,aq (aY (i:=3) zJ.nd rfl (Or.inl rfl) (pv 1)) (aq (gG PassesOwn.never (uT (aU Bv (pv 3) (aQ f9 (by rfl) hlen PySem.boot_len (ak (pv 0) aA)) (bf _))
   (tV (aU kZ (fK yr (pv 0) (pv 3) (fun _ _=>rfl)) (pv 2) (by rfl)))).pt (aC (Dg (i:=3) zJ.nd rfl (Or.inl rfl) aR Dh))) (aC (aZ (pv 3)))),?_⟩
  have hsz:(bT l).length≤sizeLine:=by rw[cP];exact le_trans hl (by decide)
  refine⟨_,rfl,?_⟩;refine lD (fun σ H'=>H'=H∧∃j:Nat,pl+j≤l.length∧σ=[some (.str (bT l)),some (.int pl),some (.str z),some (.int ((pl+j:Nat):Int))] ∧
   ((l.drop pl).takeWhile fun c=>decide (c∈z.cps.toList)).length=j+((l.drop (pl+j)).takeWhile fun c=>decide (c∈z.cps.toList)).length)
   (fun σ _=>match σ with | [_,_,_,some (.int e)]=>l.length-e.toNat|_=>0) ⟨rfl,0,hp,rfl,by simp⟩ ?_
  rintro σ H' ⟨rfl,j,hj,rfl,e⟩;have done:((l.drop (pl+j)).takeWhile fun c=>decide (c∈z.cps.toList)).length=0→Zt (fun D σ H=>abO (xW 3) D σ H) (fun D σ H=>D.nx σ H) { nx:=fun _ H'=>Q .non H',rt:=Q } [some (.str (bT l)),some (.int pl),some (.str z),some (.int ((pl+j:Nat):Int))] H':=fun h0=>by
   refine⟨_,rfl,?_⟩;rw[h0,add_zero]at e;rw[←e];exact kq
  refine⟨_,rfl,_,rfl,_,rfl,hsz,_,_,rfl,rfl,_,rfl,bY (fun hc=>?_) fun hc=>?_⟩
  ·have h1:((pl+j:Nat):Int)<((bT l).length:Int):=of_decide_eq_true hc;rw[cP]at h1;have h2:pl+j<l.length:=by omega
   have hd:l.drop (pl+j)=l[pl+j]::l.drop (pl+j+1):=drop_eq_getElem_cons h2;rw[hd,takeWhile_cons]at e;refine⟨_,rfl,_,rfl,bT l,_,l[pl+j],rfl,rfl,hsz,lW (getElem?_eq_getElem h2),_,rfl,l[pl+j],z,rfl,rfl,_,rfl,bY (fun hc2=>?_) fun hc2=>?_⟩
   ·refine YX ?_;refine⟨_,rfl,_,_,rfl,rfl,⟨rfl,j+1,by omega,rfl,?_⟩,?_⟩
    ·rw[hc2]at e;simp only[if_true,length_cons]at e;rw[e,Nat.add_assoc];omega
    ·show l.length-(((pl+j:Nat):Int)+1).toNat<l.length-((pl+j:Nat):Int).toNat;omega
   ·refine done ?_;rw[hd,takeWhile_cons];have:decide (l[pl+j]∈z.cps.toList)=false:=by simpa using hc2
    rw[this];rfl
  ·have h1:¬((pl+j:Nat):Int)<((bT l).length:Int):=fun q=>hc (decide_eq_true q);rw[cP]at h1;refine Gw (done ?_);rw[List.drop_eq_nil_of_le (by omega)];rfl
theorem vH:aH ["row","place","first","end"] ["row","place"] (au sO):=⟨rfl,rfl,rfl,by decide +kernel,rfl,by decide +kernel,by decide +kernel⟩
theorem QG(T:bL K mg "run_end" sO)(hlen:mg "len"=none)(hL:∃t,mg "LETTERS"=some (.str "abcdefghijklmnopqrstuvwxyz" t))(hD:∃t,mg "DIGITS"=some (.str "0123456789" t))(hW:∃t,mg "WORD_SIGNS"=some (.str "abcdefghijklmnopqrstuvwxyz0123456789_" t))(EO:aX P w K mg base 1 "end_of_signs" ["row","place","signs"] Ob):aX P w K mg base 2 "run_end" ["row","place"] HD:=by
 obtain⟨f,fd,F,hm⟩:=T.ex;obtain⟨t1,hL⟩:=hL;obtain⟨t2,hD⟩:=hD;obtain⟨t3,hW⟩:=hW;refine⟨f,fd,hm,F.kp,F.binds (fun _ _ _ _ _ _ us hl=>match us,hl with | [_,_],_=>rfl),okN F vH (fun vs H Q E h=>?_) (fun cdv A outer s H vs Q E hr h=>?_)⟩
 ·obtain⟨l,pl,rfl,_⟩:=h;rfl
 ·obtain⟨l,pl,rfl,hp,hl,kq⟩:=h;refine⟨_,aq (aY (i:=2) vH.nd rfl (Or.inl rfl) (fK yr (pv 0) (pv 1) (fun _ _=>rfl)))
   (aq (dW (aU gY (pv 2) cV (bf _)) (aq (aY (i:=3) vH.nd rfl (Or.inl rfl) (kY PySem.F.plainAttrs_str PySem.F.slot_str_find PySem.F.type_str_find Ut (pv 0) (ak cV (ak (pv 1) aA))))
     (aC (aZ (Fx (aU Fz (pv 3) aR (bf _)) (pv 3) (aQ f9 (by rfl) hlen PySem.boot_len (ak (pv 0) aA)))))) bW)
   (aq (dW (aU kZ (pv 2) (bh (v:=.str "abcdefghijklmnopqrstuvwxyz") (by rfl) hL ⟨t1,rfl⟩) (by rfl)) (aC (aZ (bN EO hr rfl aF (ak (pv 0) (ak (pv 1) (ak (bh (v:=.str "abcdefghijklmnopqrstuvwxyz0123456789_") (by rfl) hW ⟨t3,rfl⟩) aA)))))) bW)
   (aq (dW (aU kZ (pv 2) (bh (v:=.str "0123456789") (by rfl) hD ⟨t2,rfl⟩) (by rfl)) (aC (aZ (bN EO hr rfl aF (ak (pv 0) (ak (pv 1) (ak (bh (v:=.str "0123456789") (by rfl) hD ⟨t2,rfl⟩) aA)))))) bW)
   (aC (aZ (fj JV (pv 1) aR)))))),?_⟩
  have hsz:(bT l).length≤sizeLine:=by rw[cP];exact le_trans hl (by decide)
  have hd:l.drop pl=l[pl]::l.drop (pl+1):=drop_eq_getElem_cons hp;refine⟨_,rfl,_,rfl,bT l,_,l[pl],rfl,rfl,hsz,lW (getElem?_eq_getElem hp),?_⟩;refine⟨_,rfl,rfl,_,rfl,bY (fun hc=>?_) fun hc=>?_⟩
  ·have Wu:l[pl]=35:=by
    have h1:decide (V.str ⟨#[l[pl]]⟩=V.str ⟨#[35]⟩)=true:=hc;rw[strEq]at h1;exact of_decide_eq_true h1
   have er:aP (l.drop pl)=((l.drop pl).takeWhile fun x=>x != 10).length:=by
    rw[hd];unfold aP;dsimp only;rw[if_pos Wu]
   rw[er]at kq;have fl:=QF l pl (le_of_lt hp);refine⟨_,rfl,rfl,_,rfl,_,_,_,rfl,rfl,?_⟩;refine⟨_,rfl,_,_,rfl,rfl,_,rfl,bY (fun hc2=>?_) fun hc2=>?_⟩
   ·have h2:(0:Int)≤Txt.find3 (bT l) ⟨#[10]⟩ (pl:Int):=of_decide_eq_true hc2;rw[if_pos h2]at fl;refine⟨_,rfl,?_⟩;show Q (V.int (Txt.find3 (bT l) ⟨#[10]⟩ (pl:Int))) H;rw[fl];exact kq
   ·have h2:¬(0:Int)≤Txt.find3 (bT l) ⟨#[10]⟩ (pl:Int):=fun z=>hc2 (decide_eq_true z);rw[if_neg h2]at fl;refine⟨_,rfl,_,rfl,hsz,?_⟩;show Q (V.int ((bT l).length:Int)) H;rw[cP,fl];exact kq
  ·have Wu:¬l[pl]=35:=fun z=>hc (by
    show decide (V.str ⟨#[l[pl]]⟩=V.str ⟨#[35]⟩)=true;rw[strEq];exact decide_eq_true z)
   have sp1:∀(p q:Nat→Bool),(∀c,p c=q c)→((l.drop pl).takeWhile p).length=((l.drop pl).takeWhile q).length:=fun p q hpq=>by
    rw[show p=q from funext hpq]
   refine⟨_,rfl,l[pl],_,rfl,rfl,_,rfl,bY (fun hc2=>?_) fun hc2=>?_⟩
   ·rw[pA]at hc2;have er:aP (l.drop pl)=((l.drop pl).takeWhile isWord).length:=by
     rw[hd];unfold aP;dsimp only;rw[if_neg Wu,if_pos hc2]
    rw[er,←sp1 _ _ QD]at kq;exact⟨_,rfl,_,rfl,l,pl,_,rfl,le_of_lt hp,hl,kq⟩
   ·rw[pA]at hc2;refine⟨_,rfl,l[pl],_,rfl,rfl,_,rfl,bY (fun hc3=>?_) fun hc3=>?_⟩
    ·rw[gq]at hc3;have er:aP (l.drop pl)=((l.drop pl).takeWhile isDigit).length:=by
      rw[hd];unfold aP;dsimp only;rw[if_neg Wu,if_neg hc2,if_pos hc3]
     rw[er,←sp1 _ _ gq]at kq;exact⟨_,rfl,_,rfl,l,pl,_,rfl,le_of_lt hp,hl,kq⟩
    ·rw[gq]at hc3;have er:aP (l.drop pl)=1:=by
      rw[hd];unfold aP;dsimp only;rw[if_neg Wu,if_neg hc2,if_neg hc3]
     rw[er]at kq;exact⟨_,rfl,_,_,rfl,rfl,kq⟩
theorem XH:aH ["word"] ["word"] (au sS):=⟨rfl,rfl,rfl,by decide +kernel,rfl,by decide +kernel,by decide +kernel⟩
theorem HF:∀wd:List Nat,inV (V.str (bT wd)) [V.str "field",V.str "who",V.str "let",V.str "of"]=keys.contains wd:=fun wd=>by
 have e:∀(s:List Nat),((bT s==bT wd):Bool)=(wd==s):=fun s=>by
  by_cases h:s=wd
  ·subst h;simp
  ·have h1:(bT s==bT wd)=false:=by simpa using fun z:bT s=bT wd=>h (DQ z)
   have h2:(wd==s)=false:=by simpa using fun z:wd=s=>h z.symm
   rw[h1,h2]
 show ((bT [102,105,101,108,100]==bT wd)||((bT [119,104,111]==bT wd)||((bT [108,101,116]==bT wd)||((bT [111,102]==bT wd)||false))))=_;rw[e,e,e,e];have hk:keys=[[102,105,101,108,100],[119,104,111],[108,101,116],[111,102]]:=by decide +kernel
 rw[hk,Bool.eq_iff_iff];simp[List.contains_iff_mem]
theorem XJ(T:bL K mg "kind_of" sS)(hlen:mg "len"=none)(hL:∃t,mg "LETTERS"=some (.str "abcdefghijklmnopqrstuvwxyz" t))(hD:∃t,mg "DIGITS"=some (.str "0123456789" t))(hKW:∃a,mg "KEPT_WORDS"=some (.ref a)∧∀H,tL K H a [V.str "field",V.str "who",V.str "let",V.str "of"])(hLW:∃t,mg "LONGEST_WORD"=some (.int 15 t))(hLN:∃t,mg "LONGEST_NUMBER"=some (.int 5 t))(hN:∃t,mg "NAME"=some (.str "name" t))(hU:∃t,mg "NUMBER"=some (.str "number" t))(hO:∃t,mg "OTHER"=some (.str "other" t)) :
  aX P w K mg base 1 "kind_of" ["word"] Us:=by
 obtain⟨f,fd,F,hm⟩:=T.ex;obtain⟨t1,hL⟩:=hL;obtain⟨t2,hD⟩:=hD;obtain⟨ka,hKW,XM⟩:=hKW;obtain⟨t3,hLW⟩:=hLW;obtain⟨t4,hLN⟩:=hLN;obtain⟨t5,hN⟩:=hN;obtain⟨t6,hU⟩:=hU;obtain⟨t7,hO⟩:=hO;refine⟨f,fd,hm,F.kp,F.binds (fun _ _ _ _ _ _ us hl=>match us,hl with | [_],_=>rfl),okN (k:=0) F XH (fun vs H Q E h=>?_) (fun cdv A outer s H vs Q E hr h=>?_)⟩
 ·obtain⟨wd,rfl,_⟩:=h;rfl
 ·obtain⟨wd,rfl,hne,hl,kq⟩:=h;refine⟨_,aq (dW (uT (aU kZ (fK yr (pv 0) aR (fun _ _=>rfl)) (bh (v:=.str "abcdefghijklmnopqrstuvwxyz") (by rfl) hL ⟨t1,rfl⟩) (by rfl))
    (uT (aU Nh (aQ f9 (by rfl) hlen PySem.boot_len (ak (pv 0) aA)) (bh (v:=.int 15) (by rfl) hLW ⟨t3,rfl⟩) (bf _))
     (tV (aU Dp (pv 0) (bh (v:=.ref ka) (by rfl) hKW rfl) (by rfl))))).pt (aC (aZ (bh (v:=.str "name") (by rfl) hN ⟨t5,rfl⟩))) bW)
   (aq (dW (uT (aU kZ (fK yr (pv 0) aR (fun _ _=>rfl)) (bh (v:=.str "0123456789") (by rfl) hD ⟨t2,rfl⟩) (by rfl))
    (tV (aU Nh (aQ f9 (by rfl) hlen PySem.boot_len (ak (pv 0) aA)) (bh (v:=.int 5) (by rfl) hLN ⟨t4,rfl⟩) (bf _)))).pt (aC (aZ (bh (v:=.str "number") (by rfl) hU ⟨t6,rfl⟩))) bW)
   (aC (aZ (bh (v:=.str "other") (by rfl) hO ⟨t7,rfl⟩)))),?_⟩
  match wd,hne,hl,kq with
  |c::r,_,hl,kq=>
  have hsz:(bT (c::r)).length≤sizeLine:=by rw[cP];exact le_trans hl (by decide)
  unfold kindS at kq;dsimp only at kq;refine⟨_,rfl,bT (c::r),0,c,rfl,rfl,hsz,lW (j:=0) rfl,c,_,rfl,rfl,_,rfl,bY (fun h1=>?_) fun h1=>?_⟩
  ·rw[pA]at h1;refine⟨_,rfl,_,rfl,hsz,_,_,rfl,rfl,_,rfl,bY (fun h2=>?_) fun h2=>?_⟩
   ·have h2':(c::r).length≤15:=by
     have h3:((bT (c::r)).length:Int)≤15:=of_decide_eq_true h2;rw[cP]at h3;omega
    refine⟨_,rfl,ka,_,rfl,.inr (XM H),rfl,rfl,_,rfl,bY (fun h3=>?_) fun h3=>?_⟩
    ·have h3':¬keys.contains (c::r)=true:=by
      have:(!inV (V.str (bT (c::r))) [V.str "field",V.str "who",V.str "let",V.str "of"])=true:=h3;rw[HF]at this;simpa using this
     rw[if_pos ⟨h1,h2',h3'⟩]at kq;exact kq
    ·have hn:¬(isSmall c=true∧(c::r).length≤15∧¬keys.contains (c::r)=true):=fun z=>h3 (by
      show (!inV (V.str (bT (c::r))) [V.str "field",V.str "who",V.str "let",V.str "of"])=true;rw[HF];simpa using z.2.2)
     rw[if_neg hn]at kq;refine⟨_,rfl,bT (c::r),0,c,rfl,rfl,hsz,lW (j:=0) rfl,c,_,rfl,rfl,_,rfl,bY (fun g1=>?_) fun g1=>?_⟩
     ·rw[gq]at g1;refine⟨_,rfl,_,rfl,hsz,_,_,rfl,rfl,_,rfl,bY (fun g2=>?_) fun g2=>?_⟩
      ·have g2':(c::r).length≤5:=by
        have g3:((bT (c::r)).length:Int)≤5:=of_decide_eq_true g2;rw[cP]at g3;omega
       rw[if_pos ⟨g1,g2'⟩]at kq;exact kq
      ·rw[if_neg fun z=>g2 (decide_eq_true (by rw[cP];have:=z.2;omega))]at kq;exact kq
     ·rw[gq]at g1;rw[if_neg fun z=>g1 z.1]at kq;exact kq
   ·have hn:¬(isSmall c=true∧(c::r).length≤15∧¬keys.contains (c::r)=true):=fun z=>h2 (decide_eq_true (by rw[cP];have:=z.2.1;omega));refine Gw ?_;rw[if_neg hn]at kq;refine⟨_,rfl,bT (c::r),0,c,rfl,rfl,hsz,lW (j:=0) rfl,c,_,rfl,rfl,_,rfl,bY (fun g1=>?_) fun g1=>?_⟩
    ·rw[gq]at g1;refine⟨_,rfl,_,rfl,hsz,_,_,rfl,rfl,_,rfl,bY (fun g2=>?_) fun g2=>?_⟩
     ·have g2':(c::r).length≤5:=by
       have g3:((bT (c::r)).length:Int)≤5:=of_decide_eq_true g2;rw[cP]at g3;omega
      rw[if_pos ⟨g1,g2'⟩]at kq;exact kq
     ·rw[if_neg fun z=>g2 (decide_eq_true (by rw[cP];have:=z.2;omega))]at kq;exact kq
    ·rw[gq]at g1;rw[if_neg fun z=>g1 z.1]at kq;exact kq
  ·rw[pA]at h1;have hn:¬(isSmall c=true∧(c::r).length≤15∧¬keys.contains (c::r)=true):=fun z=>h1 z.1;refine Gw ?_;rw[if_neg hn]at kq;refine⟨_,rfl,bT (c::r),0,c,rfl,rfl,hsz,lW (j:=0) rfl,c,_,rfl,rfl,_,rfl,bY (fun g1=>?_) fun g1=>?_⟩
   ·rw[gq]at g1;refine⟨_,rfl,_,rfl,hsz,_,_,rfl,rfl,_,rfl,bY (fun g2=>?_) fun g2=>?_⟩
    ·have g2':(c::r).length≤5:=by
      have g3:((bT (c::r)).length:Int)≤5:=of_decide_eq_true g2;rw[cP]at g3;omega
     rw[if_pos ⟨g1,g2'⟩]at kq;exact kq
    ·rw[if_neg fun z=>g2 (decide_eq_true (by rw[cP];have:=z.2;omega))]at kq;exact kq
   ·rw[gq]at g1;rw[if_neg fun z=>g1 z.1]at kq;exact kq
end
theorem HJ:("(":Str)=bT [40]:=by decide +kernel
theorem YZ:(")":Str)=bT [41]:=by decide +kernel
theorem HN:(",":Str)=bT [44]:=by decide +kernel
theorem Cq:(";":Str)=bT [59]:=by decide +kernel
theorem Y0:("=":Str)=bT [61]:=by decide +kernel
theorem Uv:("&":Str)=bT [38]:=by decide +kernel
theorem Uw:("|":Str)=bT [124]:=by decide +kernel
theorem litOf:("of":Str)=bT (ascii "of"):=by decide +kernel
theorem KY:("let":Str)=bT (ascii "let"):=by decide +kernel
theorem Ux:("who":Str)=bT (ascii "who"):=by decide +kernel
theorem HS:("field":Str)=bT (ascii "field"):=by decide +kernel
theorem nO{w v:List Nat}{s:Str}(h:s=bT v):bT w=s↔w=v:=by
 rw[h];exact⟨fun z=>DQ z,fun z=>by rw[z]⟩
theorem sW{w v:List Nat}{s:Str}(h:s=bT v):decide (V.str (bT w)=V.str s)=decide (w=v):=by
 by_cases q:w=v
 ·rw[decide_eq_true q,decide_eq_true (by rw[h,q])]
 ·rw[decide_eq_false q,decide_eq_false fun z=>q ((nO h).mp (by injection z))]
theorem Cr{w:List Nat}{s:Str}:decide (V.str (kindS w)=V.str s)=decide (kindS w=s):=by
 by_cases q:kindS w=s
 ·rw[decide_eq_true q,decide_eq_true (by rw[q])]
 ·rw[decide_eq_false q,decide_eq_false fun z=>q (by injection z)]
section
variable{K:PySem.W.Frag}{cs:Cs}{E:XK}{σ:L2.St}{H:Hp}{Q:VK}{j:Nat}{r lt:Addr}{as:List Addr}{T:List PT}{i:Nat}{t:PT}
theorem qw(qT:Cls K cs.tok)(qU:cG K cs.tok ["kind","word","place"])(hσ:σ[j]?=some (some (.ref r)))(R:bO cs H r lt as T i)(ht:T[i]?=some t)(k:Q (.str (bT t.1)) H) :
  Ss K (ud cs.cD "now" (mG cs) [] E (xW j) uV) "word" σ H Q:=by
 obtain⟨dx,ob⟩:=R.ob;refine⟨_,hσ,r,dx,_,rfl,ob,iy _ _ (by decide +kernel) (by decide +kernel),r,lt,as,T,i,t,rfl,R,ht,fun a ta=>?_⟩;obtain⟨dt,Bb⟩:=ta;exact⟨a,cs.tok,dt,_,_,rfl,Bb,qT,qU _ (by simp),iY _ _ _,k⟩
theorem uG(qT:Cls K cs.tok)(qU:cG K cs.tok ["kind","word","place"])(hσ:σ[j]?=some (some (.ref r)))(R:bO cs H r lt as T i)(ht:T[i]?=some t)(k:Q (.str (kindS t.1)) H) :
  Ss K (ud cs.cD "now" (mG cs) [] E (xW j) uV) "kind" σ H Q:=by
 obtain⟨dx,ob⟩:=R.ob;refine⟨_,hσ,r,dx,_,rfl,ob,iy _ _ (by decide +kernel) (by decide +kernel),r,lt,as,T,i,t,rfl,R,ht,fun a ta=>?_⟩;obtain⟨dt,Bb⟩:=ta;exact⟨a,cs.tok,dt,_,_,rfl,Bb,qT,qU _ (by simp),nH _ _ _,k⟩
theorem cF{m:Str}{sp:Sp}{tt:TA}(hσ:σ[j]?=some (some (.ref r)))(R:bO cs H r lt as T i)(h1:¬m="tokens")(h2:¬m="at")(k:tt σ H fun vs H2=>sp (.ref r::(vs++[])) H2 Q E):ud cs.cD m sp [] E (xW j) tt σ H Q:=by
 obtain⟨dx,ob⟩:=R.ob;exact⟨_,hσ,r,dx,_,rfl,ob,iy _ _ h1 h2,k⟩
end
def XQ(T:List PT)(r:Addr)(H:Hp):Nat:=match H r with
 |some (.ins _ _ fs)=>match fs.lookup ("at":Str) with
  |some (.int j)=>T.length-j.toNat
  |_=>0
 |_=>0
theorem jO{T:List PT}{r C dx lt:Addr}{H:Hp}{i:Nat}(h:H r=some (.ins C dx (JK lt (i:Int)))):XQ T r H=T.length-i:=by
 unfold XQ;rw[h];show (match (JK lt (i:Int)).lookup ("at":Str) with|some (.int j)=>T.length-j.toNat|_=>0)=_;rw[Kr];rfl
theorem dw{H:Hp}{d x y:Addr}{o u:HO}(h:upd (upd H d o) x u y=none):H y=none:=by
 by_cases e:y=x
 ·rw[e,ao]at h;cases h
 ·rw[aj e]at h;by_cases e2:y=d
  ·rw[e2,ao]at h;cases h
  ·rw[aj e2]at h;exact h
def Bot:List aD→Prop
 | []=>False
 | [F]=>F.asked=0
 |_::G::r=>Bot (G::r)
theorem Bot.head{F F':aD}(e:F'.asked=F.asked):∀{r:List aD},Bot (F::r)→Bot (F'::r)
 | [],h=>e.trans h
 |_::_,h=>h
structure Ec(st:List aD):Prop where
 bot:Bot st
 pl:∀F∈st,F.asked=0→F.fs=[]
theorem Ec.push{F:aD}{r:List aD}(h:Ec (F::r))(k:Nat):Ec (aD.empty k::F::r):=⟨h.bot,fun G hG _=>by
 rcases mem_cons.mp hG with rfl|hG
 ·rfl
 ·exact h.pl G hG (by assumption)⟩
theorem Ec.head{F F':aD}{r:List aD}(h:Ec (F::r))(e:F'.asked=F.asked)(e2:F'.asked=0→F'.fs=[]):Ec (F'::r):=⟨h.bot.head e,fun G hG z=>by
 rcases mem_cons.mp hG with rfl|hG
 ·exact e2 z
 ·exact h.pl G (mem_cons_of_mem _ hG) z⟩
theorem Ec.tail{F G:aD}{r:List aD}(h:Ec (F::G::r)):Ec (G::r):=⟨h.bot,fun G hG z=>h.pl G (mem_cons_of_mem _ hG) z⟩
def bA(B:Bk)(ns:List aG)(st:List aD)(t:Toks):Except Nat (Form×Toks):=match st with
 | []=>.error 0
 |F::r=>gj B.known (F.den B.P ns) (r.map (aD.den B.P ns)) t
def cA(B:Bk)(ns:List aG)(st:List aD)(t:Toks):Except Nat (Form×Toks):=match st with
 | []=>.error 0
 |F::r=>iU B.known (F.den B.P ns) (r.map (aD.den B.P ns)) t
def Oc(cs:Cs):Sp:=fun vs H Q E=>∃(H0:Hp)(r lt:Addr)(as:List Addr)(T:List PT)(i:Nat)(b:Addr)(A:d8)(p:Nat)(B:Bk)(ns:List aG)(bl:Addr)(dF:List fD)(st:List aD)(t:PT),vs=[.ref r,.ref bl] ∧
 jY cs H0 H r lt as T i b A p B ns bl (obs dF).reverse dF st∧jz B ns st∧Ec st∧Fw ns st (4*i)∧RK T∧T[i]?=some t ∧
 (∀(H':Hp)(i':Nat)(uH:List fD)(st':List aD)(t':PT),jY cs H0 H' r lt as T i' b A p B ns bl (obs uH).reverse uH st'→jz B ns st'→Ec st'→Fw ns st' (4*i')→i≤i'→T[i']?=some t'→¬t'.1=[40]→¬kindS t'.1="number" →
  bA B ns st (tk T i)=bA B ns st' (tk T i')→Q .non H') ∧
 (∀k,bA B ns st (tk T i)=.error k→zB E cs.cst (-100-(k:Int)))
def BgI(cs:Cs)(H0:Hp)(r lt:Addr)(as:List Addr)(T:List PT)(i:Nat)(b:Addr)(A:d8)(p:Nat)(B:Bk)(ns:List aG)(bl:Addr)(st:List aD):L2.St→Hp→Prop:=fun σ H'=>
 ∃(i':Nat)(uH:List fD)(st':List aD)(t':PT)(x:Option V),σ=[some (.ref r),some (.ref bl),x]∧jY cs H0 H' r lt as T i' b A p B ns bl (obs uH).reverse uH st'∧jz B ns st'∧Ec st'∧Fw ns st' (4*i')∧i≤i'∧T[i']?=some t' ∧
  bA B ns st (tk T i)=bA B ns st' (tk T i')
section
variable{P:Program}{w:World}{K:PySem.W.Frag}{mg:Str→Option Value}{base:Heap}{cs:Cs}
theorem Od{H0 H1 H2:Hp}{r lt b bl:Addr}{as:List Addr}{T:List PT}{i i1 j k p:Nat}{A:d8}{B:Bk}{ns:List aG}{st:List aD}{dO:List fD}{F1:aD}{r1:List aD}{u:PT}{D:Ends}{E':XK}(wO:∃dx,H1 r=some (.ins cs.cD dx (JK lt (i1:Int))))(hD:∀σ' H',BgI cs H0 r lt as T i b A p B ns bl st σ' H'∧XQ T r H'<XQ T r H1→D.nx σ' H')(S2:jY cs H0 H2 r lt as T j b A p B ns bl (obs dO).reverse dO (F1::r1))(ps1:jz B ns (F1::r1))(mX:Ec (F1::r1))(Bc:Fw ns (F1::r1) (4*i1))(hi1:i≤i1)(hl:T.length≤10000)(hij:i1<j)(hu:T[j]?=some u)(e1:bA B ns st (tk T i)=bA B ns (F1::r1) (tk T i1))(e2:bA B ns (F1::r1) (tk T i1)=bA B ns (aD.empty k::F1::r1) (tk T j)) :
  RW (tBM K "list" Nk (xW 1) (FJ (Sx cs.dJ (qR cs) [] E' (FJ (xW 2) uV)) uV)) D [some (.ref r),some (.ref bl),some (.int (k:Int))] H2:=by
 have hjl:=(List.getElem?_eq_some_iff.mp hu).1;refine⟨_,rfl,.inl ⟨rfl,_,bJ.of S2.br.lst⟩,_,rfl,fun x RG nx ndx nex=>?_⟩;refine⟨x,RG,(k:Int),rfl,ao,fun fl xJ pl H3 h3 hfl vg hpl NT Kw Hq nd k3=>⟨rfl,?_⟩⟩;have s3:Same H2 H3:=Same.made nx ndx fun c o e hc=>k3 c o e (by simpa using hc);have few:((obs dO).reverse.map V.ref).length<sizeLine:=by
  have l1:=Paired.length S2.br.at_;have l2:(obs dO).length=dO.length:=length_map _;rw[length_map,length_reverse,l2,l1];have:=Bc.dp;exact lt_trans (show _<100000 by omega) bM
 refine⟨bl,_,_,rfl,rfl,s3 _ _ S2.br.lst,few,?_⟩;have S3:jY cs H0 (upd H3 bl (.lst (((obs dO).reverse++[x]).map V.ref))) r lt as T j b A p B ns bl ((obs dO).reverse++[x]) (⟨x,fl,xJ,pl⟩::dO) (aD.empty k::F1::r1):=
  (S2.add (a:=⟨x,fl,xJ,pl⟩) (F:=aD.empty k) s3 ⟨⟨RG,h3⟩,hfl,vg,hpl⟩ nx (fun y hy=>by
   simp only[fD.lists,mem_cons,not_mem_nil,or_false]at hy;rcases hy with rfl|rfl|rfl
   ·exact dw NT
   ·exact dw Kw
   ·exact dw Hq) nd).Ui _
 have eo:(obs (⟨x,fl,xJ,pl⟩::dO)).reverse=(obs dO).reverse++[x]:=by simp[obs]
 have ev:((obs dO).reverse.map V.ref++[V.ref x])=((obs dO).reverse++[x]).map V.ref:=by rw[map_append];rfl
 rw[ev];obtain⟨dr,wO⟩:=wO;obtain⟨dr3,ob3⟩:=S3.ob;refine hD _ _ ⟨⟨j,⟨x,fl,xJ,pl⟩::dO,aD.empty k::F1::r1,u,_,rfl,by rw[eo];exact S3,ps1.push k,mX.push k,⟨?_,Bc.wi,?_⟩,by omega,hu,e1.trans e2⟩,?_⟩
 ·have:=Bc.le;rw[flatMap_cons];show ns.length+([]++(F1::r1).flatMap aD.all).length≤_;rw[nil_append];omega
 ·have:=Bc.dp;show (F1::r1).length+1≤_;omega
 ·rw[jO wO,jO ob3];omega
theorem zK:aH ["reader","brackets","asked"] ["reader","brackets"] (au iC):=⟨rfl,rfl,rfl,by decide +kernel,rfl,by decide +kernel,by decide +kernel⟩
theorem Uy(co:ux cs)(T:bL K mg "begin_brackets" iC)(cl:Cls K cs.cD)(qT:Cls K cs.tok)(qU:cG K cs.tok ["kind","word","place"])(hN:∃t,mg "NUMBER"=some (.str "number" t))(NW:bw P w K mg base 1 cs.cD "now" ["self"] (mG cs))(TA:bw P w K mg base 5 cs.cD "take_asked" ["self"] (Oa cs))(TW:bw P w K mg base 5 cs.cD "take_written" ["self","word"] (kI cs))(BR:lq P w K mg base 1 "Bracket" cs.dJ ["self","asked"] (qR cs)):aX P w K mg base 6 "begin_brackets" ["reader","brackets"] (Oc cs):=by
 obtain⟨f,fd,F,hm⟩:=T.ex;obtain⟨tn,hN⟩:=hN;refine⟨f,fd,hm,F.kp,F.binds (fun _ _ _ _ _ _ us hl=>match us,hl with | [_,_],_=>rfl),Fg F zK (fun vs H Q E h=>?_) (fun cdv A outer s H vs Q E hr h=>?_)⟩
 ·obtain⟨H0,r,lt,as,T,i,b,A,p,B,ns,bl,dF,st,t,rfl,_⟩:=h;rfl
 ·obtain⟨H0,r,lt,as,T,i,b,Ad,p,B,ns,bl,dF,st,t,rfl,S,ps,inn,fw,tok,ht,kq,kx⟩:=h;refine⟨_,aC (gG PassesOwn.leaving (Fv (aU gY (aM (dU (pv 0) cl (NW.mono (by decide:1≤5)) hr aF) rfl) cV (bf _)) (xX (aU gY (aM (dU (pv 0) cl (NW.mono (by decide:1≤5)) hr aF) rfl) (bh (v:=.str "number") (by rfl) hN ⟨tn,rfl⟩) (bf _)))).pt
   (aq (aY (i:=2) zK.nd rfl (Or.inl rfl) aR)
   (aq (dW (aU gY (aM (dU (pv 0) cl (NW.mono (by decide:1≤5)) hr aF) rfl) (bh (v:=.str "number") (by rfl) hN ⟨tn,rfl⟩) (bf _))
    (aq (aY (i:=2) zK.nd rfl (Or.inl rfl) (dU (pv 0) cl TA hr bG)) (aC (aN (bK (pv 0) cl TW hr bG (ak cV aA))))) bW)
   (aq (aN (bK (pv 0) cl TW hr bG (ak cV aA)))
   (aC (aN (kY plainAttrs_list PySem.F.slot_list_append PySem.F.type_list_append cZ (pv 1) (ak (sJ (BR.mono (by decide:1≤4)) hr rfl aF (ak (pv 2) aA)) aA)))))))),?_⟩
  refine lD (BgI cs H0 r lt as T i b Ad p B ns bl st) (fun _ H'=>XQ T r H') ⟨i,dF,st,t,none,rfl,S,ps,inn,fw,le_refl _,ht,rfl⟩ ?_;rintro σ H1 ⟨i1,dO,st1,t1,x1,rfl,S1,ps1,mX,Bc,hi1,ht1,e1⟩
  match st1,mX,ps1,S1,Bc,e1 with
  | [],mX,_,_,_,_=>exact absurd mX.bot (by simp[Bot])
  |F1::r1,mX,ps1,S1,Bc,e1=>
  have kx':∀k,bA B ns (F1::r1) (tk T i1)=.error k→zB E cs.cst (-100-(k:Int)):=fun k hk=>kx k (e1.trans hk);have nxt:t1.1≠[]→∃u,T[i1+1]?=some u:=tok.next i1 t1 ht1;refine qw qT qU rfl S1.rd ht1 ⟨rfl,_,rfl,bY (fun hc=>?_) fun hc=>?_⟩
  ·rw[sW HJ]at hc;have h40:=of_decide_eq_true hc;obtain⟨u,hu⟩:=nxt (by rw[h40];simp);refine Gx (YX ?_);refine uG qT qU rfl S1.rd ht1 ⟨rfl,_,rfl,bY (fun hk=>?_) fun hk=>?_⟩
   ·exfalso;rw[Cr,h40]at hk;exact absurd hk (by decide +kernel)
   refine cF rfl S1.rd (by decide +kernel) (by decide +kernel) ?_;refine⟨r,lt,as,T,i1,t1,_,rfl,S1.rd,ht1,fun hq H2 R2 k2=>?_,fun hq=>absurd ((nO HJ).mpr h40) hq⟩;exact Od (k:=0) S1.ob (fun σ' H' q=>q) (S1.moved co R2 k2) ps1 mX Bc hi1 tok.few (lt_succ_self _) hu e1 (Xx ht1 h40)
  ·rw[sW HJ]at hc;have h40:¬t1.1=[40]:=fun z=>hc (decide_eq_true z);refine uG qT qU rfl S1.rd ht1 ⟨rfl,_,rfl,bY (fun hk=>?_) fun hk=>?_⟩
   ·rw[Cr]at hk;have hk':=of_decide_eq_true hk;obtain⟨u,hu⟩:=nxt (fun z=>by rw[z]at hk';exact absurd hk' (by decide +kernel));refine YX ?_;refine uG qT qU rfl S1.rd ht1 ⟨rfl,_,rfl,bY (fun _=>?_) fun hn=>?_⟩
    ·refine cF rfl S1.rd (by decide +kernel) (by decide +kernel) ?_;refine⟨r,lt,as,T,i1,t1,rfl,S1.rd,tok,ht1,fun hq H2 R2 k2=>?_,fun hq=>?_⟩
     ·have S2:=S1.moved co R2 k2;refine cF rfl S2.rd (by decide +kernel) (by decide +kernel) ?_;refine⟨r,lt,as,T,i1+1,u,_,rfl,S2.rd,hu,fun hq2 H3 R3 k3=>?_,fun hq2=>?_⟩
      ·have hof:=(nO litOf).mp hq2;obtain⟨v,hv⟩:=tok.next (i1+1) u hu (by rw[hof];decide);have S3:=S2.moved co R3 k3;refine cF rfl S3.rd (by decide +kernel) (by decide +kernel) ?_;refine⟨r,lt,as,T,i1+2,v,_,rfl,S3.rd,hv,fun hq3 H4 R4 k4=>?_,fun hq3=>?_⟩
       ·have hp:=(nO HJ).mp hq3;obtain⟨y,hy⟩:=tok.next (i1+2) v hv (by rw[hp];simp);exact Od (k:=valueOf t1.1) S1.ob (fun σ' H' q=>q) (S3.moved co R4 k4) ps1 mX Bc hi1 tok.few (by omega) hy e1 (Ue ht1 hu hv hk' hq.2 hof hp)
       ·exact kx' _ (Ug ht1 hu hv hk' hq.2 hof fun z=>hq3 ((nO HJ).mpr z))
      ·exact kx' _ (Xz ht1 hu hk' hq.2 fun z=>hq2 ((nO litOf).mpr z))
     ·exact kx' _ (Xy ht1 hk' (Decidable.byContradiction fun z=>hq ⟨hk',z⟩))
    ·exact absurd (by rw[Cr];exact decide_eq_true hk') hn
   ·rw[Cr]at hk;have hk':¬kindS t1.1="number":=fun z=>hk (decide_eq_true z);exact kq H1 i1 dO (F1::r1) t1 S1 ps1 mX Bc hi1 ht1 h40 hk' e1
end
theorem vI(P:Nat)(ns:List aG)(G:aD)(x:Nat):aD.den P ns { G with ps:=G.ps++[x] }={ aD.den P ns G with ps:=(aD.den P ns G).ps++[den P ns x] }:=by
 unfold aD.den;rw[map_append];rfl
section
variable{B:Bk}{ns:List aG}{F G:aD}{r:List aD}{T:List PT}{i:Nat}{t:PT}
theorem Uz(S:jz B ns (F::G::r))(hp:F.ps≠[])(h0:F.asked=0)(hf:F.fs=[])(ht:T[i]?=some t)(Wx:t.1=[41]) :
  cA B ns (F::G::r) (tk T i)=cA B (qt (cC B.P ns F) (bV B.P ns F)) ({ G with ps:=G.ps++[rF B.P (cC B.P ns F) (bV B.P ns F)] }::r) (tk T (i+1))∧jz B (qt (cC B.P ns F) (bV B.P ns F)) ({ G with ps:=G.ps++[rF B.P (cC B.P ns F) (bV B.P ns F)] }::r):=by
 obtain⟨d1,d2,d3⟩:=S.DP hp;have e1:qt (cC B.P ns F) (bV B.P ns F)=cC B.P ns F:=if_pos h0;have e2:rF B.P (cC B.P ns F) (bV B.P ns F)=nF B.P ns F:=by
  rw[rF,if_pos (show (bV B.P ns F).asked=0 from h0)];show (F.fs++[nF B.P ns F]).headD 0=_;rw[hf];rfl
 rw[e1,e2];refine⟨?_,(S.ef hp).close ⟨rfl,rfl⟩ (by show F.fs++_=_;rw[hf];rfl)⟩;show iU B.known (F.den B.P ns) (G.den B.P ns::r.map (aD.den B.P ns)) (tk T i)=iU B.known (aD.den B.P (cC B.P ns F) { G with ps:=G.ps++[nF B.P ns F] }) (r.map (aD.den B.P (cC B.P ns F))) (tk T (i+1));rw[iH (by decide) ht Wx,Xm _ h0,vI,d1];rw[map_cons,map_cons]at d3;injection d3 with d3 d4
 rw[d3,d4];rfl
theorem QH(S:jz B ns (F::G::r))(hp:F.ps≠[])(h0:F.asked≠0)(hk:F.asked≤F.fs.length+1)(ht:T[i]?=some t)(Wx:t.1=[41]) :
  cA B ns (F::G::r) (tk T i)=cA B (qt (cC B.P ns F) (bV B.P ns F)) ({ G with ps:=G.ps++[rF B.P (cC B.P ns F) (bV B.P ns F)] }::r) (tk T (i+1))∧jz B (qt (cC B.P ns F) (bV B.P ns F)) ({ G with ps:=G.ps++[rF B.P (cC B.P ns F) (bV B.P ns F)] }::r):=by
 obtain⟨d1,d2,d3⟩:=S.DP hp;have S1:=S.ef hp;have e1:qt (cC B.P ns F) (bV B.P ns F)=cC B.P ns F++[(F.asked,F.fs++[nF B.P ns F])]:=if_neg h0;have e2:rF B.P (cC B.P ns F) (bV B.P ns F)=B.P+(cC B.P ns F).length:=if_neg h0;rw[e1,e2];have hl:F.asked≤(F.fs++[nF B.P ns F]).length:=by rw[length_append];simpa using hk
 refine⟨?_,S1.Z9 ⟨rfl,rfl⟩ (by show 1≤F.asked;omega) hl⟩;have dfs:(F.fs++[nF B.P ns F]).map (den B.P (cC B.P ns F))=F.fs.map (den B.P ns)++[grp 2 (F.bs.map (den B.P ns)++[grp 1 (F.ps.map (den B.P ns))])]:=congrArg wL.fs d2;have dn:den B.P (cC B.P ns F++[(F.asked,F.fs++[nF B.P ns F])]) (B.P+(cC B.P ns F).length)=.some_ F.asked (jG (F.fs.map (den B.P ns)++[grp 2 (F.bs.map (den B.P ns)++[grp 1 (F.ps.map (den B.P ns))])])):=by
  rw[oK,dfs]
 have ext:=DN (ns:=cC B.P ns F) (P:=B.P) (l:=G::r) (more:=[(F.asked,F.fs++[nF B.P ns F])]) fun i hi=>S1.lt i (nG hi);rw[d3,map_cons,map_cons]at ext;injection ext with x1 x2
 show iU B.known (F.den B.P ns) (G.den B.P ns::r.map (aD.den B.P ns)) (tk T i)=iU B.known (aD.den B.P (cC B.P ns F++[(F.asked,F.fs++[nF B.P ns F])]) { G with ps:=G.ps++[B.P+(cC B.P ns F).length] }) (r.map (aD.den B.P (cC B.P ns F++[(F.asked,F.fs++[nF B.P ns F])]))) (tk T (i+1));rw[iH (by decide) ht Wx,Tz _ (by exact h0) (by
  show F.asked≤(F.fs.map (den B.P ns)++[_]).length;rw[length_append,length_map];simpa using hk),vI,dn,x1,x2]
 rfl
theorem aas(h0:F.asked≠0)(hk:F.fs.length+1<F.asked)(ht:T[i]?=some t)(Wx:t.1=[41]):cA B ns (F::G::r) (tk T i)=.error t.2:=by
 show iU B.known (F.den B.P ns) (G.den B.P ns::r.map (aD.den B.P ns)) (tk T i)=_;rw[iH (by decide) ht Wx];refine acy _ (by exact h0) ?_;show (F.fs.map (den B.P ns)++[_]).length<F.asked;rw[length_append,length_map];simpa using hk
end
def UG(cs:Cs):Sp:=fun vs H Q E=>∃(H0:Hp)(r lt:Addr)(as:List Addr)(T:List PT)(i:Nat)(b:Addr)(A:d8)(p:Nat)(B:Bk)(ns:List aG)(bl:Addr)(dF:List fD)(F:aD)(st:List aD)(t:PT),vs=[.ref r,.ref bl,.ref b] ∧
 jY cs H0 H r lt as T i b A p B ns bl (obs dF).reverse dF (F::st)∧jz B ns (F::st)∧F.ps≠[]∧Ec (F::st)∧Fw ns (F::st) (4*i)∧RK T∧T[i]?=some t ∧
 (∀(H':Hp)(i':Nat)(A':d8)(ns':List aG)(uH:List fD)(F':aD)(st':List aD)(t':PT),jY cs H0 H' r lt as T i' b A' p B ns' bl (obs uH).reverse uH (F'::st')→jz B ns' (F'::st')→F'.ps≠[]→Ec (F'::st')→Fw ns' (F'::st') (4*i')→i≤i'→T[i']?=some t' →
  (¬t'.1=[41]∨st'=[])→cA B ns (F::st) (tk T i)=cA B ns' (F'::st') (tk T i')→Q .non H') ∧
 (∀k,cA B ns (F::st) (tk T i)=.error k→zB E cs.cst (-100-(k:Int)))
def ShI(cs:Cs)(H0:Hp)(r lt:Addr)(as:List Addr)(T:List PT)(i:Nat)(b:Addr)(p:Nat)(B:Bk)(ns:List aG)(bl:Addr)(st:List aD):L2.St→Hp→Prop:=fun σ H'=>
 ∃(i':Nat)(A':d8)(ns':List aG)(uH:List fD)(F':aD)(st':List aD)(t':PT)(x:Option V),σ=[some (.ref r),some (.ref bl),some (.ref b),x]∧jY cs H0 H' r lt as T i' b A' p B ns' bl (obs uH).reverse uH (F'::st')∧jz B ns' (F'::st')∧F'.ps≠[]∧Ec (F'::st') ∧
  Fw ns' (F'::st') (4*i')∧i≤i'∧T[i']?=some t'∧cA B ns st (tk T i)=cA B ns' (F'::st') (tk T i')
section
variable{P:Program}{w:World}{K:PySem.W.Frag}{mg:Str→Option Value}{base:Heap}{cs:Cs}
theorem Oe:aH ["reader","brackets","book","bracket"] ["reader","brackets","book"] (au iD):=⟨rfl,rfl,rfl,by decide +kernel,rfl,by decide +kernel,by decide +kernel⟩
theorem XR(co:ux cs)(T:bL K mg "close_brackets" iD)(cl:Cls K cs.cD)(qT:Cls K cs.tok)(qU:cG K cs.tok ["kind","word","place"])(wQ:Cls K cs.dJ)(HX:cG K cs.dJ ["asked","formulas","boths","parts"])(hlen:mg "len"=none)(NW:bw P w K mg base 1 cs.cD "now" ["self"] (mG cs))(TK:bw P w K mg base 4 cs.cD "take" ["self","stands"] (o8 cs))(EF:bw P w K mg base 6 cs.dJ "end_formula" ["self","book"] (jW cs))(CL:aX P w K mg base 4 "closed" ["bracket","book"] (Hr cs)):aX P w K mg base 7 "close_brackets" ["reader","brackets","book"] (UG cs):=by
 obtain⟨f,fd,F,hm⟩:=T.ex;refine⟨f,fd,hm,F.kp,F.binds (fun _ _ _ _ _ _ us hl=>match us,hl with | [_,_,_],_=>rfl),Fg F Oe (fun vs H Q E h=>?_) (fun cdv A outer s H vs Q E hr h=>?_)⟩
 ·obtain⟨H0,r,lt,as,T,i,b,A,p,B,ns,bl,dF,F,st,t,rfl,_⟩:=h;rfl
 ·obtain⟨H0,r,lt,as,T,i,b,Ad,p,B,ns,bl,dF,F0,st0,t,rfl,S,ps,hps,inn,fw,tok,ht,kq,kx⟩:=h;refine⟨_,aC (gG PassesOwn.leaving (uT (aU gY (aM (dU (pv 0) cl (NW.mono (by decide:1≤6)) hr aF) rfl) cV (bf _)) (tV (aU tZ (aQ aO (by rfl) hlen PySem.boot_len (ak (pv 1) aA)) aR (bf _)))).pt
   (aq (aY (i:=3) Oe.nd rfl (Or.inl rfl) (J3 plainAttrs_list slot_list_pop type_list_pop S8 (pv 1)))
   (aq (aN (bK (pv 3) wQ EF hr aF (ak (pv 2) aA)))
   (aq (aN (bK (pv 0) cl (TK.mono (by decide:4≤6)) hr bG (ak (eN Nh (aM (pv 3) rfl) (aQ aO (by rfl) hlen PySem.boot_len (ak (aM (pv 3) rfl) aA)) (bf _)) aA)))
   (aC (aN (kY plainAttrs_list PySem.F.slot_list_append PySem.F.type_list_append cZ (aM (fK dR (pv 1) (yc rY aR) (fun _ _=>rfl)) rfl)
    (ak (bN (CL.mono (by decide:4≤6)) hr rfl aF (ak (pv 3) (ak (pv 2) aA))) aA)))))))),?_⟩
  refine lD (ShI cs H0 r lt as T i b p B ns bl (F0::st0)) (fun _ H'=>XQ T r H') ⟨i,Ad,ns,dF,F0,st0,t,none,rfl,S,ps,hps,inn,fw,le_refl _,ht,rfl⟩ ?_;rintro σ H1 ⟨i1,A1,mY,dO,F1,st1,t1,x1,rfl,S1,ps1,Bq,mX,Bc,hi1,ht1,e1⟩;have hil:=(List.getElem?_eq_some_iff.mp ht1).1;have hTl:=tok.few;refine qw qT qU rfl S1.rd ht1 ⟨rfl,_,rfl,bY (fun hc=>?_) fun hc=>?_⟩
  ·rw[sW YZ]at hc;have Wx:=of_decide_eq_true hc;obtain⟨u,hu⟩:=tok.next i1 t1 ht1 (by rw[Wx];simp);refine⟨_,rfl,_,_,rfl,.inl (bJ.of S1.br.lst),_,_,rfl,rfl,_,rfl,bY (fun hc2=>?_) fun hc2=>?_⟩
   ·have hl1:(1:Int)<(((obs dO).reverse.map V.ref).length:Int):=of_decide_eq_true hc2;have lb:((obs dO).reverse.map V.ref).length=dO.length:=by rw[length_map,length_reverse];exact length_map _
    have ls:=Paired.length S1.br.at_;rw[lb,ls]at hl1
    match dO,st1,ps1,mX,Bc,S1,e1,hl1,ls,lb with
    | [],st1,_,_,_,S1,_,_,ls,_=>exact absurd ls (by simp)
    | [a],st1,_,_,_,S1,_,hl1,ls,_=>exact absurd ls (by simp only[length_cons,length_nil]at hl1 ⊢;omega)
    |a::g::dO,[],_,_,_,S1,_,_,ls,_=>exact absurd ls (by simp)
    |a::g::dO,G::st1,ps1,mX,Bc,S1,e1,hl1,ls,lb=>
    obtain⟨dr1,XS⟩:=S1.ob;refine YX ?_;have er:(obs (a::g::dO)).reverse=(obs (g::dO)).reverse++[a.ob]:=by simp[obs]
    have acT:H1 bl=some (.lst ((obs (g::dO)).reverse.map V.ref++[V.ref a.ob])):=by rw[S1.br.lst,er,map_append];rfl
    refine⟨_,rfl,.inl ⟨rfl,_,bJ.of acT⟩,bl,_,V.ref a.ob,rfl,rfl,acT,?_,?_⟩
    ·rw[length_append,length_singleton,Nat.add_sub_cancel,getElem?_append_right (le_refl _),sub_self];rfl
    rw[List.dropLast_concat];have S2:=S1.Ui (obs (g::dO)).reverse;obtain⟨dh,hob⟩:=S2.head.1.ob;refine⟨_,rfl,a.ob,dh,_,rfl,hob,zf _ _ _ _ (by decide +kernel) (by decide +kernel) (by decide +kernel) (by decide +kernel),_,rfl,?_⟩;refine⟨a,F1,b,A1,p,{ B with ns:=mY },rfl,S2.pair Bc (by omega),fun A2 vs2 bl2 RJ H3 br3 bk3 g3 hv3 nd3 Kw Hq YM k3=>?_⟩;have xH:=S2.facts.1;unfold fD.lists at xH;simp only[nodup_cons,mem_cons,not_mem_nil,or_false,not_or]at xH;have X3:(upd H1 bl (.lst ((obs (g::dO)).reverse.map V.ref))) a.fl≠none:=by rw[S2.head.1.fs];simp
    have S3:=S2.swap (a':={ a with bl:=bl2,pl:=RJ }) (ns':=cC B.P mY F1) rfl k3 br3 bk3 g3 (fun y hy=>by
      simp only[fD.lists,mem_cons,not_mem_nil,or_false];rcases hv3 y hy with e|e
      ·exact .inr (.inr e)
      ·exact .inr (.inl e)) (fun y hy=>by
      simp only[fD.lists,mem_cons,not_mem_nil,or_false]at hy;rcases hy with rfl|rfl|rfl
      ·refine .inl ⟨by simp[fD.lists],fun z=>?_⟩;rcases hv3 _ z with e|e
       ·exact xH.1.2 e
       ·exact xH.1.1 e
      ·exact .inr Kw
      ·exact .inr Hq) (by
      simp only[fD.lists,nodup_cons,mem_cons,not_mem_nil,or_false,not_or,not_false_eq_true,nodup_nil,and_true];exact⟨⟨fun z=>X3 (by rw[z];exact Kw),fun z=>X3 (by rw[z];exact Hq)⟩,YM⟩)
    have fw3:=Bc.ef (P:=B.P) Bq (by omega);have ps3:=ps1.ef Bq;obtain⟨dh3,X4⟩:=S3.head.1.ob;refine cF rfl S3.rd (by decide +kernel) (by decide +kernel) ?_;refine⟨_,rfl,a.ob,cs.dJ,dh3,_,_,rfl,X4,wQ,HX _ (by simp),qO _ _ _ _,_,rfl,a.ob,cs.dJ,dh3,_,_,rfl,X4,wQ,HX _ (by simp),iw _ _ _ _,_,_,rfl,.inl (bJ.of S3.head.1.fs),_,_,rfl,rfl,?_⟩;have hlen3:(nV (bV B.P mY F1).fs).length=F1.fs.length+1:=by rw[aK];show (F1.fs++[_]).length=_;simp
    have hcl:decide (((bV B.P mY F1).asked:Int)≤((nV (bV B.P mY F1).fs).length:Int))=decide (F1.asked≤F1.fs.length+1):=by
     rw[hlen3];by_cases z:F1.asked≤F1.fs.length+1
     ·rw[decide_eq_true z,decide_eq_true];show (F1.asked:Int)≤_;omega
     ·rw[decide_eq_false z,decide_eq_false];show ¬(F1.asked:Int)≤_;omega
    refine⟨r,lt,as,T,i1,t1,_,rfl,S3.rd,ht1,fun hq H4 R4 k4=>?_,fun hq=>?_⟩
    ·have hk:F1.asked≤F1.fs.length+1:=by
      have hq':decide (((bV B.P mY F1).asked:Int)≤((nV (bV B.P mY F1).fs).length:Int))=true:=hq;rw[hcl]at hq';exact of_decide_eq_true hq'
     have S4:=S3.moved co R4 k4;obtain⟨dh4,ah1⟩:=S4.head.1.ob;have tl4:=S4.head.2;cases tl4 with
     |cons bg4 tl4=>
     obtain⟨dg4,afj⟩:=bg4.ob;have afk:H4 bl=some (.lst (((obs dO).reverse.map V.ref)++[V.ref g.ob])):=by
      rw[S4.br.lst];have:(obs (g::dO)).reverse=(obs dO).reverse++[g.ob]:=by simp[obs]
      rw[this,map_append];rfl
     refine⟨_,rfl,_,rfl,bl,_,_,V.ref g.ob,rfl,rfl,bJ.of afk,yq _ _,g.ob,cs.dJ,dg4,_,_,rfl,afj,wQ,HX _ (by simp),qP _ _ _ _,.inl ⟨rfl,_,bJ.of bg4.ps⟩,_,rfl,_,rfl,?_⟩;have afl:(bV B.P mY F1).fs≠[]:=by show F1.fs++[_]≠[];simp
     have ah3:=fw3.le;refine⟨{ a with bl:=bl2,pl:=RJ },bV B.P mY F1,b,A2,p,{ B with ns:=cC B.P mY F1 },rfl,S4.head.1,S4.bk,(S4.facts.2.1 _ (by simp[fD.lists])).1,afl,by show (cC B.P mY F1).length<100000;omega,fun A5 vs5 H5 bk5 g5 hv5 hl5 k5=>?_⟩;have S5:=S4.gone (ns':=qt (cC B.P mY F1) (bV B.P mY F1)) k5 bk5 g5 hv5;have fw5:=fw3.cl (P:=B.P) (x:=rF B.P (cC B.P mY F1) (bV B.P mY F1)) (by show 1≤(F1.fs++[_]).length;simp) (by omega);have hG:=Bc.le;rw[flatMap_cons,flatMap_cons,length_append,length_append,jr G]at hG;refine⟨g.pl,_,_,rfl,rfl,S5.head.1.ps,?_,?_⟩
     ·rw[aK];exact lt_trans (show _<100000 by omega) bM
     have S6:=S5.part (rF B.P (cC B.P mY F1) (bV B.P mY F1));obtain⟨dr6,ob6⟩:=S6.ob;have key:cA B mY (F1::G::st1) (tk T i1)=cA B (qt (cC B.P mY F1) (bV B.P mY F1)) ({ G with ps:=G.ps++[rF B.P (cC B.P mY F1) (bV B.P mY F1)] }::st1) (tk T (i1+1))∧jz B (qt (cC B.P mY F1) (bV B.P mY F1)) ({ G with ps:=G.ps++[rF B.P (cC B.P mY F1) (bV B.P mY F1)] }::st1):=by
      by_cases h0:F1.asked=0
      ·exact Uz ps1 Bq h0 (mX.pl F1 (by simp) h0) ht1 Wx
      ·exact QH ps1 Bq h0 hk ht1 Wx
     refine⟨⟨i1+1,A5,_,g::dO,{ G with ps:=G.ps++[rF B.P (cC B.P mY F1) (bV B.P mY F1)] },st1,u,_,rfl,S6,key.2,by simp,mX.tail.head rfl (fun z=>mX.pl G (by simp) z),fw5.mono (by omega),by omega,hu,e1.trans key.1⟩,?_⟩;refine lt_of_le_of_lt (le_of_eq (jO ob6)) ?_;rw[jO XS];omega
    ·have hk:¬F1.asked≤F1.fs.length+1:=by
      have hq':decide (((bV B.P mY F1).asked:Int)≤((nV (bV B.P mY F1).fs).length:Int))=false:=hq;rw[hcl]at hq';exact of_decide_eq_false hq'
     exact kx _ (e1.trans (aas (by omega) (by omega) ht1 Wx))
   ·have hl1:¬(1:Int)<(((obs dO).reverse.map V.ref).length:Int):=fun z=>hc2 (decide_eq_true z);have lb:((obs dO).reverse.map V.ref).length=dO.length:=by rw[length_map,length_reverse];exact length_map _
    have ls:=Paired.length S1.br.at_;rw[lb,ls,length_cons]at hl1;exact kq H1 i1 A1 mY dO F1 st1 t1 S1 ps1 Bq mX Bc hi1 ht1 (.inr (List.eq_nil_of_length_eq_zero (by omega))) e1
  ·rw[sW YZ]at hc;exact Gw (kq H1 i1 A1 mY dO F1 st1 t1 S1 ps1 Bq mX Bc hi1 ht1 (.inl fun z=>hc (decide_eq_true z)) e1)
end
section
variable{B:Bk}{ns:List aG}{F G:aD}{r:List aD}{T:List PT}{i:Nat}{t:PT}
theorem aat(ht:T[i]?=some t)(h:t.1=[38]):cA B ns (F::r) (tk T i)=bA B ns (F::r) (tk T (i+1)):=by
 show iU _ _ _ (tk T i)=_;rw[iH (by decide) ht h,acw];rfl
theorem acU(S:jz B ns (F::r))(ht:T[i]?=some t)(h:t.1=[124]):cA B ns (F::r) (tk T i)=bA B (gW ns F) (dN B.P ns F::r) (tk T (i+1)):=by
 obtain⟨d1,d2⟩:=S.TX;show iU _ _ _ (tk T i)=gj _ (aD.den B.P (gW ns F) (dN B.P ns F)) (r.map (aD.den B.P (gW ns F))) _;rw[iH (by decide) ht h,ae4,d1,d2];rfl
theorem UJ(S:jz B ns (F::G::r))(hp:F.ps≠[])(h0:F.asked≠0)(ht:T[i]?=some t)(h:t.1=[44]):cA B ns (F::G::r) (tk T i)=bA B (cC B.P ns F) (bV B.P ns F::G::r) (tk T (i+1)):=by
 obtain⟨d1,d2,d3⟩:=S.DP hp;show iU _ _ _ (tk T i)=gj _ (aD.den B.P (cC B.P ns F) (bV B.P ns F)) ((G::r).map (aD.den B.P (cC B.P ns F))) _;rw[iH (by decide) ht h,d2,d3];exact Xl _ (by exact h0) _
end
def Cu(cs:Cs):Sp:=fun vs H Q E=>∃(H0:Hp)(r lt:Addr)(as:List Addr)(T:List PT)(i:Nat)(b:Addr)(A:d8)(p:Nat)(B:Bk)(ns:List aG)(bl:Addr)(lo:List Addr)(a:fD)(dF:List fD)(F:aD)(st:List aD)(t:PT),vs=[.ref r,.ref a.ob,.ref b] ∧
 jY cs H0 H r lt as T i b A p B ns bl lo (a::dF) (F::st)∧jz B ns (F::st)∧F.ps≠[]∧Ec (F::st)∧Fw ns (F::st) (4*i)∧RK T∧T[i]?=some t ∧
 (∀(H':Hp)(A':d8)(ns':List aG)(a':fD)(F':aD)(t':PT),jY cs H0 H' r lt as T (i+1) b A' p B ns' bl lo (a'::dF) (F'::st)→a'.ob=a.ob→jz B ns' (F'::st)→Ec (F'::st)→Fw ns' (F'::st) (4*(i+1))→T[i+1]?=some t' →
  cA B ns (F::st) (tk T i)=bA B ns' (F'::st) (tk T (i+1))→Q (.bl true) H') ∧
 (¬t.1=[124]→¬t.1=[38]→(¬t.1=[44]∨F.asked=0)→Q (.bl false) H)
section
variable{P:Program}{w:World}{K:PySem.W.Frag}{mg:Str→Option Value}{base:Heap}{cs:Cs}
theorem zL:aH ["reader","bracket","book","word"] ["reader","bracket","book"] (au jN):=⟨rfl,rfl,rfl,by decide +kernel,rfl,by decide +kernel,by decide +kernel⟩
theorem KZ(co:ux cs)(T:bL K mg "read_between" jN)(cl:Cls K cs.cD)(qT:Cls K cs.tok)(qU:cG K cs.tok ["kind","word","place"])(wQ:Cls K cs.dJ)(HX:cG K cs.dJ ["asked","formulas","boths","parts"])(NW:bw P w K mg base 1 cs.cD "now" ["self"] (mG cs))(TW:bw P w K mg base 5 cs.cD "take_written" ["self","word"] (kI cs))(EB:bw P w K mg base 5 cs.dJ "end_both" ["self","book"] (vD cs))(EF:bw P w K mg base 6 cs.dJ "end_formula" ["self","book"] (jW cs)) :
  aX P w K mg base 7 "read_between" ["reader","bracket","book"] (Cu cs):=by
 obtain⟨f,fd,F,hm⟩:=T.ex;refine⟨f,fd,hm,F.kp,F.binds (fun _ _ _ _ _ _ us hl=>match us,hl with | [_,_,_],_=>rfl),Fg F zL (fun vs H Q E h=>?_) (fun cdv A outer s H vs Q E hr h=>?_)⟩
 ·obtain⟨H0,r,lt,as,T,i,b,A,p,B,ns,bl,lo,a,dF,F,st,t,rfl,_⟩:=h;rfl
 ·obtain⟨H0,r,lt,as,T,i,b,Ad,p,B,ns,bl,lo,a,dF,F0,st,t,rfl,S,ps,hps,inn,fw,tok,ht,kq,kf⟩:=h;refine⟨_,aq (aY (i:=3) zL.nd rfl (Or.inl rfl) (aM (dU (pv 0) cl (NW.mono (by decide:1≤6)) hr aF) rfl))
   (aq (dW (aU gY (pv 3) cV (bf _)) (aC (aN (bK (pv 1) wQ (EB.mono (by decide:5≤6)) hr aF (ak (pv 2) aA))))
    (aC (dW (uT (aU gY (pv 3) cV (bf _)) (tV (aU tZ (aM (pv 1) rfl) aR (bf _)))).pt (aC (aN (bK (pv 1) wQ EF hr aF (ak (pv 2) aA))))
     (aC (dW (aU yd (pv 3) cV (bf _)) (aC (aZ Ft)) bW)))))
   (aq (aN (bK (pv 0) cl (TW.mono (by decide:5≤6)) hr bG (ak (pv 3) aA)))
   (aC (aZ Ft)))),?_⟩
  have hil:=(List.getElem?_eq_some_iff.mp ht).1;have hTl:=tok.few;obtain⟨dh,hob⟩:=S.head.1.ob;have xH:=S.facts.1;unfold fD.lists at xH;simp only[nodup_cons,mem_cons,not_mem_nil,or_false,not_or]at xH;have X3:H a.fl≠none:=by rw[S.head.1.fs];simp
  have sbl:H a.bl≠none:=by rw[S.head.1.bs];simp
  refine qw qT qU rfl S.rd ht ?_;refine⟨_,rfl,rfl,_,rfl,bY (fun hc=>?_) fun hc=>?_⟩
  ·rw[sW Uw]at hc;have h1:=of_decide_eq_true hc;obtain⟨u,hu⟩:=tok.next i t ht (by rw[h1];simp);refine⟨_,rfl,a.ob,dh,_,rfl,hob,zf _ _ _ _ (by decide +kernel) (by decide +kernel) (by decide +kernel) (by decide +kernel),_,rfl,?_⟩;refine⟨a,F0,b,Ad,p,{ B with ns:=ns },rfl,S.pair fw (by omega),fun A2 vs2 RJ H2 br2 bk2 g2 hv2 hl2 Hq k2=>?_⟩;have S2:=S.swap (a':={ a with pl:=RJ }) (ns':=gW ns F0) rfl (k2.mono fun x hx=>by simp at hx ⊢;rcases hx with rfl|rfl|rfl<;>simp) br2 bk2 g2 (fun y hy=>by rw[hv2 y hy];simp[fD.lists]) (fun y hy=>by
     simp only[fD.lists,mem_cons,not_mem_nil,or_false]at hy;rcases hy with rfl|rfl|rfl
     ·exact .inl ⟨by simp[fD.lists],fun z=>xH.1.2 (hv2 _ z)⟩
     ·exact .inl ⟨by simp[fD.lists],fun z=>xH.2.1 (hv2 _ z)⟩
     ·exact .inr Hq) (by
     simp only[fD.lists,nodup_cons,mem_cons,not_mem_nil,or_false,not_or,not_false_eq_true,nodup_nil,and_true];exact⟨⟨xH.1.1,fun z=>X3 (by rw[z];exact Hq)⟩,fun z=>sbl (by rw[z];exact Hq)⟩)
   refine cF rfl S2.rd (by decide +kernel) (by decide +kernel) ?_;refine⟨_,rfl,r,lt,as,T,i,t,_,rfl,S2.rd,ht,fun _ H3 R3 k3=>?_,fun hq=>absurd rfl hq⟩;exact kq H3 A2 _ _ _ u (S2.moved co R3 k3) rfl (ps.eb hps) (inn.head rfl fun z=>inn.pl F0 (by simp) z) ((fw.eb (P:=B.P) hps (by omega)).mono (by omega)) hu (acU ps ht h1)
  ·rw[sW Uw]at hc;have h1:¬t.1=[124]:=fun z=>hc (decide_eq_true z);refine⟨_,rfl,rfl,_,rfl,bY (fun hc2=>?_) fun hc2=>?_⟩
   ·rw[sW HN]at hc2;have h2:=of_decide_eq_true hc2;obtain⟨u,hu⟩:=tok.next i t ht (by rw[h2];simp);refine⟨_,rfl,a.ob,cs.dJ,dh,_,_,rfl,hob,wQ,HX _ (by simp),qO _ _ _ _,_,_,rfl,rfl,_,rfl,bY (fun hc3=>?_) fun hc3=>?_⟩
    ·have h3:(0:Int)<(F0.asked:Int):=of_decide_eq_true hc3;have h0:F0.asked≠0:=by omega
     match st,S,ps,inn,fw,kq,kf with
     | [],S,ps,inn,fw,kq,kf=>exact absurd inn.bot h0
     |G::st,S,ps,inn,fw,kq,kf=>
     refine⟨_,rfl,a.ob,dh,_,rfl,hob,zf _ _ _ _ (by decide +kernel) (by decide +kernel) (by decide +kernel) (by decide +kernel),_,rfl,?_⟩;refine⟨a,F0,b,Ad,p,{ B with ns:=ns },rfl,S.pair fw (by omega),fun A2 vs2 bl2 RJ H2 br2 bk2 g2 hv2 nd2 Kw Hq YM k2=>?_⟩;have S2:=S.swap (a':={ a with bl:=bl2,pl:=RJ }) (ns':=cC B.P ns F0) rfl k2 br2 bk2 g2 (fun y hy=>by
       simp only[fD.lists,mem_cons,not_mem_nil,or_false];rcases hv2 y hy with e|e
       ·exact .inr (.inr e)
       ·exact .inr (.inl e)) (fun y hy=>by
       simp only[fD.lists,mem_cons,not_mem_nil,or_false]at hy;rcases hy with rfl|rfl|rfl
       ·refine .inl ⟨by simp[fD.lists],fun z=>?_⟩;rcases hv2 _ z with e|e
        ·exact xH.1.2 e
        ·exact xH.1.1 e
       ·exact .inr Kw
       ·exact .inr Hq) (by
       simp only[fD.lists,nodup_cons,mem_cons,not_mem_nil,or_false,not_or,not_false_eq_true,nodup_nil,and_true];exact⟨⟨fun z=>X3 (by rw[z];exact Kw),fun z=>X3 (by rw[z];exact Hq)⟩,YM⟩)
     refine cF rfl S2.rd (by decide +kernel) (by decide +kernel) ?_;refine⟨_,rfl,r,lt,as,T,i,t,_,rfl,S2.rd,ht,fun _ H3 R3 k3=>?_,fun hq=>absurd rfl hq⟩;exact kq H3 A2 _ _ _ u (S2.moved co R3 k3) rfl (ps.ef hps) (inn.head rfl fun z=>absurd z h0) ((fw.ef (P:=B.P) hps (by omega)).mono (by omega)) hu (UJ ps hps h0 ht h2)
    ·have h0:F0.asked=0:=by
      have:¬(0:Int)<(F0.asked:Int):=fun z=>hc3 (decide_eq_true z);omega
     have h38:¬t.1=[38]:=by rw[h2];decide
     refine⟨_,rfl,rfl,_,rfl,bY (fun _=>?_) fun hc4=>?_⟩
     ·exact kf h1 h38 (.inr h0)
     ·rw[sW Uv,decide_eq_false h38]at hc4;exact absurd rfl hc4
   ·rw[sW HN]at hc2;have h2:¬t.1=[44]:=fun z=>hc2 (decide_eq_true z);refine Gw ?_;refine⟨_,rfl,rfl,_,rfl,bY (fun hc4=>?_) fun hc4=>?_⟩
    ·rw[sW Uv]at hc4;exact kf h1 (fun z=>by rw[decide_eq_true z]at hc4;exact absurd hc4 (by decide)) (.inl h2)
    ·rw[sW Uv]at hc4;have h38:t.1=[38]:=Decidable.byContradiction fun z=>hc4 (by rw[decide_eq_false z];rfl);obtain⟨u,hu⟩:=tok.next i t ht (by rw[h38];simp);refine cF rfl S.rd (by decide +kernel) (by decide +kernel) ?_;refine⟨_,rfl,r,lt,as,T,i,t,_,rfl,S.rd,ht,fun _ H3 R3 k3=>?_,fun hq=>absurd rfl hq⟩;exact kq H3 Ad ns a F0 u (S.moved co R3 k3) rfl ps inn (fw.mono (by omega)) hu (aat ht h38)
end
def Sim(A A':d8):Prop:=A'.na=A.na∧A'.ma=A.ma∧A'.la=A.la∧A'.pa=A.pa
theorem jY.sim{cs:Cs}(co:ux cs){H0 H:Hp}{r lt b bl:Addr}{as lo:List Addr}{T:List PT}{i:Nat}{A A':d8}{p:Nat}{B:Bk}{ns:List aG}{dF:List fD}{st:List aD}(R0:aV cs H0 b A p B)(S:jY cs H0 H r lt as T i b A' p B ns bl lo dF st):Sim A A':=by
 obtain⟨dx,ob0⟩:=R0.ob;obtain⟨dr,j,hr⟩:=S.r0;obtain⟨xs,hn⟩:=S.XD;have h1:=S.kp _ _ ob0 (by
  simp only[mem_cons,not_mem_nil,or_false,not_or];refine⟨iW ob0 hr ?_,dY ob0 hn⟩;intro z;injection z with z
  exact co.rb z.symm)
 obtain⟨dy,wO⟩:=S.bk.ob;rw[h1]at wO;injection wO with wO
 injection wO with _ _ wO
 unfold RB at wO;simp only[List.cons.injEq,Prod.mk.injEq,V.ref.injEq,true_and,and_true]at wO;exact⟨wO.2.1.symm,wO.2.2.2.symm,wO.2.2.1.symm,wO.1.symm⟩
def Cv(cs:Cs):Sp:=fun vs H Q E=>∃(r lt:Addr)(as:List Addr)(T:List PT)(i:Nat)(b:Addr)(A:d8)(p:Nat)(B:Bk)(t:PT),vs=[.ref r,.ref b]∧bO cs H r lt as T i∧aV cs H b A p B∧lt≠A.na∧B.Ok∧Fw B.ns [] (4*i)∧RK T∧T[i]?=some t ∧
 (∀(H':Hp)(j:Nat)(A':d8)(ns':List aG)(x:Nat)(u:PT),bO cs H' r lt as T j→aV cs H' b A' p { B with ns:=ns' }→Sim A A'→Kp [r,A.na] H H'→jz B ns' [⟨0,[x],[],[]⟩]→Fw ns' [] (4*j+2)→i<j→T[j]?=some u →
  formula B.known (tk T i)=.ok (den B.P ns' x,tk T j)→Q (.int (x:Int)) H') ∧
 (∀k,formula B.known (tk T i)=.error k→zB E cs.cst (-100-(k:Int)))
def FoI(cs:Cs)(H0:Hp)(r lt:Addr)(as:List Addr)(T:List PT)(i:Nat)(b:Addr)(p:Nat)(B:Bk)(bl:Addr):L2.St→Hp→Prop:=fun σ H'=>
 ∃(g:Bool)(i':Nat)(A':d8)(ns':List aG)(a':fD)(uH:List fD)(F':aD)(st':List aD)(t':PT)(x:Option V),σ=[some (.ref r),some (.ref b),some (.ref bl),some (.bl g),x]∧jY cs H0 H' r lt as T i' b A' p B ns' bl (obs (a'::uH)).reverse (a'::uH) (F'::st') ∧
  jz B ns' (F'::st')∧Ec (F'::st')∧Fw ns' (F'::st') (4*i')∧i≤i'∧T[i']?=some t' ∧
  (g=true→formula B.known (tk T i)=bA B ns' (F'::st') (tk T i')) ∧
  (g=false→i<i'∧F'.ps≠[]∧(¬t'.1=[41]∨st'=[])∧¬t'.1=[124]∧¬t'.1=[38]∧(¬t'.1=[44]∨F'.asked=0)∧formula B.known (tk T i)=cA B ns' (F'::st') (tk T i'))
theorem HY(a:fD)(dF:List fD):(obs (a::dF)).reverse.map V.ref=(obs dF).reverse.map V.ref++[V.ref a.ob]:=by simp[obs]
section
variable{B:Bk}{ns:List aG}{F G:aD}{r:List aD}{T:List PT}{i:Nat}{t:PT}
theorem X5(k:B.Ok)(S:jz B ns (F::r)){x:Nat}(ht:T[i]?=some t)(h1:kindS t.1="name")(h2:look B.names t.1=some x):bA B ns (F::r) (tk T i)=cA B ns ({ F with ps:=F.ps++[x] }::r) (tk T (i+1)):=by
 show gj _ _ _ _=iU _ (aD.den B.P ns { F with ps:=F.ps++[x] }) _ _;rw[XC ht h1 (by rw[Bk.yZ,h2];rfl),vI,S.old (k.NK h2)]
theorem aav(ht:T[i]?=some t)(h1:¬t.1=[41])(h2:¬t.1=[124])(h3:¬t.1=[38])(h4:¬t.1=[44]∨F.asked=0):cA B ns (F::G::r) (tk T i)=.error t.2:=by
 show iU _ _ (_::_) _=_;rw[acz (by rw[rM (by decide) ht];exact decide_eq_false h3) (by rw[rM (by decide) ht];exact decide_eq_false h2) (by rw[rM (by decide) ht];exact decide_eq_false h1) (h4.imp (fun z=>by rw[rM (by decide) ht];exact decide_eq_false z) fun z=>z),jC ht]
theorem aaw(S:jz B ns [F])(hp:F.ps≠[])(ht:T[i]?=some t)(h2:¬t.1=[124])(h3:¬t.1=[38]):cA B ns [F] (tk T i)=.ok (den B.P (cC B.P ns F) (nF B.P ns F),tk T i):=by
 rw[(S.DP hp).1];exact acA (by rw[rM (by decide) ht];exact decide_eq_false h3) (by rw[rM (by decide) ht];exact decide_eq_false h2)
end
section
variable{P:Program}{w:World}{K:PySem.W.Frag}{mg:Str→Option Value}{base:Heap}{cs:Cs}
theorem lE:aH ["reader","book","brackets","goes_on","name"] ["reader","book"] (au jM):=⟨rfl,rfl,rfl,by decide +kernel,rfl,by decide +kernel,by decide +kernel⟩
theorem K4(co:ux cs)(T:bL K mg "read_formula" jM)(cl:Cls K cs.cD)(gR:Cls K cs.boo)(naB:cG K cs.boo ["prime","people","nodes","lets","names"])(wQ:Cls K cs.dJ)(HX:cG K cs.dJ ["asked","formulas","boths","parts"])(hlen:mg "len"=none)(BR:lq P w K mg base 1 "Bracket" cs.dJ ["self","asked"] (qR cs))(BG:aX P w K mg base 6 "begin_brackets" ["reader","brackets"] (Oc cs))(KN:bw P w K mg base 5 cs.cD "take_known_name" ["self","names"] (vG cs true))(SH:aX P w K mg base 7 "close_brackets" ["reader","brackets","book"] (UG cs))(BW:aX P w K mg base 7 "read_between" ["reader","bracket","book"] (Cu cs))(TK:bw P w K mg base 4 cs.cD "take" ["self","stands"] (o8 cs))(EF:bw P w K mg base 6 cs.dJ "end_formula" ["self","book"] (jW cs)) :
  aX P w K mg base 8 "read_formula" ["reader","book"] (Cv cs):=by
 obtain⟨f,fd,F,hm⟩:=T.ex;refine⟨f,fd,hm,F.kp,F.binds (fun _ _ _ _ _ _ us hl=>match us,hl with | [_,_],_=>rfl),Fg F lE (fun vs H Q E h=>?_) (fun cdv A outer s H vs Q E hr h=>?_)⟩
 ·obtain⟨r,lt,as,T,i,b,A,p,B,t,rfl,_⟩:=h;rfl
 ·obtain⟨r,lt,as,T,i,b,Ad,p,B,t,rfl,R,Rb,hlt,ok,fw,tok,ht,kq,kx⟩:=h;refine⟨_,aq (aY (i:=2) lE.nd rfl (Or.inl rfl) (gw (ak (sJ (BR.mono (by decide:1≤6)) hr rfl aF (ak aR aA)) aA)))
   (aq (aY (i:=3) lE.nd rfl (Or.inl rfl) Ft)
   (aq (gG PassesOwn.leaving (mL (pv 3))
    (aq (aN (bN (BG.mono (by decide:6≤7)) hr rfl bG (ak (pv 0) (ak (pv 2) aA))))
    (aq (aY (i:=4) lE.nd rfl (Or.inl rfl) (bK (pv 0) cl (KN.mono (by decide:5≤7)) hr bG (ak (aM (pv 1) rfl) aA)))
    (aq (aN (kY plainAttrs_list PySem.F.slot_list_append PySem.F.type_list_append cZ (aM (fK dR (pv 2) (yc rY aR) (fun _ _=>rfl)) rfl) (ak (W9 (yG hr) (aM (pv 1) rfl) (pv 4) (fun _ _=>rfl)) aA)))
    (aq (aN (bN SH hr rfl bG (ak (pv 0) (ak (pv 2) (ak (pv 1) aA)))))
    (aC (aY (i:=3) lE.nd rfl (Or.inl rfl) (bN BW hr rfl bG (ak (pv 0) (ak (fK dR (pv 2) (yc rY aR) (fun _ _=>rfl)) (ak (pv 1) aA)))))))))))
   (aq (dW (aU tZ (aQ aO (by rfl) hlen PySem.boot_len (ak (pv 2) aA)) aR (bf _)) (aC (aN (bK (pv 0) cl (TK.mono (by decide:4≤7)) hr bG (ak Ft aA)))) bW)
   (aq (aN (bK (fK dR (pv 2) aR (fun _ _=>rfl)) wQ (EF.mono (by decide:6≤7)) hr aF (ak (pv 1) aA)))
   (aC (aZ (fK dR (aM (fK dR (pv 2) aR (fun _ _=>rfl)) rfl) aR (fun _ _=>rfl)))))))),?_⟩
  intro x RG nx ndx nex;refine⟨x,RG,0,rfl,ao,fun fl xJ pl H1 h1 hfl vg hpl NT Kw Hq nd k1=>⟨rfl,by show 1≤sizeLine;decide,fun bl nb=>?_⟩⟩;have s1:Same H H1:=Same.made nx ndx fun c o e hc=>k1 c o e (by simpa using hc);have kb:Kp [] H1 (upd H1 bl (.lst [V.ref x])):=Kp.refl.upd (.inr nb);have s2:Same H (upd H1 bl (.lst [V.ref x])):=s1.trans kb.aac;have hTl:=tok.few;obtain⟨dxb,obb⟩:=Rb.ob;have ne1:∀{y:Addr}{o:HO},H1 y=some o→y≠bl:=fun h=>aB h nb;have S0:jY cs H (upd H1 bl (.lst [V.ref x])) r lt as T i b Ad p B B.ns bl [x] [⟨x,fl,xJ,pl⟩] [aD.empty 0]:=by
   obtain⟨dr,obr⟩:=R.ob;refine⟨R.tk,⟨dr,_,obr⟩,⟨_,Rb.nodes⟩,hlt,⟨dr,s2 _ _ obr⟩,Rb.keep (Kp.same s2 []) (fun y hy=>by simp at hy),⟨ao,.cons ⟨⟨RG,?_⟩,?_,?_,?_⟩ .nil,?_,fun y hy=>?_,by simp[obs]⟩,Kp.same s2 _,fun y hy=>?_⟩
   ·rw[aj (ne1 h1)];exact h1
   ·show upd _ _ _ fl=_;rw[aj (ne1 hfl)];exact hfl
   ·show upd _ _ _ xJ=_;rw[aj (ne1 vg)];exact vg
   ·show upd _ _ _ pl=_;rw[aj (ne1 hpl)];exact hpl
   ·show (bl::([fl,xJ,pl]++[])).Nodup;rw[append_nil,nodup_cons];refine⟨fun z=>?_,nd⟩;simp only[mem_cons,not_mem_nil,or_false]at z;rcases z with z|z|z
    ·exact ne1 hfl z.symm
    ·exact ne1 vg z.symm
    ·exact ne1 hpl z.symm
   ·intro z;obtain⟨xs,e⟩:=Rb.zp z;have hy':y=bl∨y=fl∨y=xJ∨y=pl:=by simpa[pq,fD.lists] using hy
    rcases hy' with rfl|rfl|rfl|rfl
    ·exact absurd rfl (ne1 (s1 _ _ e))
    ·rw[dw NT]at e;cases e
    ·rw[dw Kw]at e;cases e
    ·rw[dw Hq]at e;cases e
   ·have hy':y=bl∨y=x∨y=fl∨y=xJ∨y=pl:=by
     rcases hy with h|h|h
     ·exact .inl h
     ·exact .inr (.inl (by simpa[obs] using h))
     ·exact .inr (.inr (by simpa[pq,fD.lists] using h))
    rcases hy' with rfl|rfl|rfl|rfl|rfl
    ·exact s1.free nb
    ·exact nx
    ·exact dw NT
    ·exact dw Kw
    ·exact dw Hq
  refine lD (FoI cs H r lt as T i b p B bl) (fun _ H'=>XQ T r H') ⟨true,i,Ad,B.ns,⟨x,fl,xJ,pl⟩,[],aD.empty 0,[],t,none,rfl,S0,jz.start ok,⟨rfl,fun G hG _=>by simp at hG;subst hG;rfl⟩,⟨fw.le,fw.wi,by show 1≤_;omega⟩,le_refl _,ht,fun _=>Bl _ _,fun z=>absurd z (by decide)⟩ ?_;rintro σ H1' ⟨g,i1,A1,mY,a1,dO,F1,st1,t1,x1,rfl,S1,ps1,mX,Bc,hi1,ht1,eT,eF⟩;have hil:=(List.getElem?_eq_some_iff.mp ht1).1;refine⟨_,rfl,g,rfl,?_⟩;cases g with
  |true=>
   refine Gx (YX ?_);have e1:=eT rfl;refine⟨_,rfl,_,rfl,H,r,lt,as,T,i1,b,A1,p,B,mY,bl,a1::dO,F1::st1,t1,rfl,S1,ps1,mX,Bc,tok,ht1,fun H2 i2 aax st2 t2 S2 ps2 QJ fw2 hi2 ht2 n40 afq e2=>?_,fun k hk=>kx k (e1.trans hk)⟩;have ah9:=(List.getElem?_eq_some_iff.mp ht2).1
   match st2,S2,ps2,QJ,fw2,e2 with
   | [],_,_,QJ,_,_=>exact absurd QJ.bot (by simp[Bot])
   |F2::st2,S2,ps2,QJ,fw2,e2=>
   match aax,S2 with
   | [],S2=>exact absurd (Paired.length S2.br.at_) (by simp)
   |a2::aax,S2=>
   obtain⟨db2,NQ⟩:=S2.bk.ob;refine cF rfl S2.rd (by decide +kernel) (by decide +kernel) ?_;refine⟨_,rfl,b,cs.boo,db2,_,_,rfl,NQ,gR,naB _ (by simp),kE _ _ _ _ _,?_⟩;have hval:lR (xK B.names) (Sum.inr (bT t2.1))=(look B.names t2.1).map fun (i:Nat)=>V.int (i:Int):=uE _ _;refine⟨r,lt,as,T,i2,t2,A1.ma,xK B.names,rfl,S2.rd,ht2,S2.bk.names,fun hq H3 R3 k3=>?_,fun hq=>?_⟩
   ·obtain⟨hk,hsome⟩:=hq;rw[hval]at hsome;cases hlook:look B.names t2.1 with
    |none=>rw[hlook]at hsome;cases hsome
    |some z=>
    have S3:=S2.moved co R3 k3;obtain⟨u,hu⟩:=tok.next i2 t2 ht2 (fun e=>by rw[e]at hk;exact absurd hk (by decide +kernel));obtain⟨hd3,tl3⟩:=S3.head;obtain⟨dh3,X4⟩:=hd3.ob;obtain⟨db3,ob3⟩:=S3.bk.ob;have acW:=S3.br.lst;rw[HY]at acW;have dg:rD H3 A1.ma (kV (Sum.inr (bT t2.1))) (some (V.int (z:Int))):=by
     have d:=rD.k (k:=Sum.inr (bT t2.1)) (show H3 A1.ma=some (.dK (xK B.names)) from S3.bk.names);rw[hval,hlook]at d;exact d
    refine⟨_,rfl,_,rfl,bl,_,_,V.ref a2.ob,rfl,rfl,bJ.of acW,yq _ _,a2.ob,cs.dJ,dh3,_,_,rfl,X4,wQ,HX _ (by simp),qP _ _ _ _,.inl ⟨rfl,_,bJ.of hd3.ps⟩,
     _,rfl,b,cs.boo,db3,_,_,rfl,ob3,gR,naB _ (by simp),kE _ _ _ _ _,_,rfl,A1.ma,_,rfl,dg,a2.pl,_,_,rfl,rfl,hd3.ps,?_,?_⟩
    ·rw[aK];have h:=fw2.le;rw[flatMap_cons,length_append,jr]at h;exact lt_trans (show _<100000 by omega) bM
    have S4:=S3.part z;have ps4:=ps2.part ok hlook;have fw4:Fw mY ({ F2 with ps:=F2.ps++[z] }::st2) (4*(i2+1)):=(fw2.part z).mono (by omega);have e4:formula B.known (tk T i)=cA B mY ({ F2 with ps:=F2.ps++[z] }::st2) (tk T (i2+1)):=e1.trans (e2.trans (X5 ok ps2 ht2 hk hlook));refine⟨_,rfl,_,rfl,_,rfl,H,r,lt,as,T,i2+1,b,A1,p,B,mY,bl,a2::aax,{ F2 with ps:=F2.ps++[z] },st2,u,rfl,S4,ps4,by simp,QJ.head rfl (fun q=>QJ.pl F2 (by simp) q),fw4,tok,hu,fun H5 i5 A5 ns5 Ia F5 st5 t5 S5 ps5 acX acY fw5 hi5 ht5 h5 e5=>?_,fun k hk=>kx k (e4.trans hk)⟩;have aic:=(List.getElem?_eq_some_iff.mp ht5).1
    match Ia,S5 with
    | [],S5=>exact absurd (Paired.length S5.br.at_) (by simp)
    |a5::Ia,S5=>
    have acZ:=S5.br.lst;rw[HY]at acZ;obtain⟨dr1,XS⟩:=S1.ob;refine⟨_,rfl,_,rfl,_,rfl,bl,_,_,V.ref a5.ob,rfl,rfl,bJ.of acZ,yq _ _,_,rfl,H,r,lt,as,T,i5,b,A5,p,B,ns5,bl,(obs (a5::Ia)).reverse,a5,Ia,F5,st5,t5,rfl,S5,ps5,acX,acY,fw5,tok,ht5,fun H6 A6 ns6 a6 F6 t6 S6 ha6 ps6 afu fw6 ht6 e6=>?_,fun n1 n2 n3=>?_⟩
    ·obtain⟨dr6,afv⟩:=S6.ob;have eo:obs (a6::Ia)=obs (a5::Ia):=by simp only[obs,map_cons,ha6]
     refine⟨⟨true,i5+1,A6,ns6,a6,Ia,F6,st5,t6,_,rfl,by rw[eo];exact S6,ps6,afu,fw6,by omega,ht6,fun _=>e4.trans (e5.trans e6),fun q=>absurd q (by decide)⟩,?_⟩;rw[jO XS,jO afv];omega
    ·obtain⟨dr5,afw⟩:=S5.ob;refine⟨⟨false,i5,A5,ns5,a5,Ia,F5,st5,t5,_,rfl,S5,ps5,acY,fw5,by omega,ht5,fun q=>absurd q (by decide),fun _=>⟨by omega,acX,h5,n1,n2,n3,e4.trans e5⟩⟩,?_⟩;rw[jO XS,jO afw];omega
   ·refine kx _ (e1.trans (e2.trans (aan ht2 n40 afq fun q=>hq ⟨q.1,?_⟩)));rw[hval];have q2:=q.2;rw[Bk.yZ]at q2;cases hl:look B.names t2.1 with
    |none=>rw[hl]at q2;cases q2
    |some z=>rfl
  |false=>
   refine Gw ?_;obtain⟨hlt1,Bq,n41,ac1,n38,n44,e1⟩:=eF rfl;have lb:((obs (a1::dO)).reverse.map V.ref).length=st1.length+1:=by
    have:=Paired.length S1.br.at_;rw[length_map,length_reverse];show (List.map _ _).length=_;rw[length_map,this];rfl
   refine⟨_,rfl,_,_,rfl,.inl (bJ.of S1.br.lst),_,_,rfl,rfl,_,rfl,bY (fun hc=>?_) fun hc=>?_⟩
   ·have h2:(1:Int)<(((obs (a1::dO)).reverse.map V.ref).length:Int):=of_decide_eq_true hc;rw[lb]at h2
    match st1,S1,ps1,n41,e1,h2 with
    | [],_,_,_,_,h2=>exact absurd h2 (by decide)
    |G::st1,S1,ps1,n41,e1,h2=>
    refine cF rfl S1.rd (by decide +kernel) (by decide +kernel) ?_;refine⟨r,lt,as,T,i1,t1,false,rfl,S1.rd,ht1,fun q=>absurd q (by decide),fun _=>?_⟩;exact kx _ (e1.trans (aav ht1 (n41.resolve_right (by simp)) ac1 n38 n44))
   ·have h2:¬(1:Int)<(((obs (a1::dO)).reverse.map V.ref).length:Int):=fun z=>hc (decide_eq_true z);rw[lb]at h2;have hst:st1=[]:=List.eq_nil_of_length_eq_zero (by omega);subst hst;have afx:dO=[]:=by
     have:=Paired.length S1.br.at_;exact List.eq_nil_of_length_eq_zero (by simpa using this)
    subst afx;have h0:F1.asked=0:=mX.bot;have hfs:F1.fs=[]:=mX.pl F1 (by simp) h0;obtain⟨dh,hob⟩:=S1.head.1.ob;refine⟨_,rfl,bl,_,_,V.ref a1.ob,rfl,rfl,bJ.of S1.br.lst,at_of (j:=0) rfl rfl,a1.ob,dh,_,rfl,hob,zf _ _ _ _ (by decide +kernel) (by decide +kernel) (by decide +kernel) (by decide +kernel),_,rfl,?_⟩;refine⟨a1,F1,b,A1,p,{ B with ns:=mY },rfl,S1.pair Bc (by omega),fun A2 vs2 bl2 RJ H2 br2 bk2 g2 hv2 nd2 ac2 ac3 afy k2=>?_⟩;have xH:=S1.facts.1;unfold fD.lists at xH;simp only[nodup_cons,mem_cons,not_mem_nil,or_false,not_or]at xH;have X3:H1' a1.fl≠none:=by rw[S1.head.1.fs];simp
    have S2:=S1.swap (a':={ a1 with bl:=bl2,pl:=RJ }) (ns':=cC B.P mY F1) rfl k2 br2 bk2 g2 (fun y hy=>by
      simp only[fD.lists,mem_cons,not_mem_nil,or_false];rcases hv2 y hy with e|e
      ·exact .inr (.inr e)
      ·exact .inr (.inl e)) (fun y hy=>by
      simp only[fD.lists,mem_cons,not_mem_nil,or_false]at hy;rcases hy with rfl|rfl|rfl
      ·refine .inl ⟨by simp[fD.lists],fun z=>?_⟩;rcases hv2 _ z with e|e
       ·exact xH.1.2 e
       ·exact xH.1.1 e
      ·exact .inr ac2
      ·exact .inr ac3) (by
      simp only[fD.lists,nodup_cons,mem_cons,not_mem_nil,or_false,not_or,not_false_eq_true,nodup_nil,and_true];exact⟨⟨fun z=>X3 (by rw[z];exact ac2),fun z=>X3 (by rw[z];exact ac3)⟩,afy⟩)
    have eff:bV B.P mY F1=⟨0,[nF B.P mY F1],[],[]⟩:=by
     unfold bV;rw[h0,hfs];rfl
    have fs2:H2 a1.fl=some (.lst (nV (bV B.P mY F1).fs)):=br2.fs;rw[eff]at fs2;obtain⟨dh2,afz⟩:=br2.ob;refine⟨_,rfl,bl,_,_,V.ref a1.ob,rfl,rfl,bJ.of S2.br.lst,at_of (j:=0) rfl rfl,a1.ob,cs.dJ,dh2,_,_,rfl,afz,wQ,HX _ (by simp),iw _ _ _ _,a1.fl,_,_,V.int ((nF B.P mY F1:Nat):Int),rfl,rfl,bJ.of fs2,at_of (j:=0) rfl rfl,?_⟩;have ps2:=ps1.ef Bq;rw[eff]at ps2;have fw2:=Bc.ef (P:=B.P) Bq (by omega);have sim:=S2.sim co Rb;refine kq H2 i1 A2 _ _ t1 S2.rd bk2 sim (by rw[←sim.1];exact S2.kp) ps2 ⟨le_trans (le_add_right _ _) fw2.le,fw2.wi,by simp⟩ hlt1 ht1 (e1.trans (aaw ps1 Bq ht1 ac1 n38))
end
theorem bO.Hh{cs:Cs}{H H':Hp}{r lt:Addr}{as:List Addr}{T:List PT}{i:Nat}{F:List Addr}(R:bO cs H r lt as T i)(k:Kp F H H')(hF:∀x∈F,x≠lt∧∀C dx fs,H x≠some (.ins C dx fs)):bO cs H' r lt as T i:=by
 obtain⟨dx,ob⟩:=R.ob;refine⟨⟨dx,k _ _ ob fun z=>(hF _ z).2 _ _ _ ob⟩,k _ _ R.tk.lst fun z=>(hF _ z).1 rfl,R.tk.len,fun j a t h1 h2=>?_⟩;obtain⟨dy,ha⟩:=R.tk.at_ j a t h1 h2;exact⟨dy,k _ _ ha fun z=>(hF _ z).2 _ _ _ ha⟩
theorem aV.read{cs:Cs}(co:ux cs){H H':Hp}{r lt b:Addr}{as:List Addr}{T:List PT}{i:Nat}{A:d8}{p:Nat}{B:Bk}(Rb:aV cs H b A p B)(R:bO cs H r lt as T i)(k:Kp [r] H H'):aV cs H' b A p B:=by
 obtain⟨dx,ob⟩:=R.ob;refine Rb.keep k fun x hx=>?_;simp only[mem_cons,not_mem_nil,or_false]at hx;subst hx;exact .inr ⟨_,_,_,ob,co.rb,co.rn⟩
theorem nQ:bQ (ascii "field")=.name (ascii "field"):=rfl
theorem Ed:bQ (ascii "who")=.name (ascii "who"):=rfl
theorem Ef:bQ (ascii "let")=.name (ascii "let"):=rfl
section
variable{T:List PT}{i:Nat}{t u v:PT}
theorem ac4(ht:T[i]?=some t)(h:¬t.1=ascii "field"):Rb35.field (tk T i)=.error t.2:=by
 unfold Rb35.field;rw[o9 nQ ht,decide_eq_false h,if_pos rfl,jC ht]
theorem aaA(ht:T[i]?=some t)(h:t.1=ascii "field")(hu:T[i+1]?=some u)(h2:¬(kindS u.1="number"∧(decide (valueOf u.1≤251)&&prime (valueOf u.1))=true)):Rb35.field (tk T i)=.error u.2:=by
 unfold Rb35.field;rw[o9 nQ ht,decide_eq_true h,if_neg (by decide),qW nQ ht h];show (match tk T (i+1) with | (.num p,k)::r=>_|u=>_)=_;rw[gJ hu];cases q:bQ u.1 with
 |num n=>
  by_cases hk:kindS u.1="number"
  ·have e:=(jD hk).1;rw[q]at e;injection e with e
   show (if (decide (n≤251)&&prime n)=true then _ else _)=_;rw[if_neg (by rw[e];exact fun z=>h2 ⟨hk,z⟩)]
  ·exact absurd q (uz hk)
 |name b=>rfl
 |sign b=>rfl
 |bad=>rfl
 |ended=>rfl
theorem UL(ht:T[i]?=some t)(h:t.1=ascii "field")(hu:T[i+1]?=some u)(h2:kindS u.1="number"∧(decide (valueOf u.1≤251)&&prime (valueOf u.1))=true):Rb35.field (tk T i)=(take_ 59 (tk T (i+2))).map fun z=>(valueOf u.1,z):=by
 unfold Rb35.field;rw[o9 nQ ht,decide_eq_true h,if_neg (by decide),qW nQ ht h];show (match tk T (i+1) with | (.num p,k)::r=>_|u=>_)=_;rw[gJ hu,(jD h2.1).1];show (if (decide (valueOf u.1≤251)&&prime (valueOf u.1))=true then _ else _)=_;rw[if_pos h2.2]
end
def Ib(cs:Cs):Sp:=fun vs H Q E=>∃(r lt:Addr)(as:List Addr)(T:List PT)(i:Nat)(t:PT),vs=[.ref r]∧bO cs H r lt as T i∧RK T∧T[i]?=some t ∧
 (∀(H':Hp)(p j:Nat)(u:PT),Rb35.field (tk T i)=.ok (p,tk T j)→bO cs H' r lt as T j→Kp [r] H H'→T[j]?=some u→i<j→Q (.int (p:Int)) H')∧(∀k,Rb35.field (tk T i)=.error k→zB E cs.cst (-100-(k:Int)))
def fO(t:Toks):Except Nat (Known×Toks):=if isKey "who" t=false then .error (placeOf t) else (iu ⟨[],[]⟩ (t.drop 1)).bind fun y=>(take_ 59 y.2).map fun r=>(y.1,r)
def Ie(l:List Bytes)(t:Toks):Except Nat (Known×Toks):=(if is_ 44 t=true then iu ⟨l,[]⟩ (t.drop 1) else .ok (⟨l,[]⟩,t)).bind fun y=>(take_ 59 y.2).map fun r=>(y.1,r)
def Ig(cs:Cs):Sp:=fun vs H Q E=>∃(r lt:Addr)(as:List Addr)(T:List PT)(i:Nat)(b:Addr)(A:d8)(p:Nat)(t:PT),vs=[.ref r,.ref b]∧bO cs H r lt as T i∧aV cs H b A p ⟨[],[],[]⟩∧lt≠A.pa∧RK T∧T[i]?=some t ∧
 (∀(H':Hp)(l:List Bytes)(j:Nat)(u:PT),fO (tk T i)=.ok (⟨l,[]⟩,tk T j)→bO cs H' r lt as T j→aV cs H' b A p ⟨l,[],[]⟩→Kp [r,A.pa,A.ma] H H'→T[j]?=some u→i<j→l.length≤j→Q .non H')∧(∀k,fO (tk T i)=.error k→zB E cs.cst (-100-(k:Int)))
def PeI(cs:Cs)(H0:Hp)(r lt:Addr)(as:List Addr)(T:List PT)(i:Nat)(b:Addr)(A:d8)(p:Nat):L2.St→Hp→Prop:=fun σ H'=>
 ∃(l:List Bytes)(j:Nat)(u:PT),σ=[some (.ref r),some (.ref b)]∧bO cs H' r lt as T j∧aV cs H' b A p ⟨l,[],[]⟩∧Kp [r,A.pa,A.ma] H0 H'∧T[j]?=some u∧i<j∧l.length≤j∧fO (tk T i)=Ie l (tk T j)
section
variable{P:Program}{w:World}{K:PySem.W.Frag}{mg:Str→Option Value}{base:Heap}{cs:Cs}
theorem Cw:aH ["reader","prime"] ["reader"] (au mV):=⟨rfl,rfl,rfl,by decide +kernel,rfl,by decide +kernel,by decide +kernel⟩
theorem QK(T:bL K mg "read_field" mV)(cl:Cls K cs.cD)(TW:bw P w K mg base 5 cs.cD "take_written" ["self","word"] (kI cs))(PR:bw P w K mg base 5 cs.cD "take_prime" ["self"] (N8 cs)) :
  aX P w K mg base 6 "read_field" ["reader"] (Ib cs):=by
 obtain⟨f,fd,F,hm⟩:=T.ex;refine⟨f,fd,hm,F.kp,F.binds (fun _ _ _ _ _ _ us hl=>match us,hl with | [_],_=>rfl),Fg F Cw (fun vs H Q E h=>?_) (fun cdv A outer s H vs Q E hr h=>?_)⟩
 ·obtain⟨r,lt,as,T,i,t,rfl,_⟩:=h;rfl
 ·obtain⟨r,lt,as,T,i,t,rfl,R,tok,ht,kq,kx⟩:=h;refine⟨_,aq (aN (bK (pv 0) cl TW hr bG (ak cV aA))) (aq (aY (i:=1) Cw.nd rfl (Or.inl rfl) (dU (pv 0) cl PR hr bG)) (aq (aN (bK (pv 0) cl TW hr bG (ak cV aA))) (aC (aZ (pv 1))))),?_⟩;refine cF rfl R (by decide +kernel) (by decide +kernel) ?_;refine⟨r,lt,as,T,i,t,_,rfl,R,ht,fun hq H1 R1 k1=>?_,fun hq=>kx _ (ac4 ht fun z=>hq ((nO HS).mpr z))⟩;have h1:=(nO HS).mp hq;obtain⟨u,hu⟩:=tok.next i t ht (by rw[h1];decide);refine cF rfl R1 (by decide +kernel) (by decide +kernel) ?_;refine⟨r,lt,as,T,i+1,u,rfl,R1,tok,hu,fun h2 H2 R2 k2=>?_,fun h2=>kx _ (aaA ht h1 hu h2)⟩;obtain⟨v,hv⟩:=tok.next (i+1) u hu (fun z=>by have:=h2.1;rw[z]at this;exact absurd this (by decide +kernel));refine cF rfl R2 (by decide +kernel) (by decide +kernel) ?_;refine⟨r,lt,as,T,i+2,v,_,rfl,R2,hv,fun h3 H3 R3 k3=>?_,fun h3=>kx v.2 ?_⟩
  ·have Y4:=(nO Cq).mp h3;obtain⟨y,hy⟩:=tok.next (i+2) v hv (by rw[Y4];simp);refine⟨_,rfl,kq H3 (valueOf u.1) (i+3) y ?_ R3 (k1.trans (k2.trans k3)) hy (by omega)⟩;rw[UL ht h1 hu h2,uD (by decide) hv Y4];rfl
  ·rw[UL ht h1 hu h2,qX (by decide) hv fun z=>h3 ((nO Cq).mpr z)];rfl
theorem QL:aH ["reader","book"] ["reader","book"] (au lB):=⟨rfl,rfl,rfl,by decide +kernel,rfl,by decide +kernel,by decide +kernel⟩
theorem aaB{l:List Bytes}{T:List PT}{j:Nat}{u:PT}(hu:T[j]?=some u):(iu ⟨l,[]⟩ (tk T j)).bind (fun y=>(take_ 59 y.2).map fun r=>(y.1,r)) =
  if kindS u.1="name"∧(lR (xK (⟨l,[],[]⟩:Bk).names) (Sum.inr (bT u.1))).isSome=false then Ie (l++[u.1]) (tk T (j+1)) else .error u.2:=by
 have kn:knows ⟨l,[]⟩ u.1=(look (⟨l,[],[]⟩:Bk).names u.1).isSome:=Bk.yX ⟨l,[],[]⟩ u.1;have hv:(lR (xK (⟨l,[],[]⟩:Bk).names) (Sum.inr (bT u.1))).isSome=knows ⟨l,[]⟩ u.1:=by
  rw[uE,kn];cases look (⟨l,[],[]⟩:Bk).names u.1<;>rfl
 rw[hv,Kg];by_cases h:kindS u.1="name"∧knows ⟨l,[]⟩ u.1=false
 ·rw[if_pos h,N5 hu h.1 h.2];rfl
 ·rw[if_neg h,Ud hu h];rfl
theorem QM(co:ux cs)(T:bL K mg "read_people" lB)(cl:Cls K cs.cD)(qT:Cls K cs.tok)(qU:cG K cs.tok ["kind","word","place"])(gR:Cls K cs.boo)(naB:cG K cs.boo ["prime","people","nodes","lets","names"])(NW:bw P w K mg base 1 cs.cD "now" ["self"] (mG cs))(TW:bw P w K mg base 5 cs.cD "take_written" ["self","word"] (kI cs))(NN:bw P w K mg base 5 cs.cD "take_new_name" ["self","names"] (vG cs false))(AP:bw P w K mg base 1 cs.boo "add_person" ["self","name"] (qu cs)) :
  aX P w K mg base 6 "read_people" ["reader","book"] (Ig cs):=by
 obtain⟨f,fd,F,hm⟩:=T.ex;refine⟨f,fd,hm,F.kp,F.binds (fun _ _ _ _ _ _ us hl=>match us,hl with | [_,_],_=>rfl),Fg F QL (fun vs H Q E h=>?_) (fun cdv A outer s H vs Q E hr h=>?_)⟩
 ·obtain⟨r,lt,as,T,i,b,A,p,t,rfl,_⟩:=h;rfl
 ·obtain⟨r,lt,as,T,i,b,Ad,p,t,rfl,R,Rb,hlt,tok,ht,kq,kx⟩:=h;refine⟨_,aq (aN (bK (pv 0) cl TW hr bG (ak cV aA)))
   (aq (aN (bK (pv 1) gR (AP.mono (by decide:1≤5)) hr aF (ak (bK (pv 0) cl NN hr bG (ak (aM (pv 1) rfl) aA)) aA)))
   (aq (gG PassesOwn.leaving (aU gY (aM (dU (pv 0) cl (NW.mono (by decide:1≤5)) hr aF) rfl) cV (bf _))
    (aq (aN (bK (pv 0) cl TW hr bG (ak cV aA))) (aC (aN (bK (pv 1) gR (AP.mono (by decide:1≤5)) hr aF (ak (bK (pv 0) cl NN hr bG (ak (aM (pv 1) rfl) aA)) aA))))))
   (aC (aN (bK (pv 0) cl TW hr bG (ak cV aA)))))),?_⟩
  have hTl:=tok.few;have add:∀(l:List Bytes)(j:Nat)(u:PT)(H1:Hp)(D:Ends),bO cs H1 r lt as T j→aV cs H1 b Ad p ⟨l,[],[]⟩→Kp [r,Ad.pa,Ad.ma] H H1→T[j]?=some u→i<j→l.length≤j→fO (tk T i)=((iu ⟨l,[]⟩ (tk T j)).bind fun y=>(take_ 59 y.2).map fun r=>(y.1,r)) →
    (∀H2 v,bO cs H2 r lt as T (j+1)→aV cs H2 b Ad p ⟨l++[u.1],[],[]⟩→Kp [r,Ad.pa,Ad.ma] H H2→T[j+1]?=some v→fO (tk T i)=Ie (l++[u.1]) (tk T (j+1))→D.nx [some (.ref r),some (.ref b)] H2) →
    RW (ud cs.boo "add_person" (qu cs) [] E0 (xW 1) (FJ (ud cs.cD "take_new_name" (vG cs false) [] E (xW 0) (FJ (Ss K (xW 1) "names") uV)) uV)) D [some (.ref r),some (.ref b)] H1:=by
   intro l j u H1 D R1 Rb1 k1 hu hij hlj e1 fin;obtain⟨db,ob⟩:=Rb1.ob;have hpn:=aaB (l:=l) hu;refine⟨_,rfl,b,db,_,rfl,ob,oO _ _ _ _ _ (by decide +kernel) (by decide +kernel) (by decide +kernel) (by decide +kernel) (by decide +kernel),?_⟩;refine cF rfl R1 (by decide +kernel) (by decide +kernel) ?_;refine⟨_,rfl,b,cs.boo,db,_,_,rfl,ob,gR,naB _ (by simp),kE _ _ _ _ _,?_⟩;refine⟨r,lt,as,T,j,u,Ad.ma,xK (⟨l,[],[]⟩:Bk).names,rfl,R1,hu,Rb1.names,fun hq H2 R2 k2=>?_,fun hq=>?_⟩
   ·rw[if_pos hq]at hpn;have Y5:=Rb1.read co R1 k2;have hlook:look (⟨l,[],[]⟩:Bk).names u.1=none:=by
     have:=hq.2;rw[uE]at this;cases q:look (⟨l,[],[]⟩:Bk).names u.1 with
     |none=>rfl
     |some z=>rw[q]at this;cases this
    have hjl:=(List.getElem?_eq_some_iff.mp hu).1;refine⟨b,u.1,Ad,p,⟨l,[],[]⟩,rfl,Y5,hlook,rfl,by show l.length<50000;omega,fun H3 Rb3 k3=>?_⟩;obtain⟨v,hv⟩:=tok.next j u hu (fun z=>by have:=hq.1;rw[z]at this;exact absurd this (by decide +kernel));have R3:=R2.Hh k3 fun x hx=>by
     simp only[mem_cons,not_mem_nil,or_false]at hx;rcases hx with rfl|rfl
     ·exact⟨hlt.symm,fun C dx fs z=>by rw[Y5.people]at z;cases z⟩
     ·exact⟨Hg Y5.names R2.tk.lst,fun C dx fs z=>by rw[Y5.names]at z;cases z⟩
    exact fin H3 v R3 Rb3 (k1.trans ((k2.mono fun x hx=>by simp at hx;simp[hx]).trans (k3.mono fun x hx=>by simp at hx ⊢;rcases hx with rfl|rfl<;>simp))) hv (e1.trans hpn)
   ·rw[if_neg hq]at hpn;exact kx _ (e1.trans hpn)
  refine cF rfl R (by decide +kernel) (by decide +kernel) ?_;refine⟨r,lt,as,T,i,t,_,rfl,R,ht,fun hq H1 R1 k1=>?_,fun hq=>kx t.2 ?_⟩
  ·have h1:=(nO Ux).mp hq;obtain⟨u,hu⟩:=tok.next i t ht (by rw[h1];decide);have e0:fO (tk T i)=((iu ⟨[],[]⟩ (tk T (i+1))).bind fun y=>(take_ 59 y.2).map fun r=>(y.1,r)):=by
    unfold fO;rw[o9 Ed ht,decide_eq_true h1,if_neg (by decide),qW Ed ht h1];rfl
   refine add [] (i+1) u H1 _ R1 (Rb.read co R k1) (k1.mono fun x hx=>by simp at hx;simp[hx]) hu (by omega) (by simp) e0 fun H2 v R2 Y5 k2 hv e2=>?_;refine lD (PeI cs H r lt as T i b Ad p) (fun _ H'=>XQ T r H') ⟨[u.1],i+2,v,rfl,R2,Y5,k2,hv,by omega,by simp,e2⟩ ?_;rintro σ H3 ⟨l,j,u3,rfl,R3,Rb3,k3,QS,hij,hlj,e3⟩;obtain⟨d3,ob3⟩:=R3.ob;have hjl:=(List.getElem?_eq_some_iff.mp QS).1;refine qw qT qU rfl R3 QS ⟨rfl,_,rfl,bY (fun hc=>?_) fun hc=>?_⟩
   ·rw[sW HN]at hc;have h44:=of_decide_eq_true hc;obtain⟨u4,hu4⟩:=tok.next j u3 QS (by rw[h44];simp);refine YX ?_;refine cF rfl R3 (by decide +kernel) (by decide +kernel) ?_;refine⟨r,lt,as,T,j,u3,_,rfl,R3,QS,fun _ H4 R4 k4=>?_,fun hq=>absurd ((nO HN).mpr h44) hq⟩;have e4:fO (tk T i)=((iu ⟨l,[]⟩ (tk T (j+1))).bind fun y=>(take_ 59 y.2).map fun r=>(y.1,r)):=by
     rw[e3];unfold Ie;rw[rM (by decide) QS,decide_eq_true h44,if_pos rfl,iH (by decide) QS h44];rfl
    refine add l (j+1) u4 H4 _ R4 (Rb3.read co R3 k4) (k3.trans (k4.mono fun x hx=>by simp at hx;simp[hx])) hu4 (by omega) (by omega) e4 fun H5 v5 R5 X6 k5 hv5 e5=>?_;obtain⟨d5,ob5⟩:=R5.ob;refine⟨⟨l++[u4.1],j+2,v5,rfl,R5,X6,k5,hv5,by omega,by rw[length_append];simp;omega,e5⟩,?_⟩;rw[jO ob3,jO ob5];omega
   ·rw[sW HN]at hc;have h44:¬u3.1=[44]:=fun z=>hc (decide_eq_true z);have e4:fO (tk T i)=(take_ 59 (tk T j)).map fun r=>(⟨l,[]⟩,r):=by
     rw[e3];unfold Ie;rw[rM (by decide) QS,decide_eq_false h44,if_neg (by decide)];rfl
    refine cF rfl R3 (by decide +kernel) (by decide +kernel) ?_;refine⟨r,lt,as,T,j,u3,_,rfl,R3,QS,fun h3 H4 R4 k4=>?_,fun h3=>kx u3.2 ?_⟩
    ·have Y4:=(nO Cq).mp h3;obtain⟨y,hy⟩:=tok.next j u3 QS (by rw[Y4];simp);refine kq H4 l (j+1) y ?_ R4 (Rb3.read co R3 k4) (k3.trans (k4.mono fun x hx=>by simp at hx;simp[hx])) hy (by omega) (by omega);rw[e4,uD (by decide) QS Y4];rfl
    ·rw[e4,qX (by decide) QS fun z=>h3 ((nO Cq).mpr z)];rfl
  ·unfold fO;rw[o9 Ed ht,decide_eq_false (fun z=>hq ((nO Ux).mpr z)),if_pos rfl,jC ht]
end
def Br(P:Nat)(ns:List aG):List Nat:=v9 (fun _=>1) (fun _ l=>l.sum) 0 P ns
theorem Ih(P:Nat)(ns:List aG)(n:aG):Br P (ns++[n])=Br P ns++[(n.2.map fun i=>(Br P ns).getD i 0).sum]:=yS _ _ _ _ _ _
theorem Og(P:Nat):Br P []=List.replicate P 1:=by
 unfold Br v9;rw[foldl_nil]
 induction P with
 |zero=>rfl
 |succ n ih=>rw[range_succ,map_append,ih,List.replicate_succ'];rfl
theorem K5(P:Nat)(ns:List aG):(Br P ns).length=P+ns.length:=by
 induction ns using snocInd with
 |h0=>rw[Og,length_replicate];rfl
 |h1 l a ih=>rw[Ih,length_append,ih,length_append];simp;omega
theorem aaD{P:Nat}{ns:List aG}(ok:Good P ns){i:Nat}(hi:i<P+ns.length):(Br P ns)[i]?=some ((leaves (den P ns i)).length):=
 TJ (fun f=>(leaves f).length) (fun i=>rfl) (fun k l=>by
  show (leavesIn (jG l)).length=_;rw[cW]) ns ok hi
structure Sz(B:Bk):Prop where
 pe:B.people.length<50000
 nd:B.ns.length<50000
 wi:∀n∈B.ns,n.2.length≤50000
 le:B.ls.length<50000
section
variable{X:Cx}{K:PySem.W.Frag}{o:Expr}{f:Str}{pos:Pos}{ta:TE}
theorem Eh(hK:X.K=K)(ha:PE X o ta)(hb:attributeBase o f X.env (eval o X.env)=eval o X.env:=by rfl):PE X (.Attribute o f pos) (Ss K ta f):=hK▸aM ha hb
theorem Ii(hK:X.K=K):IxR X (ab2 K):=hK▸dR
theorem QT(hK:X.K=K):pK X (.builtin "len") (fun xs H Q=>∃p ys,xs=[.ref p]∧(bJ K H p ys∨tL K H p ys)∧Q (.int ys.length) H):=hK▸aO
end
def Ij(cs:Cs):Sp:=fun vs H Q _=>∃(b:Addr)(A:d8)(p:Nat)(B:Bk),vs=[.ref b]∧aV cs H b A p B∧Good B.P B.ns∧Sz B ∧
 ∀(D:Addr)(H':Hp),H' D=some (.lst (nV (Br B.P B.ns)))→Same H H'→Q (.ref D) H'
theorem ac5(l:List Nat):(l.map fun (i:Nat)=>(i:Int)).sum=((l.sum:Nat):Int):=by
 induction l with
 |nil=>rfl
 |cons a r ih=>rw[map_cons,sum_cons,sum_cons,ih];omega
section
variable{P:Program}{w:World}{K:PySem.W.Frag}{mg:Str→Option Value}{base:Heap}{cs:Cs}
theorem jc:aH ["book","places","node","person","formula"] ["book"] (au gH):=⟨rfl,rfl,rfl,by decide +kernel,rfl,by decide +kernel,by decide +kernel⟩
theorem QV(T:bL K mg "all_places" gH)(gR:Cls K cs.boo)(naB:cG K cs.boo ["prime","people","nodes","lets","names"])(UW:Cls K cs.jm)(U0:cG K cs.jm ["asked","within"])(hsum:mg "sum"=none) :
  aX P w K mg base 1 "all_places" ["book"] (Ij cs):=by
 obtain⟨f,fd,F,hm⟩:=T.ex;refine⟨f,fd,hm,F.kp,F.binds (fun _ _ _ _ _ _ us hl=>match us,hl with | [_],_=>rfl),okN F jc (fun vs H Q E h=>?_) (fun cdv A outer s H vs Q E hr h=>?_)⟩
 ·obtain⟨b,A,p,B,rfl,_⟩:=h;rfl
 ·obtain⟨b,Ad,p,B,rfl,R,good,sz,kq⟩:=h;obtain⟨dx,ob⟩:=R.ob;refine⟨_,aq (aY (i:=1) jc.nd rfl (Or.inr rfl) (lY rfl jc.nd (eG (aM (pv 0) rfl)) (cU (own:=[("person",3)]) (by show pN ["book","places","node","person","formula"] (au gH) _ [("person",3)]=true;decide +kernel))
    (fun _ _ _ _ _=>bU (i:=3) jc.nd rfl (Or.inl rfl)) (fun _ _ _ _ _=>gb) (fun _ _ _ _ _=>aR)))
   (aq (xZ PassesOwn.never rfl (eG (aM (pv 0) rfl)) (bU (i:=2) jc.nd rfl (Or.inl rfl))
    (aC (aN (kY plainAttrs_list PySem.F.slot_list_append PySem.F.type_list_append cZ (pv 1) (ak (aQ (Tc rfl) (by rfl) hsum PyProof.Rows.boot_sum
     (ak (lY rfl jc.nd (eG (aM (pv 2) rfl)) (cU (own:=[("formula",4)]) (by show pN ["book","places","node","person","formula"] (au gH) _ [("formula",4)]=true;decide +kernel))
      (fun _ _ _ _ _=>bU (i:=4) jc.nd rfl (Or.inl rfl)) (fun _ _ _ _ _=>gb) (fun _ _ _ _ _=>fK (Ii (K:=K) rfl) (pv 1) (pv 4) (fun _ _=>rfl))) aA)) aA)))))
    (aC (aZ (pv 1)))),?_⟩
  refine⟨_,rfl,b,cs.boo,dx,_,_,rfl,ob,gR,naB _ (by simp),fW _ _ _ _ _,Ad.pa,rfl,⟨_,bJ.of R.people⟩,fun D hD=>?_⟩;refine gZ (xs:=B.people.map fun x=>V.str (bT x)) (fun i H'=>H'=upd H D (.lst (nV (List.replicate i 1)))) rfl ?_ ?_ ?_
  ·rintro i H' _ rfl;exact bJ.of (by rw[aj (aB R.people hD)];exact R.people)
  ·rintro i x H' hx rfl;have hi:i<B.people.length:=by have:=(List.getElem?_eq_some_iff.mp hx).1;rwa[length_map]at this
   refine⟨rfl,_,ao,?_,?_⟩
   ·rw[aK,length_replicate];exact lt_trans (lt_trans hi sz.pe) (by decide)
   ·rw[gM,List.replicate_succ',iG];rfl
  rintro H1 rfl;have hpl:(List.replicate (B.people.map fun x=>V.str (bT x)).length 1)=Br B.P []:=by rw[length_map,Og];rfl
  rw[hpl];have s0:Same H (upd H D (.lst (nV (Br B.P [])))):=fun c o q=>by rw[aj (aB q hD)];exact q
  refine⟨_,rfl,b,cs.boo,dx,_,_,rfl,s0 _ _ ob,gR,naB _ (by simp),nJ _ _ _ _ _,Ad.na,rfl,⟨_,bJ.of (s0 _ _ R.nodes)⟩,?_⟩;refine tY (xs:=Ad.oA.map fun x=>V.ref x.1) (fun i σ H'=>(∃x y z,σ=[some (.ref b),some (.ref D),x,y,z])∧H' D=some (.lst (nV (Br B.P (B.ns.take i))))∧Same H H') ⟨⟨_,_,_,rfl⟩,by rw[take_zero];exact ao,s0⟩ ?_ ?_ ?_
  ·rintro i σ H' _ ⟨_,_,s1⟩;exact bJ.of (s1 _ _ R.nodes)
  ·rintro i x σ H' hx ⟨⟨x1,y1,z1,rfl⟩,hl,s1⟩;rw[getElem?_map]at hx;cases hq:Ad.oA[i]? with
   |none=>rw[hq]at hx;cases hx
   |some nd=>
    rw[hq]at hx;cases hx;have hi:i<B.ns.length:=by rw[←R.len];exact(List.getElem?_eq_some_iff.mp hq).1
    have hn:B.ns[i]?=some B.ns[i]:=getElem?_eq_getElem hi;obtain⟨⟨dn,n1⟩,n2⟩:=R.at_ i nd B.ns[i] hq hn;have hw:=sz.wi _ (getElem_mem hi);have hg:=(good i _ hn).1;have ac6:(Br B.P (B.ns.take i)).length=B.P+i:=by rw[K5,length_take,min_eq_left (le_of_lt hi)]
    refine⟨_,rfl,.inl ⟨rfl,_,bJ.of hl⟩,_,rfl,nd.1,cs.jm,dn,_,_,rfl,s1 _ _ n1,UW,U0 _ (by simp),oN _ _,nd.2,rfl,⟨_,bJ.of (s1 _ _ n2)⟩,fun D2 hD2=>?_⟩;have hDD:D≠D2:=aB hl hD2;refine gZ (xs:=nV B.ns[i].2) (fun j H2=>H2=upd H' D2 (.lst (nV ((B.ns[i].2.take j).map fun k=>(Br B.P (B.ns.take i)).getD k 0)))) rfl ?_ ?_ ?_
    ·rintro j H2 _ rfl;exact bJ.of (by rw[aj (aB (s1 _ _ n2) hD2)];exact s1 _ _ n2)
    ·rintro j y H2 hy rfl;unfold nV at hy;rw[getElem?_map]at hy;cases hk:B.ns[i].2[j]? with
     |none=>rw[hk]at hy;cases hy
     |some k=>
      rw[hk]at hy;cases hy;have hkl:k<(Br B.P (B.ns.take i)).length:=by rw[ac6];exact hg k (mem_of_getElem? hk)
      have hj:j<B.ns[i].2.length:=(List.getElem?_eq_some_iff.mp hk).1;refine⟨rfl,_,rfl,_,rfl,D,_,_,V.int ((((Br B.P (B.ns.take i)).getD k 0:Nat)):Int),rfl,rfl,bJ.of (by rw[aj hDD];exact hl),at_of (j:=k) rfl ?_,_,ao,?_,?_⟩
      ·unfold nV;rw[getElem?_map,getElem?_eq_getElem hkl,getD_eq_getElem?_getD,getElem?_eq_getElem hkl];rfl
      ·rw[aK,length_map,length_take];exact lt_of_le_of_lt (min_le_left _ _) (lt_of_lt_of_le hj (le_trans hw (by decide)))
      ·rw[gM,take_succ,hk];show _=upd H' D2 (.lst (nV ((B.ns[i].2.take j++[k]).map fun k=>(Br B.P (B.ns.take i)).getD k 0)));rw[map_append];show _=upd H' D2 (.lst (nV ((B.ns[i].2.take j).map (fun k=>(Br B.P (B.ns.take i)).getD k 0)++[(Br B.P (B.ns.take i)).getD k 0])));rw[iG]
    ·rintro H2 rfl;rw[aK,take_length];refine⟨D2,(B.ns[i].2.map fun k=>(Br B.P (B.ns.take i)).getD k 0).map fun (i:Nat)=>(i:Int),rfl,bJ.of (by
      rw[ao];unfold nV;simp only[map_map];rfl),?_⟩
     refine⟨D,_,_,rfl,rfl,by rw[aj hDD];exact hl,?_,?_⟩
     ·rw[aK,ac6];have h1:=sz.pe;have h2:=sz.nd;have h3:B.P=B.people.length:=rfl;exact lt_trans (show B.P+i<100000 by omega) bM
     ·refine⟨⟨_,_,_,rfl⟩,?_,fun c o q=>?_⟩
      ·rw[ao,take_succ,hn];show _=some (HO.lst (nV (Br B.P (B.ns.take i++[B.ns[i]]))));rw[Ih,iG,ac5]
      ·have q1:=s1 c o q;rw[aj (aB q hD),aj (aB q1 hD2)];exact q1
  ·rintro σ H' ⟨⟨x1,y1,z1,rfl⟩,hl,s1⟩;rw[length_map,R.len,take_length]at hl;exact⟨_,rfl,kq D H' hl s1⟩
def Ik(cs:Cs):Sp:=fun vs H Q E=>∃(b:Addr)(A:d8)(p:Nat)(B:Bk),vs=[.ref b]∧aV cs H b A p B∧B.Ok∧Sz B ∧
 (small ⟨p,B.people,B.known.lets⟩=true→∀H',Same H H'→Q .non H')∧(¬small ⟨p,B.people,B.known.lets⟩=true→zB E cs.pP (-5))
theorem kJ:aH ["book","places","node","formula"] ["book"] (au fX):=⟨rfl,rfl,rfl,by decide +kernel,rfl,by decide +kernel,by decide +kernel⟩
theorem QW(T:bL K mg "keep_limits" fX)(gR:Cls K cs.boo)(naB:cG K cs.boo ["prime","people","nodes","lets","names"])(UW:Cls K cs.jm)(U0:cG K cs.jm ["asked","within"])(hlen:mg "len"=none)(hany:mg "any"=none)(hP:∃t,mg "MOST_PEOPLE"=some (.int 10 t))(hL:∃t,mg "MOST_LETS"=some (.int 16 t))(hM:∃t,mg "MOST_PLACES"=some (.int 24 t))(AP:aX P w K mg base 1 "all_places" ["book"] (Ij cs))(OV:uy P w K mg base 2 "OverLimit" cs.pP ["self"] (oZ K cs.pP (-5))) :
  aX P w K mg base 4 "keep_limits" ["book"] (Ik cs):=by
 obtain⟨f,fd,F,hm⟩:=T.ex;obtain⟨fC,fdC,QB,MC,bC,GC⟩:=OV.ex;obtain⟨tp,hP⟩:=hP;obtain⟨tl',hL⟩:=hL;obtain⟨tm,hM⟩:=hM;refine⟨f,fd,hm,F.kp,F.binds (fun _ _ _ _ _ _ us hl=>match us,hl with | [_],_=>rfl),Fg F kJ (fun vs H Q E h=>?_) (fun cdv A outer s H vs Q E hr h=>?_)⟩
 ·obtain⟨b,A,p,B,rfl,_⟩:=h;rfl
 ·obtain⟨b,Ad,p,B,rfl,R,ok,sz,kq,kx⟩:=h;obtain⟨dx,ob⟩:=R.ob;refine⟨_,aq (dW (Fv (aU tZ (aQ aO (by rfl) hlen PySem.boot_len (ak (aM (pv 0) rfl) aA)) (bh (v:=.int 10) (by rfl) hP ⟨tp,rfl⟩) (bf _))
    (xX (aU tZ (aQ aO (by rfl) hlen PySem.boot_len (ak (aM (pv 0) rfl) aA)) (bh (v:=.int 16) (by rfl) hL ⟨tl',rfl⟩) (bf _)))).pt (aC (kh MC GC hr bC rfl QB)) bW)
   (aq (dW (mL (aQ (Dq rfl) (by rfl) hany PyProof.Rows.boot_any (ak (lY rfl kJ.nd (eG (aM (pv 0) rfl)) (cU (own:=[("node",2)]) (by show pN ["book","places","node","formula"] (au fX) _ [("node",2)]=true;decide +kernel))
    (fun _ _ _ _ _=>bU (i:=2) kJ.nd rfl (Or.inl rfl)) (fun _ _ _ _ _=>gb) (fun _ _ _ _ _=>eN Fz (aQ (QT (K:=K) rfl) (by rfl) hlen PySem.boot_len (ak (Eh (K:=K) rfl (pv 2)) aA)) (Eh (K:=K) rfl (pv 0)) (bf _))) aA))) (aC (kh MC GC hr bC rfl QB)) bW)
   (aq (aY (i:=1) kJ.nd rfl (Or.inr rfl) (bN (AP.mono (by decide:1≤3)) hr rfl aF (ak (pv 0) aA)))
   (aC (dW (mL (aQ (Dq rfl) (by rfl) hany PyProof.Rows.boot_any (ak (lY rfl kJ.nd (eG (aM (pv 0) rfl)) (cU (own:=[("formula",3)]) (by show pN ["book","places","node","formula"] (au fX) _ [("formula",3)]=true;decide +kernel))
    (fun _ _ _ _ _=>bU (i:=3) kJ.nd rfl (Or.inl rfl)) (fun _ _ _ _ _=>gb) (fun _ _ _ _ _=>eN tZ (fK (Ii (K:=K) rfl) (pv 1) (pv 3) (fun _ _=>rfl)) (bh (v:=.int 24) (by rfl) hM ⟨tm,rfl⟩) (bf _))) aA))) (aC (kh MC GC hr bC rfl QB)) bW)))),?_⟩
  have U3:=Ci ok p;have thr:∀(H1:Hp),¬small ⟨p,B.people,B.known.lets⟩=true→yN cs.pP (oZ K cs.pP (-5)) E uV { nx:=fun _ H'=>Q .non H',rt:=Q } [] H1:=fun H1 hn=>
   ⟨zero_le _,fun x hx=>⟨x,rfl,ao,fun dy H' h1 h2 h3 h4=>⟨rfl,x,dy,rfl,h1,by
    have hdx:dy≠x:=fun z=>by rw[z,ao]at h3;cases h3
    exact kx hn dy _ (by rw[fP hdx];exact h2)⟩⟩⟩
  refine⟨_,rfl,b,cs.boo,dx,_,_,rfl,ob,gR,naB _ (by simp),fW _ _ _ _ _,_,_,rfl,.inl (bJ.of R.people),_,_,rfl,rfl,_,rfl,bY (fun hc=>?_) fun hc=>?_⟩
  ·have h1:(10:Int)<((B.people.map fun x=>V.str (bT x)).length:Int):=of_decide_eq_true hc;rw[length_map]at h1;refine Gx ?_;exact thr _ fun z=>by have:=(U3.mp z).1;omega
  have h1:¬(10:Int)<((B.people.map fun x=>V.str (bT x)).length:Int):=fun z=>hc (decide_eq_true z);rw[length_map]at h1;refine⟨_,rfl,b,cs.boo,dx,_,_,rfl,ob,gR,naB _ (by simp),qm _ _ _ _ _,_,_,rfl,.inl (bJ.of R.lets),_,_,rfl,rfl,_,rfl,bY (fun hc=>?_) fun hc=>?_⟩
  ·have h2:(16:Int)<((nV (B.ls.map (·.2))).length:Int):=of_decide_eq_true hc;rw[aK,length_map]at h2;exact thr _ fun z=>by have:=(U3.mp z).2.1;omega
  have h2:¬(16:Int)<((nV (B.ls.map (·.2))).length:Int):=fun z=>hc (decide_eq_true z);rw[aK,length_map]at h2;refine⟨_,rfl,b,cs.boo,dx,_,_,rfl,ob,gR,naB _ (by simp),nJ _ _ _ _ _,Ad.na,rfl,⟨_,bJ.of R.nodes⟩,fun D hD=>?_⟩;have s0:∀xs,Same H (upd H D (.lst xs)):=fun xs c o q=>by rw[aj (aB q hD)];exact q
  refine gZ (xs:=Ad.oA.map fun x=>V.ref x.1) (fun i H'=>H'=upd H D (.lst (((B.ns.take i).map fun n=>decide ((p:Int)≤(n.2.length:Int))).map V.bl))) rfl ?_ ?_ ?_
  ·rintro i H' _ rfl;exact bJ.of (s0 _ _ _ R.nodes)
  ·rintro i x H' hx rfl;rw[getElem?_map]at hx;cases hq:Ad.oA[i]? with
   |none=>rw[hq]at hx;cases hx
   |some nd=>
    rw[hq]at hx;cases hx;have hi:i<B.ns.length:=by rw[←R.len];exact(List.getElem?_eq_some_iff.mp hq).1
    have hn:B.ns[i]?=some B.ns[i]:=getElem?_eq_getElem hi;obtain⟨⟨dn,n1⟩,n2⟩:=R.at_ i nd B.ns[i] hq hn;refine⟨rfl,_,rfl,nd.1,cs.jm,dn,_,_,rfl,s0 _ _ _ n1,UW,U0 _ (by simp),oN _ _,_,_,rfl,.inl (bJ.of (s0 _ _ _ n2)),_,rfl,b,cs.boo,dx,_,_,rfl,s0 _ _ _ ob,gR,naB _ (by simp),vq _ _ _ _ _,_,_,rfl,rfl,_,ao,?_,?_⟩
    ·rw[length_map,length_map,length_take];exact lt_of_le_of_lt (min_le_left _ _) (lt_trans (lt_trans hi sz.nd) (by decide))
    ·rw[gM,take_succ,hn,aK];show _=upd H D (.lst (((B.ns.take i++[B.ns[i]]).map _).map V.bl));rw[map_append,map_append];rfl
  rintro H1 rfl;rw[length_map,R.len,take_length];refine⟨D,_,rfl,bJ.of ao,_,rfl,bY (fun hc=>?_) fun hc=>?_⟩
  ·refine thr _ fun z=>?_;obtain⟨x,hx,hx2⟩:=any_eq_true.mp hc;obtain⟨n,hn,rfl⟩:=mem_map.mp hx;have h3:(p:Int)≤(n.2.length:Int):=of_decide_eq_true hx2;have:=(U3.mp z).2.2.1 n hn;omega
  have nar:Narrow p B.ns:=fun n hn=>by
   refine Nat.lt_of_not_le fun z=>hc (any_eq_true.mpr ⟨_,mem_map.mpr ⟨n,hn,rfl⟩,?_⟩);exact decide_eq_true (by omega)
  refine⟨_,rfl,b,Ad,p,B,rfl,R.keep (Kp.same (s0 _) []) (fun x hx=>by simp at hx),ok.good,sz,fun D1 H2 hD1 s1=>?_⟩;have s2:Same H H2:=(s0 _).trans s1;refine⟨_,rfl,b,cs.boo,dx,_,_,rfl,s2 _ _ ob,gR,naB _ (by simp),qm _ _ _ _ _,Ad.la,rfl,⟨_,bJ.of (s2 _ _ R.lets)⟩,fun D2 hD2=>?_⟩;have s3:∀xs,Same H2 (upd H2 D2 (.lst xs)):=fun xs c o q=>by rw[aj (aB q hD2)];exact q
  have atp:∀k,k∈B.ls.map (·.2)→(Br B.P B.ns)[k]?=some ((leaves (den B.P B.ns k)).length):=fun k hk=>by
   obtain⟨x,hx,rfl⟩:=mem_map.mp hk;exact aaD ok.good (ok.lt x hx)
  refine gZ (xs:=nV (B.ls.map (·.2))) (fun i H'=>H'=upd H2 D2 (.lst ((((B.ls.map (·.2)).take i).map fun k=>decide ((24:Int)<((leaves (den B.P B.ns k)).length:Int))).map V.bl))) rfl ?_ ?_ ?_
  ·rintro i H' _ rfl;exact bJ.of (s3 _ _ _ (s2 _ _ R.lets))
  ·rintro i x H' hx rfl;unfold nV at hx;rw[getElem?_map]at hx;cases hk:(B.ls.map (·.2))[i]? with
   |none=>rw[hk]at hx;cases hx
   |some k=>
    rw[hk]at hx;cases hx;have hi:i<(B.ls.map (·.2)).length:=(List.getElem?_eq_some_iff.mp hk).1;refine⟨rfl,_,rfl,_,rfl,D1,_,_,V.int (((leaves (den B.P B.ns k)).length:Nat):Int),rfl,rfl,bJ.of (s3 _ _ _ hD1),at_of (j:=k) rfl ?_,_,_,rfl,rfl,_,ao,?_,?_⟩
    ·unfold nV;rw[getElem?_map,atp k (mem_of_getElem? hk)];rfl
    ·rw[length_map,length_map,length_take];rw[length_map]at hi;exact lt_of_le_of_lt (min_le_left _ _) (lt_trans (lt_trans hi sz.le) (by decide))
    ·rw[gM,take_succ,hk];show _=upd H2 D2 (.lst ((((B.ls.map (·.2)).take i++[k]).map _).map V.bl));rw[map_append,map_append];rfl
  rintro H3 rfl;rw[aK,take_length];refine⟨D2,_,rfl,bJ.of ao,_,rfl,bY (fun hc=>?_) fun hc=>?_⟩
  ·refine thr _ fun z=>?_;obtain⟨x,hx,hx2⟩:=any_eq_true.mp hc;obtain⟨k,hk,rfl⟩:=mem_map.mp hx;obtain⟨y,hy,rfl⟩:=mem_map.mp hk;have h3:(24:Int)<((leaves (den B.P B.ns y.2)).length:Int):=of_decide_eq_true hx2;have:=(U3.mp z).2.2.2 y hy;omega
  ·refine kq (U3.mpr ⟨by omega,by omega,nar,fun x hx=>Nat.le_of_not_lt fun z=>hc (any_eq_true.mpr ⟨_,mem_map.mpr ⟨x.2,mem_map.mpr ⟨x,hx,rfl⟩,rfl⟩,?_⟩)⟩) _ (s2.trans (s3 _));exact decide_eq_true (by omega)
end
theorem aaF{x:Str}{g:TG}{tt:TT}{te:TE}{vs:List Nat}{σ:L2.St}{H1:Hp}{D:Addr}{Qd:Hp→Prop}(Pv:Nat→Hp→Prop)(h0:Pv 0 (upd H1 D (.lst [])))(hs:∀i c H,x.cps.toList[i]?=some c→Pv i H→g (.str ⟨#[c]⟩) (wipe σ vs) H fun σ2 H2=>wipe σ2 vs=wipe σ vs∧tt σ2 H2 fun b H3=>
   if b=true then te σ2 H3 fun y H4=>∃acc,H4 D=some (.lst acc)∧acc.length<sizeLine∧Pv (i+1) (upd H4 D (.lst (acc++[y]))) else Pv (i+1) H3)(hd:∀H,Pv x.cps.toList.length H→Qd H) :
  ∃W:Nat→Nat→Hp→Prop,(∃m,W 0 m (upd H1 D (.lst [])))∧∀i m H,W i m H →
   ((Its x).stop i H∧Qd H)∨((Its x).go i H∧∃Nx:Hp→Prop,(∀H',Nx H'→∃m',m'<m∧W (i+1) m' H')∧∀y H',(Its x).Wq i H y H'→g y (wipe σ vs) H' fun σ2 H2=>wipe σ2 vs=wipe σ vs∧tt σ2 H2 fun b H3=>
    if b=true then te σ2 H3 fun y H4=>∃acc,H4 D=some (.lst acc)∧acc.length<sizeLine∧Nx (upd H4 D (.lst (acc++[y]))) else Nx H3):=by
 have hl:x.cps.toList.length=x.cps.size:=Array.length_toList;refine⟨fun i m H=>m=x.cps.toList.length-i∧i≤x.cps.toList.length∧Pv i H,⟨x.cps.toList.length,by simp,zero_le _,h0⟩,?_⟩;rintro i m H ⟨rfl,hi,p⟩;by_cases hlt:i<x.cps.toList.length
 ·refine .inr ⟨by show i<x.cps.size;omega,Pv (i+1),fun H' p'=>⟨x.cps.toList.length-(i+1),by omega,rfl,hlt,p'⟩,fun y H' q=>?_⟩;obtain⟨e,c,hc,rfl⟩:=q;subst e;exact hs i c _ (by rw[←hc];simp) p
 ·have e:i=x.cps.toList.length:=by omega
  subst e;exact .inl ⟨by show x.cps.size≤_;omega,hd H p⟩
def aaG:Str:=("abcdefghijklmnopqrstuvwxyz0123456789_":Str)++("(),;=&|#\n":Str)
def Ei:List Nat:=List.range' 97 26++(List.range' 48 10++[95])++[40,41,44,59,61,38,124,35,10]
theorem Oh:aaG.cps.toList=Ei:=by decide +kernel
def QX(c:Nat):Key×V:=(Sum.inl (c:Int),V.str ⟨#[c]⟩)
def blanks(d:List (Key×V))(l:List Int):List (Key×V):=l.foldl (fun d b=>putK d (Sum.inl b) (V.str " ")) d
theorem K6(d:List (Key×V)):blanks d []=d:=rfl
theorem Il(d:List (Key×V))(l:List Int)(b:Int):blanks d (l++[b])=putK (blanks d l) (Sum.inl b) (V.str " "):=by
 unfold blanks;rw[foldl_append];rfl
theorem zM:∀(l:List Int)(d:List (Key×V)),(blanks d l).length≤d.length+l.length
 | [],d=>le_refl _
 |a::r,d=>by
  have h1:=zM r (putK d (Sum.inl a) (V.str " "));have h2:=ju d (Sum.inl a) (V.str " ");show (blanks (putK d (Sum.inl a) (V.str " ")) r).length≤_;rw[length_cons];omega
def U4:List (Key×V):=mO [] (Ei.map QX)
def X7:List (Key×V):=blanks U4 [9,13,32]
theorem U5:∀b:Nat,b<256→(lR X7 (Sum.inl (b:Int))).getD (V.str "?")=V.str (bT [cls b]):=by decide +kernel
theorem zN:∀(l:List (Key×V))(d:List (Key×V)),(mO d l).length≤d.length+l.length
 | [],d=>le_refl _
 |a::r,d=>by
  have h:=zN r (putK d a.1 a.2);have h2:=ju d a.1 a.2;show (mO (putK d a.1 a.2) r).length≤_;rw[length_cons];omega
theorem U6:U4.length≤46:=by
 have h:=zN (Ei.map QX) [];have h4:(Ei.map QX).length=46:=by decide
 rw[h4]at h;exact h
def Y6(K:PySem.W.Frag):Sp:=fun vs H Q _=>∃(la:Addr)(bs:List Nat),vs=[.ref la]∧bJ K H la (nV bs)∧(∀b∈bs,b<256)∧bs.length≤10000∧∀H',Same H H'→Q (.str (bT (bs.map cls))) H'
theorem U7(bs:List Nat):Txt.join ("":Str) (bs.map fun b=>bT [cls b])=bT (bs.map cls):=by
 rw[TL.join_eq];refine TL.Z2 ?_;rw[TL.Nt];have e0:TL.tl ("":Str)=[]:=by decide +kernel
 rw[e0,map_map];show TL.Gq [] (bs.map fun b=>[cls b])=bs.map cls
 induction bs with
 |nil=>rfl
 |cons a r ih=>
  cases r with
  |nil=>rfl
  |cons b r=>
   show [cls a]++([]++TL.Gq [] ((b::r).map fun b=>[cls b]))=cls a::(b::r).map cls;rw[ih];rfl
section
variable{P:Program}{w:World}{K:PySem.W.Frag}{mg:Str→Option Value}{base:Heap}{cs:Cs}
theorem sX:aH ["text","signs","byte","sign"] ["text"] (au nM):=⟨rfl,rfl,rfl,by decide +kernel,rfl,by decide +kernel,by decide +kernel⟩
theorem aaH(T:bL K mg "row_of" nM)(hord:mg "ord"=none)(hdict:mg "dict"=none)(hW:∃t,mg "WORD_SIGNS"=some (.str "abcdefghijklmnopqrstuvwxyz0123456789_" t))(hO:∃t,mg "OTHER_SIGNS"=some (.str "(),;=&|#\n" t))(hB:∃a,mg "BLANK_BYTES"=some (.ref a)∧∀H,tL K H a [V.int 9,V.int 13,V.int 32]):aX P w K mg base 1 "row_of" ["text"] (Y6 K):=by
 obtain⟨f,fd,F,hm⟩:=T.ex;obtain⟨t1,hW⟩:=hW;obtain⟨t2,hO⟩:=hO;obtain⟨ba,hB,XM⟩:=hB;refine⟨f,fd,hm,F.kp,F.binds (fun _ _ _ _ _ _ us hl=>match us,hl with | [_],_=>rfl),okN (k:=0) F sX (fun vs H Q E h=>?_) (fun cdv A outer s H vs Q E hr h=>?_)⟩
 ·obtain⟨la,bs,rfl,_⟩:=h;rfl
 ·obtain⟨la,bs,rfl,hla,hbs,hlen,kq⟩:=h;refine⟨_,aq (aY (i:=1) sX.nd rfl (Or.inr rfl) (j8 (J9 rfl) (by rfl) hdict PyProof.Rows.boot_dict (ak (lY rfl sX.nd (Z0 (fj JW (bh (v:=.str "abcdefghijklmnopqrstuvwxyz0123456789_") (by rfl) hW ⟨t1,rfl⟩) (bh (v:=.str "(),;=&|#\n") (by rfl) hO ⟨t2,rfl⟩)))
    (cU (own:=[("sign",3)]) (by show pN ["text","signs","byte","sign"] (au nM) _ [("sign",3)]=true;decide +kernel)) (fun _ _ _ _ _=>bU (i:=3) sX.nd rfl (Or.inl rfl)) (fun _ _ _ _ _=>gb)
    (fun _ _ _ _ _=>J1 (ak (aQ Sg (by rfl) hord PyProof.Rows.boot_ord (ak (pv 3) aA)) (ak (pv 3) aA)))) aA)))
   (aq (xZ PassesOwn.never rfl (Zv (bh (v:=.ref ba) (by rfl) hB rfl)) (bU (i:=2) sX.nd rfl (Or.inl rfl)) (aC (Dt (yG hr) (pv 1) (pv 2) cV rfl)))
   (aC (aZ (Xd cV (lY rfl sX.nd (eG (pv 0)) (cU (own:=[("byte",2)]) (by show pN ["text","signs","byte","sign"] (au nM) _ [("byte",2)]=true;decide +kernel))
    (fun _ _ _ _ _=>bU (i:=2) sX.nd rfl (Or.inl rfl)) (fun _ _ _ _ _=>gb) (fun _ _ _ _ _=>Ti (yG hr) (pv 1) (pv 2) cV ⟨rfl,rfl,rfl,rfl⟩)))))),?_⟩
  refine⟨_,_,rfl,rfl,by decide +kernel,aaG,rfl,fun D hD=>?_⟩;refine aaF (x:=aaG) (fun i H'=>∃ps:List Addr,ps.length=i∧H' D=some (.lst (ps.map V.ref))∧Paired (fun q kv=>H' q=some (.tup [kV kv.1,kv.2])) ps ((Ei.take i).map QX)∧Same H H') ⟨[],rfl,ao,.nil,fun c o q=>by rw[aj (aB q hD)];exact q⟩ ?_ ?_
  ·rintro i c H' hc ⟨ps,hps,hl,hp,s1⟩;rw[Oh]at hc;refine⟨rfl,_,rfl,⟨#[c]⟩,rfl,rfl,_,rfl,by show 2≤sizeLine;decide,fun q hq=>?_⟩;have hDq:D≠q:=aB hl hq;have hi:i<Ei.length:=(List.getElem?_eq_some_iff.mp hc).1;refine⟨_,by rw[aj hDq];exact hl,?_,ps++[q],by rw[length_append,hps];rfl,?_,?_,fun a o e=>?_⟩
   ·rw[length_map,hps];exact lt_trans (lt_of_lt_of_le hi (show Ei.length≤100000 by decide)) bM
   ·rw[ao,map_append];rfl
   ·rw[take_succ,hc];show Paired _ (ps++[q]) (((Ei.take i)++[c]).map QX);rw[map_append];refine Paired.snoc (Paired.RN hp fun y kv e=>?_) ?_
    ·rw[aj (iW e hl (by intro z;cases z)),aj (aB e hq)];exact e
    ·rw[aj hDq.symm,ao];rfl
   ·have e1:=s1 a o e;rw[aj (aB e hD),aj (aB e1 hq)];exact e1
  rintro H1 ⟨ps,hps,hl,hp,s1⟩;rw[Oh,take_length]at hp;refine⟨D,ps,Ei.map QX,rfl,bJ.of hl,Paired.RN hp fun y kv e=>tL.of e,fun dd hdd=>?_⟩;have s2:∀o,Same H (upd H1 dd o):=fun o a u e=>by
   have e1:=s1 a u e;rw[aj (aB e1 hdd)];exact e1
  have nd1:H dd=none:=s1.free hdd;show Zt _ _ _ _ (upd H1 dd (.dK U4));have hM:=U6;have hD':X7=blanks U4 [9,13,32]:=rfl;generalize U4=M at hM hD' ⊢;refine⟨ba,rfl,⟨_,XM _⟩,?_⟩;refine WK (xs:=[V.int 9,V.int 13,V.int 32]) (fun j σ H'=>(∃x y,σ=[some (.ref la),some (.ref dd),x,y])∧H' dd=some (.dK (blanks M (([9,13,32]:List Int).take j)))∧Same H H') ⟨⟨_,_,rfl⟩,by rw[take_zero,K6];exact ao,s2 _⟩ (fun _ _ _ _ _=>XM _) ?_ ?_
  ·rintro j x σ H' hx ⟨⟨y1,y2,rfl⟩,hd,s3⟩;have hb:∃b:Int,x=V.int b∧([9,13,32]:List Int)[j]?=some b:=by
    match j,hx with
    | 0,hx=>exact⟨9,by simpa using hx.symm,rfl⟩
    | 1,hx=>exact⟨13,by simpa using hx.symm,rfl⟩
    | 2,hx=>exact⟨32,by simpa using hx.symm,rfl⟩
    |j+3,hx=>simp at hx
   obtain⟨b,rfl,hb⟩:=hb;refine⟨_,rfl,_,rfl,dd,_,rfl,J8.k (k:=Sum.inl b) hd ?_,⟨_,_,rfl⟩,?_,fun a u e=>?_⟩
   ·have h1:=zM (([9,13,32]:List Int).take j) M;have h3:(([9,13,32]:List Int).take j).length≤3:=by rw[length_take];exact Nat.min_le_right _ _
    exact lt_trans (show _<100000 by omega) bM
   ·rw[ao,take_succ,hb];show _=some (HO.dK (blanks _ ((([9,13,32]:List Int).take j)++[b])));rw[Il]
   ·rw[aj (aB e nd1)];exact s3 a u e
  rintro σ H2 ⟨⟨y1,y2,rfl⟩,hd,s3⟩;have e3:([9,13,32]:List Int).take ([V.int 9,V.int 13,V.int 32]:List V).length=[9,13,32]:=rfl;have hd2:H2 dd=some (.dK X7):=by rw[hD',←e3];exact hd
  have hrv:=U5;clear hD' hd e3;generalize X7=R at hd2 hrv;refine⟨⟨_,rfl⟩,_,rfl,la,rfl,⟨_,s3.seq hla⟩,fun D2 hD2=>?_⟩;have s4:∀xs,Same H2 (upd H2 D2 (.lst xs)):=fun xs a u e=>by rw[aj (aB e hD2)];exact e
  refine gZ (xs:=nV bs) (fun j H'=>H'=upd H2 D2 (.lst (((bs.take j).map fun b=>bT [cls b]).map V.str))) rfl ?_ ?_ ?_
  ·rintro j H' _ rfl;exact(s4 _).seq (s3.seq hla)
  ·rintro j x H' hx rfl;unfold nV at hx;rw[getElem?_map]at hx;cases hb:bs[j]? with
   |none=>rw[hb]at hx;cases hx
   |some b=>
    rw[hb]at hx;cases hx;have hj:=(List.getElem?_eq_some_iff.mp hb).1;have hd3:=s4 ((((bs.take j).map fun b=>bT [cls b]).map V.str)) _ _ hd2;refine⟨rfl,_,rfl,dd,rfl,.inl ⟨_,.inl hd3⟩,_,rfl,_,rD.k (k:=Sum.inl (b:Int)) hd3,_,ao,?_,?_⟩
    ·rw[length_map,length_map,length_take];exact lt_of_le_of_lt (min_le_left _ _) (lt_trans (show j<100000 by omega) bM)
    ·rw[gM,take_succ,hb,hrv b (hbs b (mem_of_getElem? hb))];show _=upd H2 D2 (.lst (((bs.take j++[b]).map _).map V.str));rw[map_append,map_append];rfl
  ·rintro H3 rfl;rw[aK,take_length];refine⟨_,D2,bs.map fun b=>bT [cls b],rfl,rfl,.inl (bJ.of ao),?_,?_⟩
   ·have e1:((bs.map fun b=>bT [cls b]).map (·.length)).sum=bs.length:=by
     rw[map_map];clear hla hbs hlen kq hd2 s4
     induction bs with
     |nil=>rfl
     |cons a r ih=>rw[map_cons,sum_cons,ih,length_cons];show 1+_=_;omega
    have e2:("":Str).length=0:=by decide +kernel
    rw[e1,e2];omega
   ·rw[U7];exact kq _ (s3.trans (s4 _))
end
theorem zO(c:Nat)(r:List Nat):1≤aP (c::r):=by
 unfold aP;dsimp only;split
 ·rename_i h;subst h;rw[takeWhile_cons];simp
 ·split
  ·rename_i h;rw[takeWhile_cons,show isWord c=true by simp[isWord,h]];simp
  ·split
   ·rename_i h;rw[takeWhile_cons,h];simp
   ·exact le_refl _
theorem Oi{p:Nat→Bool}:∀(l:List Nat),(l.takeWhile p).length≤l.length
 | []=>le_refl _
 |a::r=>by
  rw[takeWhile_cons];split
  ·rw[length_cons,length_cons];exact Nat.succ_le_succ (Oi r)
  ·exact zero_le _
theorem QZ(c:Nat)(r:List Nat):aP (c::r)≤(c::r).length:=by
 unfold aP;dsimp only;split
 ·exact Oi _
 ·split
  ·exact Oi _
  ·split
   ·exact Oi _
   ·show 1≤r.length+1;omega
theorem Q0(f at_:Nat):g8 f at_ []=[([],at_)]:=by cases f<;>rfl
theorem sY:∀(f at_:Nat)(l:List Nat),∃xs p,g8 f at_ l=xs++[([],p)]
 | 0,at_,l=>⟨[],at_,rfl⟩
 |f+1,at_,[]=>⟨[],at_,rfl⟩
 |f+1,at_,c::r=>by
  rw[lg];obtain⟨xs,p,e⟩:=sY f (at_+aP (c::r)) ((c::r).drop (aP (c::r)));split
  ·exact⟨xs,p,e⟩
  ·exact⟨_::xs,p,by rw[e];rfl⟩
theorem Cy:∀(f at_:Nat)(l:List Nat),(g8 f at_ l).length≤f+1
 | 0,at_,l=>le_refl _
 |f+1,at_,[]=>by show 1≤_;omega
 |f+1,at_,c::r=>by
  rw[lg];have h:=Cy f (at_+aP (c::r)) ((c::r).drop (aP (c::r)));split
  ·omega
  ·rw[length_cons];omega
theorem U8{c:Nat}{r:List Nat}(h:kindS ((c::r).take (aP (c::r)))="number"):∀x∈(c::r).take (aP (c::r)),isDigit x=true:=by
 have hp:=zO c r;obtain⟨n,hn⟩:∃n,aP (c::r)=n+1:=⟨aP (c::r)-1,by omega⟩;have hd:isDigit c=true:=by
  rw[hn,List.take_succ_cons]at h;unfold kindS at h;dsimp only at h;split at h
  ·exact absurd h (by decide +kernel)
  ·split at h
   ·rename_i q;exact q.1
   ·exact absurd h (by decide +kernel)
 have hs:=wA hd;have e:aP (c::r)=((c::r).takeWhile isDigit).length:=by
  unfold aP;dsimp only;rw[if_neg (by intro z;subst z;revert hd;decide),if_neg (by rw[hs];decide),if_pos hd]
 rw[e,eO];intro x hx;exact(takeWhile_all hx).1
theorem vJ:∀(f at_:Nat)(l:List Nat),∀t∈g8 f at_ l,kindS t.1="number"→∀c∈t.1,isDigit c=true
 | 0,at_,l,t,ht,h=>by
  have:t=([],at_):=by simpa[g8] using ht
  subst this;exact absurd h (by show ¬kindS []="number";decide +kernel)
 |f+1,at_,[],t,ht,h=>by
  have:t=([],at_):=by simpa[g8] using ht
  subst this;exact absurd h (by show ¬kindS []="number";decide +kernel)
 |f+1,at_,c::r,t,ht,h=>by
  rw[lg]at ht;split at ht
  ·exact vJ f _ _ t ht h
  ·rcases mem_cons.mp ht with rfl|ht
   ·exact U8 h
   ·exact vJ f _ _ t ht h
theorem U9(l:List Nat)(hl:l.length≤9000):RK (g8 (l.length+1) 0 l):=by
 refine⟨fun i t h hne=>?_,vJ _ _ _,by have:=Cy (l.length+1) 0 l;omega⟩;obtain⟨xs,p,e⟩:=sY (l.length+1) 0 l;rw[e]at h ⊢;have hi:i<xs.length:=by
  rcases Nat.lt_or_ge i xs.length with q|q
  ·exact q
  ·exfalso;rw[getElem?_append_right q]at h;cases q2:i-xs.length with
   |zero=>
    rw[q2]at h;simp at h;subst h;exact hne rfl
   |succ n=>rw[q2]at h;simp at h
 have:i+1<(xs++[(([]:List Nat),p)]).length:=by rw[length_append];simp;omega
 exact⟨_,getElem?_eq_getElem this⟩
def Wy(bs:List Nat):List PT:=g8 ((bs.map cls).length+1) 0 (bs.map cls)
theorem aaI{bs:List Nat}(h:bs.length≤9000):RK (Wy bs):=U9 _ (by rw[length_map];exact h)
theorem Va{bs:List Nat}(h:∀b∈bs,b<256):tk (Wy bs) 0=toks bs:=by
 unfold tk Wy toks;rw[List.drop_zero,length_map];exact qM _ _ _ h
def Vb(K:PySem.W.Frag)(cs:Cs):Sp:=fun vs H Q _=>∃(la:Addr)(bs:List Nat),vs=[.ref la]∧bJ K H la (nV bs)∧(∀b∈bs,b<256)∧bs.length≤9000∧∀(lt:Addr)(as:List Addr)(H':Hp),sV cs H' lt as (Wy bs)→H lt=none→Same H H'→Q (.ref lt) H'
theorem sV.snoc{cs:Cs}{H H1:Hp}{lt x dx:Addr}{as:List Addr}{T:List PT}{t:PT}(R:sV cs H lt as T)(s:Same H H1)(nx:H x=none)(h:H1 x=some (.ins cs.tok dx (GX (kindS t.1) (bT t.1) (t.2:Int)))) :
  sV cs (upd H1 lt (.lst (as.map V.ref++[V.ref x]))) lt (as++[x]) (T++[t]):=by
 refine⟨by rw[ao,map_append];rfl,by rw[length_append,length_append,R.len];rfl,fun j a u e1 e2=>?_⟩;by_cases hj:j<as.length
 ·rw[getElem?_append_left hj]at e1;rw[getElem?_append_left (by rw[←R.len];exact hj)]at e2;obtain⟨dy,ha⟩:=R.at_ j a u e1 e2;exact⟨dy,by rw[aj (dY (s _ _ ha) (s _ _ R.lst))];exact s _ _ ha⟩
 ·rw[getElem?_append_right (by omega)]at e1;rw[getElem?_append_right (by rw[←R.len];omega)]at e2;rw[←R.len]at e2;cases q:j-as.length with
  |zero=>
   rw[q]at e1 e2;simp at e1 e2;subst e1 e2;exact⟨dx,by rw[aj (dY h (s _ _ R.lst))];exact h⟩
  |succ n=>rw[q]at e1;simp at e1
theorem Vc(l:List Nat)(a n:Nat)(h:a+n≤l.length):Qn (bT l) (some (a:Int)) (some ((a+n:Nat):Int))=bT ((l.drop a).take n):=by
 unfold Qn;rw[HT.xg,HT.xg,cP,min_eq_left h,min_eq_left (show a≤l.length by omega),Nat.add_sub_cancel_left];rfl
theorem Im(c:Nat):decide (c∈(" \n#":Str).cps.toList)=skipped c:=by
 have e:(" \n#":Str).cps.toList=[32,10,35]:=by decide +kernel
 rw[e];unfold skipped;by_cases h1:c=32
 ·simp[h1]
 ·by_cases h2:c=10
  ·simp[h2]
  ·by_cases h3:c=35
   ·simp[h3]
   ·simp[h1,h2,h3]
section
variable{P:Program}{w:World}{K:PySem.W.Frag}{mg:Str→Option Value}{base:Heap}{cs:Cs}
theorem pB:aH ["text","row","tokens","place","end","word"] ["text"] (au oX):=⟨rfl,rfl,rfl,by decide +kernel,rfl,by decide +kernel,by decide +kernel⟩
theorem X8(T:bL K mg "tokens_of" oX)(hlen:mg "len"=none)(hE:∃t,mg "END"=some (.str "end" t))(RO:aX P w K mg base 1 "row_of" ["text"] (Y6 K))(RE:aX P w K mg base 2 "run_end" ["row","place"] HD)(KI:aX P w K mg base 1 "kind_of" ["word"] Us)(TO:lq P w K mg base 1 "Token" cs.tok ["self","kind","word","place"] (NP cs)):aX P w K mg base 3 "tokens_of" ["text"] (Vb K cs):=by
 obtain⟨f,fd,F,hm⟩:=T.ex;obtain⟨t1,hE⟩:=hE;refine⟨f,fd,hm,F.kp,F.binds (fun _ _ _ _ _ _ us hl=>match us,hl with | [_],_=>rfl),okN F pB (fun vs H Q E h=>?_) (fun cdv A outer s H vs Q E hr h=>?_)⟩
 ·obtain⟨la,bs,rfl,_⟩:=h;rfl
 ·obtain⟨la,bs,rfl,hla,hbs,hlb,kq⟩:=h;refine⟨_,aq (aY (i:=1) pB.nd rfl (Or.inl rfl) (bN (RO.mono (by decide:1≤2)) hr rfl aF (ak (pv 0) aA)))
   (aq (aY (i:=2) pB.nd rfl (Or.inl rfl) (gw aA))
   (aq (aY (i:=3) pB.nd rfl (Or.inl rfl) aR)
   (aq (gG PassesOwn.never (aU Bv (pv 3) (aQ f9 (by rfl) hlen PySem.boot_len (ak (pv 1) aA)) (bf _))
    (aq (aY (i:=4) pB.nd rfl (Or.inl rfl) (bN RE hr rfl aF (ak (pv 1) (ak (pv 3) aA))))
    (aq (dW (aU Bh (fK yr (pv 1) (pv 3) (fun _ _=>rfl)) cV (by rfl))
     (aq (aY (i:=5) pB.nd rfl (Or.inl rfl) (pR Z4 (pv 1) (qK (pv 3)) (qK (pv 4))))
     (aC (aN (kY plainAttrs_list PySem.F.slot_list_append PySem.F.type_list_append cZ (pv 2) (ak (sJ TO hr rfl aF (ak (bN (KI.mono (by decide:1≤2)) hr rfl aF (ak (pv 5) aA)) (ak (pv 5) (ak (pv 3) aA)))) aA))))) bW)
    (aC (aY (i:=3) pB.nd rfl (Or.inl rfl) (pv 4))))))
   (aq (aN (kY plainAttrs_list PySem.F.slot_list_append PySem.F.type_list_append cZ (pv 2) (ak (sJ TO hr rfl aF (ak (bh (v:=.str "end") (by rfl) hE ⟨t1,rfl⟩) (ak cV (ak (aQ f9 (by rfl) hlen PySem.boot_len (ak (pv 1) aA)) aA)))) aA)))
   (aC (aZ (pv 2))))))),?_⟩
  refine⟨_,rfl,la,bs,rfl,hla,hbs,by omega,fun H1 s1=>?_⟩;refine⟨zero_le _,fun lt hlt=>?_⟩;have nlt:H lt=none:=s1.free hlt;have hll:(bs.map cls).length=bs.length:=length_map _;have hsz:(bT (bs.map cls)).length≤sizeLine:=by rw[cP,hll];exact le_trans (show _≤100000 by omega) (le_of_lt bM)
  refine lD (fun σ H'=>∃(pl f:Nat)(as:List Addr)(T:List PT)(x y:Option V),σ=[some (.ref la),some (.str (bT (bs.map cls))),some (.ref lt),some (.int (pl:Int)),x,y]∧pl≤(bs.map cls).length∧(bs.map cls).length-pl<f∧T.length≤pl∧sV cs H' lt as T∧Same H H' ∧
   T++g8 f pl ((bs.map cls).drop pl)=Wy bs) (fun σ _=>match σ with | [_,_,_,some (.int e),_,_]=>(bs.map cls).length-e.toNat|_=>0)
   ⟨0,(bs.map cls).length+1,[],[],none,none,rfl,zero_le _,by omega,le_refl _,⟨ao,rfl,fun j a t h=>by simp at h⟩,fun c o q=>by rw[aj (aB (s1 _ _ q) hlt)];exact s1 _ _ q,rfl⟩ ?_
  rintro σ H2 ⟨pl,f,as,T,x1,y1,rfl,hpl,hf,hTl,R,s2,e⟩;refine⟨_,rfl,_,rfl,_,rfl,hsz,_,_,rfl,rfl,_,rfl,bY (fun hc=>?_) fun hc=>?_⟩
  ·have h1:((pl:Nat):Int)<((bT (bs.map cls)).length:Int):=of_decide_eq_true hc;rw[cP]at h1;have h2:pl<(bs.map cls).length:=by omega
   have hd:(bs.map cls).drop pl=(bs.map cls)[pl]::(bs.map cls).drop (pl+1):=drop_eq_getElem_cons h2;have hrp:=zO (bs.map cls)[pl] ((bs.map cls).drop (pl+1));have hrl:=QZ (bs.map cls)[pl] ((bs.map cls).drop (pl+1));rw[←hd]at hrp hrl;rw[length_drop]at hrl;obtain⟨f',rfl⟩:∃f',f=f'+1:=⟨f-1,by omega⟩;have ep:g8 (f'+1) pl ((bs.map cls).drop pl)=if skipped (bs.map cls)[pl]=true then g8 f' (pl+aP ((bs.map cls).drop pl)) ((bs.map cls).drop (pl+aP ((bs.map cls).drop pl)))
     else (((bs.map cls).drop pl).take (aP ((bs.map cls).drop pl)),pl)::g8 f' (pl+aP ((bs.map cls).drop pl)) ((bs.map cls).drop (pl+aP ((bs.map cls).drop pl))):=by
    have:=lg f' pl (bs.map cls)[pl] ((bs.map cls).drop (pl+1));rw[←hd,List.drop_drop]at this;exact this
   refine YX ?_;refine⟨_,rfl,_,rfl,bs.map cls,pl,rfl,h2,by omega,?_⟩;refine⟨_,rfl,_,rfl,bT (bs.map cls),_,(bs.map cls)[pl],rfl,rfl,hsz,lW (getElem?_eq_getElem h2),(bs.map cls)[pl],_,rfl,rfl,_,rfl,bY (fun hc2=>?_) fun hc2=>?_⟩
   ·rw[Im]at hc2;have hns:¬skipped (bs.map cls)[pl]=true:=by simpa using hc2
    rw[if_neg hns]at ep;refine⟨_,rfl,_,rfl,_,rfl,_,rfl,_,rfl,bT (bs.map cls),rfl,hsz,?_⟩;have ac7:=Vc (bs.map cls) pl (aP ((bs.map cls).drop pl)) (by omega);refine⟨_,rfl,.inl ⟨rfl,_,bJ.of R.lst⟩,?_⟩;have hwl:(((bs.map cls).drop pl).take (aP ((bs.map cls).drop pl))).length=aP ((bs.map cls).drop pl):=by rw[length_take,length_drop];omega
    refine⟨_,rfl,((bs.map cls).drop pl).take (aP ((bs.map cls).drop pl)),by rw[←ac7];rfl,fun z=>by rw[z]at hwl;simp at hwl;omega,by omega,_,rfl,_,rfl,fun x RG nx ndx nex=>?_⟩;refine⟨x,RG,_,_,_,rfl,ao,fun H3 h3 k3=>⟨rfl,?_⟩⟩;have s3:Same H2 H3:=Same.made nx ndx fun c o e hc=>k3 c o e (by simpa using hc);have ac8:Qn (bT (bs.map cls)) (some (pl:Int)) (some ((pl+aP ((bs.map cls).drop pl):Nat):Int))=bT (((bs.map cls).drop pl).take (aP ((bs.map cls).drop pl))):=ac7;refine⟨lt,_,_,rfl,rfl,s3 _ _ R.lst,?_,?_⟩
    ·rw[length_map,R.len];exact lt_trans (show _<100000 by omega) bM
    have R3:=R.snoc (t:=(((bs.map cls).drop pl).take (aP ((bs.map cls).drop pl)),pl)) s3 nx (by rw[←ac8];exact h3);refine⟨_,rfl,⟨pl+aP ((bs.map cls).drop pl),f',_,_,_,_,rfl,by omega,by omega,?_,R3,fun c o q=>?_,?_⟩,?_⟩
    ·rw[length_append,length_singleton];omega
    ·have q2:=s2 c o q;rw[aj (aB q nlt)];exact s3 _ _ q2
    ·rw[←e,ep,append_assoc];rfl
    ·show (bs.map cls).length-((pl+aP ((bs.map cls).drop pl):Nat):Int).toNat<(bs.map cls).length-((pl:Nat):Int).toNat;omega
   ·rw[Im]at hc2;have hs:skipped (bs.map cls)[pl]=true:=by simpa using hc2
    rw[if_pos hs]at ep;refine⟨_,rfl,⟨pl+aP ((bs.map cls).drop pl),f',as,T,_,_,rfl,by omega,by omega,by omega,R,s2,?_⟩,?_⟩
    ·rw[←e,ep]
    ·show (bs.map cls).length-((pl+aP ((bs.map cls).drop pl):Nat):Int).toNat<(bs.map cls).length-((pl:Nat):Int).toNat;omega
  ·have h1:¬((pl:Nat):Int)<((bT (bs.map cls)).length:Int):=fun z=>hc (decide_eq_true z);rw[cP]at h1;have hpe:pl=(bs.map cls).length:=by omega
   refine⟨_,rfl,.inl ⟨rfl,_,bJ.of R.lst⟩,_,rfl,_,rfl,hsz,fun x RG nx ndx nex=>?_⟩;refine⟨x,RG,_,_,_,rfl,ao,fun H3 h3 k3=>⟨rfl,?_⟩⟩;have s3:Same H2 H3:=Same.made nx ndx fun c o e hc=>k3 c o e (by simpa using hc);refine⟨lt,_,_,rfl,rfl,s3 _ _ R.lst,?_,?_⟩
   ·rw[length_map,R.len];exact lt_trans (show _<100000 by omega) bM
   have afC:("":Str)=bT []:=by decide +kernel
   have R3:=R.snoc (t:=([],(bs.map cls).length)) s3 nx (by rw[←afC,←cP];exact h3);refine⟨_,rfl,kq lt (as++[x]) _ ?_ nlt fun c o q=>?_⟩
   ·rw[hpe,List.drop_length,Q0]at e;rw[←e];exact R3
   ·rw[aj (aB q nlt)];exact s3 _ _ (s2 c o q)
end
def Ej(e:Known)(t:Toks):Except Nat (Known×Toks):=(newName e (t.drop 1)).bind fun x=>(take_ 61 x.2).bind fun u=>(formula e u).bind fun y=>(take_ 59 y.2).map fun r=>(⟨e.people,e.lets++[(x.1,y.1)]⟩,r)
section
variable{T:List PT}{i:Nat}{t u v:PT}{e:Known}
theorem Ve(ht:T[i]?=some t)(h:t.1=ascii "let"):mq e (tk T i)=(Ej e (tk T i)).bind fun y=>mq y.1 y.2:=by
 rw[zc];unfold jy Ej;rw[zE ht,decide_eq_false (by rw[h];decide),if_neg (by decide),o9 Ef ht,decide_eq_true h,if_neg (by decide)];simp only[aW];refine aJ fun x _=>aJ fun u _=>aJ fun y _=>?_;cases take_ 59 y.2<;>rfl
theorem Vf(ht:T[i]?=some t)(h:t.1=[]):mq e (tk T i)=.ok e:=by
 rw[zc];unfold jy;rw[zE ht,decide_eq_true h,if_pos rfl]
theorem Vg(ht:T[i]?=some t)(h:¬t.1=[])(h2:¬t.1=ascii "let"):mq e (tk T i)=.error t.2:=by
 rw[zc];unfold jy;rw[zE ht,decide_eq_false h,if_neg (by decide),o9 Ef ht,decide_eq_false h2,if_pos rfl,jC ht]
theorem Vh(ht:T[i]?=some t)(h:t.1=ascii "let"):Ej e (tk T i)=(newName e (tk T (i+1))).bind fun x=>(take_ 61 x.2).bind fun u=>(formula e u).bind fun y=>(take_ 59 y.2).map fun r=>(⟨e.people,e.lets++[(x.1,y.1)]⟩,r):=by
 unfold Ej;rw[qW Ef ht h];rfl
end
theorem Bs(t:Toks):program t=(Rb35.field t).bind fun x=>(fO x.2).bind fun y=>(mq y.1 y.2).map fun e=>⟨x.1,e.people,e.lets⟩:=by
 rw[Kh];refine aJ fun x _=>?_;unfold fO;by_cases h:isKey "who" x.2=false
 ·rw[if_pos h,if_pos h];rfl
 ·rw[if_neg h,if_neg h,aW];refine aJ fun y _=>?_;cases take_ 59 y.2<;>rfl
def Y7(cs:Cs):Sp:=fun vs H Q E=>∃(r lt:Addr)(as:List Addr)(T:List PT)(i:Nat)(b:Addr)(A:d8)(p:Nat)(B:Bk)(t:PT),vs=[.ref r,.ref b]∧bO cs H r lt as T i∧aV cs H b A p B∧lt≠A.na∧lt≠A.la∧B.Ok∧Fw B.ns [] (4*i)∧B.names.length≤i∧RK T∧T[i]?=some t∧t.1=ascii "let" ∧
 (∀(H':Hp)(j:Nat)(A':d8)(ns':List aG)(x:Nat)(nm:Bytes)(u:PT),Ej B.known (tk T i)=.ok ((⟨B.people,ns',B.ls++[(nm,x)]⟩:Bk).known,tk T j)→bO cs H' r lt as T j→aV cs H' b A' p ⟨B.people,ns',B.ls++[(nm,x)]⟩→Sim A A' →
  (⟨B.people,ns',B.ls++[(nm,x)]⟩:Bk).Ok→Fw ns' [] (4*j)→Kp [r,A.na,A.la,A.ma] H H'→T[j]?=some u→i<j→Q .non H')∧(∀k,Ej B.known (tk T i)=.error k→zB E cs.cst (-100-(k:Int)))
section
variable{P:Program}{w:World}{K:PySem.W.Frag}{mg:Str→Option Value}{base:Heap}{cs:Cs}
theorem K7:aH ["reader","book","name","formula"] ["reader","book"] (au qp):=⟨rfl,rfl,rfl,by decide +kernel,rfl,by decide +kernel,by decide +kernel⟩
theorem aaJ(co:ux cs)(T:bL K mg "read_let" qp)(cl:Cls K cs.cD)(gR:Cls K cs.boo)(naB:cG K cs.boo ["prime","people","nodes","lets","names"])(TW:bw P w K mg base 5 cs.cD "take_written" ["self","word"] (kI cs))(NN:bw P w K mg base 5 cs.cD "take_new_name" ["self","names"] (vG cs false))(FO:aX P w K mg base 8 "read_formula" ["reader","book"] (Cv cs))(AL:bw P w K mg base 1 cs.boo "add_let" ["self","name","formula"] (Hv cs)) :
  aX P w K mg base 9 "read_let" ["reader","book"] (Y7 cs):=by
 obtain⟨f,fd,F,hm⟩:=T.ex;refine⟨f,fd,hm,F.kp,F.binds (fun _ _ _ _ _ _ us hl=>match us,hl with | [_,_],_=>rfl),Fg F K7 (fun vs H Q E h=>?_) (fun cdv A outer s H vs Q E hr h=>?_)⟩
 ·obtain⟨r,lt,as,T,i,b,A,p,B,t,rfl,_⟩:=h;rfl
 ·obtain⟨r,lt,as,T,i,b,Ad,p,B,t,rfl,R,Rb,afD,afE,ok,fw,hnl,tok,ht,Io,kq,kx⟩:=h;refine⟨_,aq (aN (bK (pv 0) cl (TW.mono (by decide:5≤8)) hr bG (ak cV aA)))
   (aq (aY (i:=2) K7.nd rfl (Or.inl rfl) (bK (pv 0) cl (NN.mono (by decide:5≤8)) hr bG (ak (aM (pv 1) rfl) aA)))
   (aq (aN (bK (pv 0) cl (TW.mono (by decide:5≤8)) hr bG (ak cV aA)))
   (aq (aY (i:=3) K7.nd rfl (Or.inl rfl) (bN FO hr rfl bG (ak (pv 0) (ak (pv 1) aA))))
   (aq (aN (bK (pv 0) cl (TW.mono (by decide:5≤8)) hr bG (ak cV aA)))
   (aC (aN (bK (pv 1) gR (AL.mono (by decide:1≤8)) hr aF (ak (pv 2) (ak (pv 3) aA))))))))),?_⟩
  have hTl:=tok.few;have e0:=Vh (e:=B.known) ht Io;have mono:∀{H1 H2:Hp},Kp [r] H1 H2→Kp [r,Ad.na,Ad.la,Ad.ma] H1 H2:=fun k=>k.mono fun x hx=>by simp at hx;simp[hx]
  obtain⟨u,hu⟩:=tok.next i t ht (by rw[Io];decide);refine cF rfl R (by decide +kernel) (by decide +kernel) ?_;refine⟨r,lt,as,T,i,t,_,rfl,R,ht,fun _ H1 R1 k1=>?_,fun hq=>absurd ((nO KY).mpr Io) hq⟩;have Rb1:=Rb.read co R k1;obtain⟨db1,wO⟩:=Rb1.ob;refine cF rfl R1 (by decide +kernel) (by decide +kernel) ?_;refine⟨_,rfl,b,cs.boo,db1,_,_,rfl,wO,gR,naB _ (by simp),kE _ _ _ _ _,?_⟩;have hval:(lR (xK B.names) (Sum.inr (bT u.1))).isSome=knows B.known u.1:=by
   rw[uE,Bk.yX];cases look B.names u.1<;>rfl
  refine⟨r,lt,as,T,i+1,u,Ad.ma,xK B.names,rfl,R1,hu,Rb1.names,fun hq H2 R2 k2=>?_,fun hq=>?_⟩
  ·rw[hval]at hq;rw[N5 hu hq.1 hq.2]at e0;have e1:Ej B.known (tk T i)=(take_ 61 (tk T (i+2))).bind fun v=>(formula B.known v).bind fun y=>(take_ 59 y.2).map fun r=>(⟨B.known.people,B.known.lets++[(u.1,y.1)]⟩,r):=e0;have hlook:look B.names u.1=none:=by
    have:=hq.2;rw[Bk.yX]at this;cases q:look B.names u.1 with
    |none=>rfl
    |some z=>rw[q]at this;cases this
   have Y5:=Rb1.read co R1 k2;obtain⟨v,hv⟩:=tok.next (i+1) u hu (fun z=>by have:=hq.1;rw[z]at this;exact absurd this (by decide +kernel));refine cF rfl R2 (by decide +kernel) (by decide +kernel) ?_;refine⟨r,lt,as,T,i+2,v,_,rfl,R2,hv,fun h3 H3 R3 k3=>?_,fun h3=>kx v.2 ?_⟩
   ·have h61:=(nO Y0).mp h3;rw[uD (by decide) hv h61]at e1;have e2:Ej B.known (tk T i)=(formula B.known (tk T (i+3))).bind fun y=>(take_ 59 y.2).map fun r=>(⟨B.known.people,B.known.lets++[(u.1,y.1)]⟩,r):=e1;have Rb3:=Y5.read co R2 k3;obtain⟨y,hy⟩:=tok.next (i+2) v hv (by rw[h61];simp);refine⟨_,rfl,_,rfl,r,lt,as,T,i+3,b,Ad,p,B,y,rfl,R3,Rb3,afD,ok,fw.mono (by omega),tok,hy,fun H4 j A4 ns4 x z R4 Rb4 sim k4 ps4 fw4 hij hz ef=>?_,fun k hk=>kx k (by rw[e2,hk];rfl)⟩;rw[ef]at e2;have e3:Ej B.known (tk T i)=(take_ 59 (tk T j)).map fun r=>(⟨B.known.people,B.known.lets++[(u.1,den B.P ns4 x)]⟩,r):=e2;refine cF rfl R4 (by decide +kernel) (by decide +kernel) ?_;refine⟨r,lt,as,T,j,z,_,rfl,R4,hz,fun h5 H5 R5 k5=>?_,fun h5=>kx z.2 ?_⟩
    ·have Y4:=(nO Cq).mp h5;rw[uD (by decide) hz Y4]at e3;obtain⟨y5,hy5⟩:=tok.next j z hz (by rw[Y4];simp);have X6:=Rb4.read co R4 k5;obtain⟨db5,ob5⟩:=X6.ob;obtain⟨okN,knN⟩:=ps4.done ok ⟨rfl,rfl⟩ rfl u.1;have hjl:=(List.getElem?_eq_some_iff.mp hz).1;refine⟨_,rfl,b,db5,_,rfl,ob5,oO _ _ _ _ _ (by decide +kernel) (by decide +kernel) (by decide +kernel) (by decide +kernel) (by decide +kernel),_,rfl,_,rfl,?_⟩;refine⟨b,u.1,x,A4,p,{ B with ns:=ns4 },rfl,X6,hlook,by show B.names.length<50000;omega,fun H6 Rb6 k6=>?_⟩;have R6:=R5.Hh k6 fun q hq=>by
      simp only[mem_cons,not_mem_nil,or_false]at hq;rcases hq with rfl|rfl
      ·exact⟨by rw[sim.2.2.1];exact afE.symm,fun C dx fs z=>by rw[X6.lets]at z;cases z⟩
      ·exact⟨Hg X6.names R5.tk.lst,fun C dx fs z=>by rw[X6.names]at z;cases z⟩
     refine kq H6 (j+1) A4 ns4 x u.1 y5 ?_ R6 Rb6 sim okN (fw4.mono (by omega)) ?_ hy5 (by omega)
     ·rw[e3,knN];rfl
     ·rw[sim.2.2.1,sim.2.1]at k6;exact(mono k1).trans ((mono k2).trans ((mono k3).trans ((k4.mono fun x hx=>by simp at hx ⊢;rcases hx with rfl|rfl<;>simp).trans ((mono k5).trans (k6.mono fun x hx=>by simp at hx ⊢;rcases hx with rfl|rfl<;>simp)))))
    ·rw[e3,qX (by decide) hz fun q=>h5 ((nO Cq).mpr q)];rfl
   ·rw[e1,qX (by decide) hv fun q=>h3 ((nO Y0).mpr q)];rfl
  ·rw[hval]at hq;refine kx u.2 ?_;rw[e0,Ud hu hq];rfl
def zP(K:PySem.W.Frag)(cs:Cs):Sp:=fun vs H Q E=>∃(la:Addr)(bs:List Nat),vs=[.ref la]∧bJ K H la (nV bs)∧(∀b∈bs,b<256)∧bs.length≤9000 ∧
 (∀(G:Prog)(b:Addr)(A:d8)(B:Bk)(H':Hp),taken bs=.good G→aV cs H' b A G.p B→B.Ok→Sz B→G.people=B.people→G.lets=B.known.lets→small G=true→Same H H'→Q (.ref b) H') ∧
 (∀v,taken bs=.bad v→zB E cs.cst v∧zB E cs.pP v)
theorem uI{F:List Addr}{H H1 H2:Hp}(s:Same H H1)(k:Kp F H1 H2)(h:∀x∈F,H x=none):Same H H2:=fun c o q=>k c o (s c o q) fun z=>by rw[h c z]at q;cases q
def LeI(cs:Cs)(H0:Hp)(la r lt:Addr)(as:List Addr)(T:List PT)(b:Addr)(A:d8)(p:Nat)(l:List Bytes)(j0:Nat):L2.St→Hp→Prop:=fun σ H'=>
 ∃(A':d8)(B:Bk)(j:Nat)(u:PT),σ=[some (.ref la),some (.ref r),some (.ref b)]∧bO cs H' r lt as T j∧aV cs H' b A' p B∧Sim A A'∧B.Ok∧Fw B.ns [] (4*j)∧B.names.length≤j∧Same H0 H'∧T[j]?=some u∧mq ⟨l,[]⟩ (tk T j0)=mq B.known (tk T j)
theorem vK:aH ["text","reader","book"] ["text"] (au sU):=⟨rfl,rfl,rfl,by decide +kernel,rfl,by decide +kernel,by decide +kernel⟩
theorem Q5(co:ux cs)(T:bL K mg "book_of" sU)(cl:Cls K cs.cD)(qT:Cls K cs.tok)(qU:cG K cs.tok ["kind","word","place"])(hlen:mg "len"=none)(hLT:∃t,mg "LONGEST_TEXT"=some (.int 65536 t))(hE:∃t,mg "END"=some (.str "end" t))(OR:uy P w K mg base 2 "OutOfRange" cs.pO ["self"] (oZ K cs.pO (-2)))(TO:aX P w K mg base 3 "tokens_of" ["text"] (Vb K cs))(RD:lq P w K mg base 1 "Reader" cs.cD ["self","tokens"] (Hf cs))(FR:aX P w K mg base 6 "read_field" ["reader"] (Ib cs))(BK:lq P w K mg base 1 "Book" cs.boo ["self","prime"] (T5 cs))(PE':aX P w K mg base 6 "read_people" ["reader","book"] (Ig cs))(NW:bw P w K mg base 1 cs.cD "now" ["self"] (mG cs))(LE:aX P w K mg base 9 "read_let" ["reader","book"] (Y7 cs))(TK:bw P w K mg base 4 cs.cD "take" ["self","stands"] (o8 cs))(LM:aX P w K mg base 4 "keep_limits" ["book"] (Ik cs)):aX P w K mg base 10 "book_of" ["text"] (zP K cs):=by
 obtain⟨f,fd,F,hm⟩:=T.ex;obtain⟨fC,fdC,QB,MC,bC,GC⟩:=OR.ex;have GC9:=GC.mono (by decide:2≤8);obtain⟨t1,hLT⟩:=hLT;obtain⟨t2,hE⟩:=hE;refine⟨f,fd,hm,F.kp,F.binds (fun _ _ _ _ _ _ us hl=>match us,hl with | [_],_=>rfl),Fg F vK (fun vs H Q E h=>?_) (fun cdv A outer s H vs Q E hr h=>?_)⟩
 ·obtain⟨la,bs,rfl,_⟩:=h;rfl
 ·obtain⟨la,bs,rfl,hla,hbs,hlb,kq,kx⟩:=h;refine⟨_,aq (dW (aU tZ (aQ aO (by rfl) hlen PySem.boot_len (ak (pv 0) aA)) (bh (v:=.int 65536) (by rfl) hLT ⟨t1,rfl⟩) (bf _)) (aC (kh MC GC9 hr bC rfl QB)) bW)
   (aq (aY (i:=1) vK.nd rfl (Or.inl rfl) (sJ (RD.mono (by decide:1≤8)) hr rfl aF (ak (bN (TO.mono (by decide:3≤9)) hr rfl aF (ak (pv 0) aA)) aA)))
   (aq (aY (i:=2) vK.nd rfl (Or.inl rfl) (sJ (BK.mono (by decide:1≤8)) hr rfl aF (ak (bN (FR.mono (by decide:6≤9)) hr rfl bG (ak (pv 1) aA)) aA)))
   (aq (aN (bN (PE'.mono (by decide:6≤9)) hr rfl bG (ak (pv 1) (ak (pv 2) aA))))
   (aq (gG PassesOwn.leaving (aU gY (aM (dU (pv 1) cl (NW.mono (by decide:1≤9)) hr aF) rfl) cV (bf _)) (aC (aN (bN LE hr rfl bG (ak (pv 1) (ak (pv 2) aA))))))
   (aq (aN (bK (pv 1) cl (TK.mono (by decide:4≤9)) hr bG (ak (eN gY (aM (dU (pv 1) cl (NW.mono (by decide:1≤9)) hr aF) rfl) (bh (v:=.str "end") (by rfl) hE ⟨t2,rfl⟩) (bf _)) aA)))
   (aq (aN (bN (LM.mono (by decide:4≤9)) hr rfl bG (ak (pv 2) aA)))
   (aC (aZ (pv 2))))))))),?_⟩
  have tok:RK (Wy bs):=aaI hlb;have etk:=Va hbs;have hT0:∃t,(Wy bs)[0]?=some t:=by
   obtain⟨xs,p,e⟩:=sY ((bs.map cls).length+1) 0 (bs.map cls);have e':Wy bs=xs++[([],p)]:=e;exact⟨_,getElem?_eq_getElem (show 0<(Wy bs).length by rw[e',length_append];simp)⟩
  obtain⟨t0,ht0⟩:=hT0;obtain⟨T,hT⟩:∃T,T=Wy bs:=⟨_,rfl⟩;rw[←hT]at tok etk ht0;have hTl:=tok.few;have err:∀k,program (toks bs)=.error k→zB E cs.cst (-100-(k:Int)):=fun k hk=>by
   refine(kx _ ?_).1;unfold taken;rw[hk]
  have ep:program (toks bs)=(Rb35.field (tk T 0)).bind fun x=>(fO x.2).bind fun y=>(mq y.1 y.2).map fun e=>⟨x.1,e.people,e.lets⟩:=by
   rw[etk];exact Bs _
  refine⟨_,rfl,_,_,rfl,.inl hla,_,_,rfl,rfl,_,rfl,bY (fun hc=>?_) fun _=>?_⟩
  ·exfalso;have h1:(65536:Int)<((nV bs).length:Int):=of_decide_eq_true hc;rw[aK]at h1;omega
  refine⟨_,rfl,la,bs,rfl,hla,hbs,hlb,fun lt as H1 RT nlt s1=>?_⟩;rw[←hT]at RT;intro r dr nr ndr ner;refine⟨r,dr,lt,rfl,ao,fun H2 h2 k2=>⟨rfl,?_⟩⟩;have s12:Same H1 H2:=Same.made nr ndr fun c o e hc=>k2 c o e (by simpa using hc);have s2:=s1.trans s12;have nr0:H r=none:=s1.free nr;have R2:bO cs H2 r lt as T 0:=⟨⟨dr,h2⟩,s12 _ _ RT.lst,RT.len,fun j a t e1 e2=>by
   obtain⟨dy,h⟩:=RT.at_ j a t e1 e2;exact⟨dy,s12 _ _ h⟩⟩
  refine⟨_,rfl,r,lt,as,T,0,t0,rfl,R2,tok,ht0,fun H3 p j3 u3 ef R3 k3 QS _=>?_,fun k hk=>err k (by rw[ep,hk];rfl)⟩;have s3:Same H H3:=uI s2 k3 fun x hx=>by simp at hx;rw[hx];exact nr0
  rw[ef]at ep;have ep1:program (toks bs)=(fO (tk T j3)).bind fun y=>(mq y.1 y.2).map fun e=>⟨p,e.people,e.lets⟩:=ep;intro b db nb ndb neb;refine⟨b,db,(p:Int),rfl,ao,fun pa na la' ma H4 h4 hpa hna afJ hma npa nna nla nma nd4 k4=>⟨rfl,?_⟩⟩;have s34:Same H3 H4:=Same.made nb ndb fun c o e hc=>k4 c o e (by simpa using hc);have adb:=dw npa;have ade:=dw nna;have adf:=dw nla;have adg:=dw nma;have s4:=s3.trans s34;have R4:=R3.same s34;have Rb4:aV cs H4 b ⟨pa,na,la',ma,[]⟩ p ⟨[],[],[]⟩:=⟨⟨db,h4⟩,hpa,hna,afJ,hma,rfl,fun j x n e1 e2=>by simp at e1,by show [pa,na,la'].Nodup;exact nd4⟩;have aaK:∀{x:Addr},H3 x=none→lt≠x:=fun hx=>aB R3.tk.lst hx;refine⟨_,rfl,_,rfl,r,lt,as,T,j3,b,⟨pa,na,la',ma,[]⟩,p,u3,rfl,R4,Rb4,aaK adb,tok,QS,fun H5 l j5 u5 e5 R5 X6 k5 hu5 _ hl5=>?_,fun k hk=>err k (by rw[ep1,hk];rfl)⟩;have s5:Same H H5:=uI s4 k5 fun x hx=>by
   simp only[mem_cons,not_mem_nil,or_false]at hx;rcases hx with rfl|rfl|rfl
   ·exact nr0
   ·exact s3.free adb
   ·exact s3.free adg
  rw[e5]at ep1;have ep2:program (toks bs)=(mq ⟨l,[]⟩ (tk T j5)).map fun e=>⟨p,e.people,e.lets⟩:=ep1;have ok5:(⟨l,[],[]⟩:Bk).Ok:=⟨Good.nil,fun x hx=>by simp at hx,Fe.nil⟩;have Yb:(⟨l,[],[]⟩:Bk).names.length≤j5:=by
   show (l.zipIdx++[]).length≤_;rw[append_nil,List.length_zipIdx];exact hl5
  refine lD (LeI cs H la r lt as T b ⟨pa,na,la',ma,[]⟩ p l j5) (fun _ H'=>XQ T r H') ⟨⟨pa,na,la',ma,[]⟩,⟨l,[],[]⟩,j5,u5,rfl,R5,X6,⟨rfl,rfl,rfl,rfl⟩,ok5,⟨by simp,fun x hx=>by simp at hx,by simp⟩,Yb,s5,hu5,rfl⟩ ?_;rintro σ H6 ⟨A6,B,j6,u6,rfl,R6,Rb6,Ek,ok6,fw6,hn6,s6,Y8,e6⟩;obtain⟨d6,ob6⟩:=R6.ob;have aiI:=(List.getElem?_eq_some_iff.mp Y8).1;have lna:lt≠A6.na:=by rw[Ek.1];exact aaK ade
  have lla:lt≠A6.la:=by rw[Ek.2.2.1];exact aaK adf
  refine qw qT qU rfl R6 Y8 ⟨rfl,_,rfl,bY (fun hc=>?_) fun hc=>?_⟩
  ·rw[sW KY]at hc;have Io:=of_decide_eq_true hc;have e7:=e6.trans (Ve Y8 Io);refine YX ?_;refine⟨_,rfl,_,rfl,r,lt,as,T,j6,b,A6,p,B,u6,rfl,R6,Rb6,lna,lla,ok6,fw6,hn6,tok,Y8,Io,fun H7 j7 A7 ns7 x nm u7 el R7 Rb7 Yc ok7 fw7 k7 hu7 hij=>?_,fun k hk=>err k (by rw[ep2,e7,hk];rfl)⟩;rw[el]at e7;obtain⟨d7,ob7⟩:=R7.ob;refine⟨⟨A7,_,j7,u7,rfl,R7,Rb7,⟨Yc.1.trans Ek.1,Yc.2.1.trans Ek.2.1,Yc.2.2.1.trans Ek.2.2.1,Yc.2.2.2.trans Ek.2.2.2⟩,ok7,fw7,?_,uI s6 k7 (fun y hy=>?_),hu7,e7⟩,?_⟩
   ·show (B.people.zipIdx++(B.ls++[(nm,x)])).length≤j7;have:(B.people.zipIdx++B.ls).length≤j6:=hn6;rw[length_append]at this;rw[length_append,length_append,length_singleton];omega
   ·simp only[mem_cons,not_mem_nil,or_false]at hy;rcases hy with rfl|rfl|rfl|rfl
    ·exact nr0
    ·rw[Ek.1];exact s3.free ade
    ·rw[Ek.2.2.1];exact s3.free adf
    ·rw[Ek.2.1];exact s3.free adg
   ·rw[jO ob6,jO ob7];omega
  ·rw[sW KY]at hc;have Io:¬u6.1=ascii "let":=fun z=>hc (decide_eq_true z);refine cF rfl R6 (by decide +kernel) (by decide +kernel) ?_;refine uG qT qU rfl R6 Y8 ⟨rfl,?_⟩;refine⟨r,lt,as,T,j6,u6,_,rfl,R6,Y8,fun hq H7 R7 k7=>?_,fun hq=>?_⟩
   ·rw[Cr]at hq;have hend:=Hu.mp (of_decide_eq_true hq);have e7:=e6.trans (Vf Y8 hend);rw[e7]at ep2;have ep3:program (toks bs)=.ok ⟨p,B.known.people,B.known.lets⟩:=ep2;have s7:Same H H7:=uI s6 k7 fun y hy=>by simp at hy;rw[hy];exact nr0
    have fle:=fw6.le;have hnn:B.people.length+B.ls.length≤j6:=by
     have:(B.people.zipIdx++B.ls).length≤j6:=hn6
     rwa[length_append,List.length_zipIdx]at this
    have sz:Sz B:=⟨by omega,by simp at fle;omega,fw6.wi,by omega⟩;have El:taken bs=if small ⟨p,B.known.people,B.known.lets⟩=true then .good ⟨p,B.known.people,B.known.lets⟩ else .bad (-5):=by
     unfold taken;rw[ep3]
    refine⟨_,rfl,b,A6,p,B,rfl,Rb6.read co R6 k7,ok6,sz,fun hs H8 s8=>?_,fun hs=>?_⟩
    ·rw[show (⟨p,B.people,B.known.lets⟩:Prog)=⟨p,B.known.people,B.known.lets⟩ from rfl]at hs;rw[if_pos hs]at El;refine⟨_,rfl,kq _ b A6 B H8 El ((Rb6.read co R6 k7).keep (Kp.same s8 []) (fun y hy=>by simp at hy)) ok6 sz rfl rfl hs (s7.trans s8)⟩
    ·rw[show (⟨p,B.people,B.known.lets⟩:Prog)=⟨p,B.known.people,B.known.lets⟩ from rfl]at hs;rw[if_neg hs]at El;exact(kx _ El).2
   ·rw[Cr]at hq;have hend:¬u6.1=[]:=fun z=>absurd (Hu.mpr z) (of_decide_eq_false hq);exact err _ (by rw[ep2,e6,Vg Y8 hend Io];rfl)
end
end Pg
namespace Xc
open PySem PySem.W PySem.Builtin PySem.Builtin.ObjectAttr
section
variable{prog:Program}{w:World}{A:Around}{E:Value→Shared→Prop}{s:Shared}{K:Frag}{x C:Addr}{ox:Obj}{od:Option Obj}{name:Str}{expr:Bool}{Q:Value→Shared→Prop}
theorem Yd{v:Value}{tk:Tok}{Q:Fin→Shared→Prop}(X:K.In s.heap)(I:InstAt s.heap x ox C od)(hf:findObj K C od name=some (.value v))(h:Q (.done (.ret v)) s) :
  wpAny (model prog w) A (Builtin.«object.__getattribute__» ⟨[.ref x,.str name tk],[]⟩) Q E s:=by
 have l0:=I.type (M:=model prog w);have l1:=looks_find (M:=model prog w) X I hf;refine wpAny_bind (wpAny_pure (wpAny_bind (wpAny_pure (wpAny_bind (l0.here (wpAny_bind (l1.here ?_)))))));exact wpAny_pure h
theorem afM{v:Value}(X:K.In s.heap)(I:InstAt s.heap x ox C od)(hga:findIn K (.ref C) "__getattribute__"=some (some (.builtin "BaseException.__getattribute__")))(hgr:findIn K (.ref C) "__getattr__"=some none)(hsub:subIn K (.ref C) (.type "BaseException")=some true)(hf:findObj K C od name=some (.value v))(hh:handedIn v=true)(h:Q v { s with toks:=s.toks+1 }):wpAny (model prog w) A (getAttr (.ref x) name expr) Q E s:=by
 obtain⟨hp,g,d,t,os⟩:=s;have l0:=I.type (M:=model prog w);have l1:=looks_findIn (M:=model prog w) X hga;have l2:=looks_hook (M:=model prog w) (mc:=.ref C) X (r:=none) (by rw[if_pos (show onTheHeap (Value.ref C)=true from rfl)];exact hgr);have l3:Looks (model prog w) hp (isInstance (.ref x) (.type "BaseException")) true:=l0.andThen (looks_subIn X hsub);have ne:(Value.builtin "BaseException.__getattribute__"==Value.builtin "object.__getattribute__")=false:=by decide +kernel
 unfold getAttr getAttrBy;refine wpAny_bind (wpAny_mkText (wpAny_holding (wpAny_bind (l0.at (wpAny_bind (l1.at ?_))))));dsimp only;rw[ne,Bool.and_false,if_neg Bool.false_ne_true];unfold getAttrByItsOwn;refine wpAny_bind (l2.at (wpAny_bind (wpAny_attempt (wpAny_holding ?_))));unfold callGetattribute;rw[if_neg (show ¬(expr&&onTheHeap (Value.builtin "BaseException.__getattribute__"))=true from by cases expr<;>exact Bool.false_ne_true)];unfold boundAndCalled;rw[PySem.F.attr_Exception.ga.bind];refine wpAny_bind (wpAny_pure (wpAny_call (codeAny_call_builtin PySem.F.attr_Exception.ga.plain PySem.F.entry_bexc_ga ?_)));refine @check_slot (model prog w) _ _ ⟨hp,g,d,t+1,os⟩ "BaseException.__getattribute__" "BaseException" "__getattribute__" (.ref x) [.str name t] [] _ (by decide +kernel) (by decide +kernel) l3 (PySem.F.args_bexc_ga (.ref x) (.str name t)) ?_;refine Yd (s:=⟨hp,g,d,t+1,os⟩) X I hf ?_;show wpAny _ _ (handedOut v) _ _ _;rw[handedOut_of hh];exact wpAny_pure h
end
end Xc
namespace Xc
open PySem PySem.W PySem.Builtin
structure zQ(K:Frag)(R:Addr):Prop where
 aaL:instIn K (.ref R) (.type "tuple")=some false
 afN:(clsIn K R).isSome=true
 isExc:subIn K (.ref R) (.type "BaseException")=some true
section
variable{M:Model}{A:Around}{E:Value→Shared→Prop}{s:Shared}{K:Frag}{a C R:Addr}{oe:Obj}{Q:Bool→Shared→Prop}
theorem Ip(X:K.In s.heap)(c:zQ K R)(he:s.heap.get? a=some oe)(hc:oe.cls=.ref C)(hs:subIn K (.ref C) (.ref R)=some true)(h:Q true s):wpAny M A (excMatches (.ref a) (.ref R)) Q E s:=by
 obtain⟨hp,g,d,t,os⟩:=s;have l1:=looks_instIn (M:=M) X c.aaL;have l2:Looks M hp (isType (.ref R)) true:=by
  have e:=c.afN;unfold clsIn at e;split at e
  ·rename_i ho;exact(Looks.ld (X _ _ ho)).andThen .now
  ·cases e
 have l3:=looks_subIn (M:=M) X c.isExc;have l4:Looks M hp (typeOf (.ref a)) (.ref C):=hc▸(Looks.ld he).andThen .now;have l5:=looks_subIn (M:=M) X hs;unfold excMatches isExcClass
 repeat (first|simp only[Bool.not_true,false_eq_true,if_false,if_true,List.forIn_cons,forIn_nil]|lk)
 exact h
end
end Xc
namespace Xc
open PySem PySem.Spec PyProof.Rows L2
def Oj(C dx a:Addr):Heap→Prop:=fun h=>∃o vs,h.get? a=some o∧o.cls=.ref C∧o.dict=some dx∧o.data=.fields vs
structure Bt(K:PySem.W.Frag)(C:Addr):Prop where
 ga:PySem.W.findIn K (.ref C) "__getattribute__"=some (some (.builtin "BaseException.__getattribute__"))
 gr:PySem.W.findIn K (.ref C) "__getattr__"=some none
 sub:PySem.W.subIn K (.ref C) (.type "BaseException")=some true
 dct:PySem.W.hasDictIn K C=true
def adh(K:PySem.W.Frag)(ta:TE)(f:Str):TE:=fun σ H Q=>ta σ H fun x H1=>∃a C dx fs v,x=.ref a∧H1 a=some (.ext (Oj C dx a))∧H1 dx=some (.xd fs)∧Bt K C∧PySem.W.findIn K (.ref C) f=some none∧fs.lookup f=some v∧Q v H1
section
variable{X:Cx}{e:Expr}{f:Str}{pos:Pos}{ta:TE}
theorem Ye(he:PE X e ta)(hb:attributeBase e f X.env (eval e X.env)=eval e X.env):PE X (.Attribute e f pos) (adh X.K ta f):=by
 intro pins s σ H Q I h;refine Ni hb (dH (he pins s σ H _ I h) fun u s1 ⟨x,H1,I1,rx,a,C,dx,fs,v,ex,ea,ed,c,n,l,q⟩=>?_);subst ex;obtain rfl:u=Value.ref a:=rx;obtain⟨⟨o,vs,ho,hc,hd,hv⟩,_,_⟩:=I1.hok a _ ea;obtain⟨mA,hns,hr⟩:=I1.hok dx _ ed;obtain⟨od,hod,hl⟩:=Bw hns;have r:=hr f;rw[l]at r;obtain⟨u',e',r'⟩:=r.some_of;have J:PySem.W.InstAt s1.heap a o C (some od):=⟨ho,hc,by unfold PySem.W.notCls;rw[hv],by rw[hd];exact hod⟩;refine afM I1.rQ J c.ga c.gr c.sub (findObj_own c.dct n rfl (by rw[hl,e'])) (Bx r') ?_;exact⟨v,H1,I1.tok _,r',q⟩
end
section
variable{X:Cx}{pins:List (Addr×Obj)}{σ:L2.St}{H:Hp}{s:Shared}{h':Heap}
theorem qx{n i:Nat}{v:V}(h:(List.replicate n (none:Option V))[i]?=some (some v)):False:=by
 rw[List.getElem?_replicate]at h;split at h<;>cases h
theorem Ir{m':Str→Option Value}{t':Nat}(I:Inv X pins σ H s)(hs:Heap.SameBut X.env.locals s.heap h')(hn:h'.Ns X.env.locals m'):Inv X pins (List.replicate X.N.length none) H { s with heap:=h',toks:=t' }:=by
 have nl:∀b u,H b=some u→b≠X.env.locals:=fun b u e z=>by rw[z,I.free]at e;cases e
 have n0:∀b o,X.s_0.heap.get? b=some o→b≠X.env.locals:=fun b o e=>ne_of_lt (lt_of_lt_of_le (lt_size e) I.ok.above);refine⟨I.ok,I.os,I.bare,⟨fun b o e n hb hx=>?_,fun b o e n hb hx=>?_,I.base.free,fun b o e hx=>?_,I.base.tups,I.base.kO,I.base.kW⟩,⟨m',hn,fun i x v e1 e2 e3=>(qx e2).elim⟩,fun x c e=>?_,I.free,I.jQ,fun p hp=>?_,fun b o e=>?_,length_replicate⟩
 ·exact(hs.2 b (n0 b o e)).trans (I.base.keep b o e n hb hx)
 ·obtain⟨sl,q⟩:=I.base.slot b o e n hb hx;exact⟨sl,(hs.2 b (n0 b o e)).trans q⟩
 ·obtain⟨o',q⟩:=I.base.there b o e hx;exact⟨o',(hs.2 b (n0 b o e)).trans q⟩
 ·obtain⟨v,z⟩:=I.cell x c e;exact⟨v,z.sameBut hs (I.WD x c e)⟩
 ·obtain⟨e,n,ne,nf,d⟩:=I.pin p hp;exact⟨(hs.2 p.1 ne).trans e,n,ne,nf,d⟩
 ·refine(I.hok b o e).stay (fun c v hc q=>(hs.2 c ?_).trans q) (fun _ q=>q) fun _ _ q=>q;rcases hc with rfl|hc
  ·exact nl _ _ e
  ·exact nl _ _ hc
theorem aaM{a C dx:Addr}(I:Inv X pins σ H s)(hx:Oj C dx a s.heap)(hn:H a=none)(hl:a≠X.env.locals)(hc:∀x c,X.env.cells.lookup x=some c→c≠a)(hp:∀p∈X.pn++pins,p.1≠a)(h0:∀o,X.s_0.heap.get? a=some o→X.Zq a=none→a∉X.ex→False):Inv X pins σ (upd H a (.ext (Oj C dx a))) s:=by
 have tr:∀b u,H b=some u→b≠a:=fun b u e=>aB e hn;obtain⟨o,vs,ho,c1,c2,c3⟩:=id hx;refine⟨I.ok,I.os,I.bare,⟨I.base.keep,I.base.slot,fun b ob e n hb=>?_,I.base.there,fun b xs e=>?_,fun b ob u e=>?_,fun b ps e=>?_⟩,I.loc,I.cell,by rw[aj hl.symm];exact I.free,fun x c e=>by rw[aj (hc x c e)];exact I.jQ x c e,fun p q=>?_,fun b u e=>?_,I.len⟩
 ·by_cases hba:b=a
  ·subst hba;exact(h0 ob e n hb).elim
  ·rw[aj hba];exact I.base.free b ob e n hb
 ·have q:=I.base.tups b xs e;rw[aj (tr b _ q)];exact q
 ·have q:=I.base.kO b ob u e;rw[aj (tr b _ q)];exact q
 ·obtain⟨m,q⟩:=I.base.kW b ps e;exact⟨m,by rw[aj (tr b _ q)];exact q⟩
 ·obtain⟨e,n,ne,nf,d⟩:=I.pin p q;exact⟨e,by rw[aj (hp p q)];exact n,ne,nf,d⟩
 ·by_cases hba:b=a
  ·subst hba;rw[ao]at e;obtain rfl:=Option.some.inj e;exact⟨hx,⟨o,ho⟩,fun h1 h2 ⟨o',vs',z,r⟩ k=>⟨o',vs',k _ z,r⟩⟩
  ·rw[aj hba]at e;exact(I.hok b u e).stay (fun c v _ q=>q) (fun c q=>by rw[aj (tr c _ q)];exact q) fun c xs q=>by rw[aj (tr c _ q)];exact q
end
end Xc
section
set_option maxHeartbeats 2000000
namespace Xc
open PySem PySem.Spec PyProof.Rows L2
abbrev suite(X:Cx)(a:Addr):Cx:={ X with A:=X.A.mark (some (.ref a)),calm:=false }
section
variable{X:Cx}{pins:List (Addr×Obj)}{σ:L2.St}{H:Hp}{s:Shared}{a:Addr}
theorem Vi(ok:X.Ok):(suite X a).Ok:=⟨ok.mod,ok.kind,ok.glob,ok.blt,ok.above,ok.inj,ok.has,ok.cab,fun z=>absurd (show false=true from z) Bool.false_ne_true,ok.frames,ok.stk,ok.exf,ok.bs,ok.Px,ok.Py,ok.Pz,ok.oG,ok.RP⟩
theorem Cz(I:Inv X pins σ H s):Inv (suite X a) pins σ H s:=⟨Vi I.ok,I.os,I.bare,I.base,I.loc,I.cell,I.free,I.jQ,I.pin,I.hok,I.len⟩
theorem Iu(ok:X.Ok)(I:Inv (suite X a) pins σ H s):Inv X pins σ H s:=⟨ok,I.os,I.bare,I.base,I.loc,I.cell,I.free,I.jQ,I.pin,I.hok,I.len⟩
end
section
variable{P:Program}{w:World}{K:PySem.W.Frag}{mg:Str→Option Value}{base:Heap}{N:List Str}{qual:Str}{scope:Scope}{f:Addr}{cd:Value}{A:Around}{outer:List Env}{s:Shared}{H:Hp}{E:XK}
theorem Iv{P:Program}{w:World}{H:Hp}{h:Heap}{a:Addr}{o:HO}(x:eZ P w H h a o):∃ob,h.get? a=some ob:=by
 cases o with
 |lst xs=>obtain⟨_,_,_,_,e⟩:=x;exact⟨_,e⟩
 |tup xs=>obtain⟨_,_,_,ob,e,_⟩:=x;exact⟨_,e⟩
 |dK kvs=>obtain⟨_,_,_,_,o,_,_,e,_⟩:=x;exact⟨_,e⟩
 |dT kvs=>obtain⟨_,_,_,_,o,_,_,e,_⟩:=x;exact⟨_,e⟩
 |set S n=>obtain⟨o,_,_,_,e,_⟩:=x;exact⟨_,e⟩
 |ins C dx fs=>obtain⟨_,_,_,e,_⟩:=x;exact⟨_,e⟩
 |own y=>exact x
 |xd fs=>obtain⟨_,⟨_,_,_,e,_⟩,_⟩:=x;exact⟨_,e⟩
 |rng lo hi=>obtain⟨_,_,_,e⟩:=x;exact⟨_,e⟩
 |Fp ob u=>obtain⟨e,_⟩:=x;exact⟨_,e⟩
 |pJ ps=>exact⟨_,(show h.get? a=some _ from x)⟩
 |met f y=>exact⟨_,(show h.get? a=some _ from x)⟩
 |ext φ=>obtain⟨_,e,_⟩:=x;exact e
structure K8(P:Program)(w:World)(outer:List Env)(H:Hp)(s:Shared)(E:XK)(a:Addr)(s':Shared)(B:Heap)(C dx:Addr)(H':Hp):Prop where
 os:s'.os=s.os
 bare:AllBare s'.gens
 fr:s'.heap.FunFrames B outer
 dict:∃o,s'.heap.get? a=some o∧o.dict=some dx
 keep:∀b o,s.heap.get? b=some o→H b=none→b∉frs outer→B.get? b=some o
 un:Un (frs outer) [] H H' s.heap s'.heap
 hok:oF P w H' B
 wish:E (.ref C) (some dx) H'
theorem landed{σ:L2.St}{H1:Hp}{s1 s':Shared}{E':XK}{a C dx:Addr}{B:Heap}{H':Hp}{h:Heap}{tk:Nat}(I:Inv (aL (bI P w) P w K mg base N qual scope f cd A outer s H E) [] σ H1 s1)(F:K8 P w (aL (bI P w) P w K mg base N qual scope f cd A outer s H E).stack H1 s1 E' a s' B C dx H')(st:B.StaysIn h)(up:s'.heap.UpToSlots h)(dk:DK s'.heap h)(hc:(aL (bI P w) P w K mg base N qual scope f cd A outer s H E).env.cells=[]) :
  Inv (aL (bI P w) P w K mg base N qual scope f cd A outer s H E) [] (List.replicate N.length none) H' { s' with heap:=h,toks:=tk }:=by
 have rJ:∀b:Addr,b∉(aL (bI P w) P w K mg base N qual scope f cd A outer s H E).ex:=fun b z=>absurd (show b∈([]:List Addr) from z) (by simp);have inS:∀b,b∈frs outer→b∈frs (aL (bI P w) P w K mg base N qual scope f cd A outer s H E).stack:=fun b hb=>by
  show b∈List.filterMap _ (_::outer);rw[filterMap_cons];exact mem_cons_of_mem _ hb
 have keep:∀b o,s.heap.get? b=some o→H b=none→b∉frs outer→B.get? b=some o:=fun b o q n hb=>by
  refine F.keep b o (I.base.keep b o q n hb (rJ b)) (I.base.free b o q n (rJ b)) fun z=>?_;rcases mem_cons.mp (I.mK b z) with e1|e1
  ·have l1:=lt_size q;have l2:s.heap.objs.size≤b:=by rw[e1];exact I.ok.above
   exact absurd (lt_of_lt_of_le l1 l2) (lt_irrefl _)
  ·exact hb e1
 have frame:∀b o,s1.heap.get? b=some o→H1 b=none→b∈frs (aL (bI P w) P w K mg base N qual scope f cd A outer s H E).stack→∃sl,h.get? b=some { o with slots:=sl }:=fun b o q n hb=>by
  obtain⟨sl2,e2⟩:=F.un.slot b o q n hb (by simp);obtain⟨_,o3,e3,d3⟩:=F.fr.mem hb;rw[e2]at e3;obtain rfl:=Option.some.inj e3;obtain⟨Z5,e4⟩:=up b _ e2 d3;exact⟨Z5,e4⟩
 have inL:(aL (bI P w) P w K mg base N qual scope f cd A outer s H E).env.locals∈frs (aL (bI P w) P w K mg base N qual scope f cd A outer s H E).stack:=by
  show _∈List.filterMap _ (_::outer);rw[filterMap_cons];exact mem_cons_self
 obtain⟨m,hn,_⟩:=I.loc;obtain⟨oL,es,ep,hL,dL,rL⟩:=hn;obtain⟨slL,eL⟩:=frame _ oL hL I.free inL;refine⟨I.ok,F.os.trans I.os,F.bare,⟨fun b ob q n hb _=>st b ob (keep b ob q n hb),fun b ob q n hb _=>?_,fun b ob q n _=>?_,fun b ob q _=>?_,fun b xs q=>F.un.tups b xs (I.base.tups b xs q),fun b ob u q=>F.un.kO b ob u (I.base.kO b ob u q),fun b ps q=>?_⟩,
  ⟨m,⟨_,es,ep,eL,dL,rL⟩,fun i x v e1 e2 e3=>(qx e2).elim⟩,fun x c e=>?_,F.un.free _ oL hL I.free (by simp),fun x c e=>?_,fun p hp=>absurd (show p∈([]:List (Addr×Obj)) from hp) (by simp),F.hok.kept st,length_replicate⟩
 ·obtain⟨sl,e1⟩:=I.base.slot b ob q n hb (rJ b);obtain⟨sl2,e2⟩:=frame b _ e1 (I.base.free b ob q n (rJ b)) (inS b hb);exact⟨sl2,e2⟩
 ·obtain⟨o1,e1⟩:=I.base.there b ob q (rJ b);exact F.un.free b o1 e1 (I.base.free b ob q n (rJ b)) (by simp)
 ·obtain⟨o1,e1⟩:=I.base.there b ob q (rJ b);obtain⟨o2,e2⟩:=F.un.there b o1 e1 (by simp);obtain⟨o3,e3,_⟩:=dk b o2 e2;exact⟨o3,e3⟩
 ·obtain⟨m1,e1⟩:=I.base.kW b ps q;obtain⟨m2,e2⟩:=F.un.kW b _ e1;exact⟨m1++m2,by rw[e2,Array.append_assoc]⟩
 ·rw[hc]at e;cases e
 ·rw[hc]at e;cases e
def qy(K:PySem.W.Frag)(R:Addr)(Q:VK):XK:=fun cl d H'=>∃C dx fs num,cl=.ref C∧d=some dx∧PySem.W.subIn K (.ref C) (.ref R)=some true∧Bt K C∧PySem.W.findIn K (.ref C) "number"=some none ∧
 H' dx=some (.xd fs)∧fs.lookup ("number":Str)=some (.int num)∧∀p,H' p=none→∀a,p≠a→Q (.ref p) (upd (upd H' a (.ext (Oj C dx a))) p (.lst [.int num]))
variable{R:Addr}{x n:Str}{np p1 p2 p3 p4 hpos:Pos}
theorem uJ{σ:L2.St}{H1:Hp}{s1 s':Shared}{a C dx:Addr}{B h2:Heap}{a0:Value}{H':Hp}{D:Ends}{i:Nat}(I:Inv (aL (bI P w) P w K mg base N qual scope f cd A outer s H E) [] σ H1 s1)(cc:zQ K R)(hm:mg x=some (.ref R))(F:K8 P w (aL (bI P w) P w K mg base N qual scope f cd A outer s H E).stack H1 s1 (qy K R D.rt) a s' B C dx H')(held:Heap.HeldW B (aL (bI P w) P w K mg base N qual scope f cd A outer s H E).stack a (.ref C) a0 (aL (bI P w) P w K mg base N qual scope f cd A outer s H E).env.locals h2)(up2:s'.heap.UpToSlots h2)(Y9:DK s'.heap h2)(hc:(aL (bI P w) P w K mg base N qual scope f cd A outer s H E).env.cells=[])(hg:Gl (aL (bI P w) P w K mg base N qual scope f cd A outer s H E) x)(hN:N.Nodup)(hi:N[i]?=some n)(hl:scope.names.lookup n=some .local)(hdb:(x==("__debug__":Str))=false)(Vj:(n==("__debug__":Str))=false)(Em:(n==("__classdict__":Str))=false) :
  wpAny (model P w) (aL (bI P w) P w K mg base N qual scope f cd A outer s H E).A (setFlight (.ref a) none)
   (fun _ s3=>wpAny (model P w) (aL (bI P w) P w K mg base N qual scope f cd A outer s H E).A
    (handleBy (.ref a) (aL (bI P w) P w K mg base N qual scope f cd A outer s H E).env [.ExceptHandler (some (.Name x np)) (some n) [.Return (some (.List [.Attribute (.Name n p1) "number" p2] p3)) p4] hpos])
    (SP (aL (bI P w) P w K mg base N qual scope f cd A outer s H E) [] D) (aL (bI P w) P w K mg base N qual scope f cd A outer s H E).xe s3) (aL (bI P w) P w K mg base N qual scope f cd A outer s H E).xe { s' with heap:=h2 }:=by
 obtain⟨C',dx',fs,num,e2,e3,hsub,gx,nn,hxd,hnum,hQ⟩:=F.wish;obtain rfl:C=C':=by injection e2
 obtain rfl:dx=dx':=by injection e3
 refine wpAny_mono (Kd.any (u9 _ _) (wpAny_landsW (s:={ s' with heap:=h2 }) (Q:=fun _ s''=>∃h,s''={ s' with heap:=h }∧Heap.FlyingW B (aL (bI P w) P w K mg base N qual scope f cd A outer s H E).stack a (.ref C) a0 h∧h2.UpToSlots h) held fun h f1 f2=>⟨h,rfl,f1,f2⟩)) ?_ fun e' s'' z=>z;rintro _ s3 ⟨⟨h3,rfl,aaN,up3⟩,dk3⟩;have I3:Inv _ [] _ H' { s' with heap:=h3,toks:=s'.toks }:=landed I F aaN.1 (up2.trans up3) (Y9.trans dk3) hc;obtain⟨o,ho,hd⟩:=F.dict;obtain⟨o3,ho3,hd3,_⟩:=(Y9.trans dk3) a o ho;obtain⟨oc3,afP,adi⟩:=aaN.there;obtain rfl:o3=oc3:=Option.some.inj (ho3.symm.trans afP);refine wpAny_handleBy_cons (codeAny_handlers_test ?_) (by intro q;cases q);refine jT (X:=suite (aL (bI P w) P w K mg base N qual scope f cd A outer s H E) a) (Cz I3) hg hm ?_ hdb;refine Ip I3.rQ cc ho3 adi hsub ?_;refine codeAny_handlers_suite_as ?_;refine wpAny_mono (Kd.any (u9 _ _) (lands_againW (s:={ s' with heap:=h3 }) (Q:=fun _ s''=>∃h,s''={ s' with heap:=h }∧Heap.FlyingW B (aL (bI P w) P w K mg base N qual scope f cd A outer s H E).stack a (.ref C) a0 h∧h3.UpToSlots h) aaN fun h f1 f2=>⟨h,rfl,f1,f2⟩)) ?_ fun e' s'' z=>z;rintro _ s4 ⟨⟨h4,rfl,Vk,up4⟩,dk4⟩;have I4:Inv _ [] _ H' { s' with heap:=h4,toks:=s'.toks }:=landed I F Vk.1 (up2.trans (up3.trans up4)) (Y9.trans (dk3.trans dk4)) hc;obtain⟨o4,ho4,hd4,_⟩:=(Y9.trans (dk3.trans dk4)) a o ho;obtain⟨oe,vs,T,oT,ts,he,⟨hcl,_⟩,hdat,_⟩:=Vk.2.2.2;obtain rfl:o4=oe:=Option.some.inj (ho4.symm.trans he);have PB:a∉frs (aL (bI P w) P w K mg base N qual scope f cd A outer s H E).stack:=fun hb=>by
  obtain⟨_,o5,e5,d5⟩:=Vk.2.2.1.mem hb;rw[ho4]at e5;obtain rfl:=Option.some.inj e5;exact d5 vs hdat
 have hna:H' a=none:=by
  cases q:H' a with
  |none=>rfl
  |some u=>
   obtain⟨ob,e5⟩:=Iv (F.hok a u q);rw[Vk.2.1]at e5;cases e5
 have inL:(aL (bI P w) P w K mg base N qual scope f cd A outer s H E).env.locals∈frs (aL (bI P w) P w K mg base N qual scope f cd A outer s H E).stack:=by
  show _∈List.filterMap _ (_::outer);rw[filterMap_cons];exact mem_cons_self
 have hal:a≠(aL (bI P w) P w K mg base N qual scope f cd A outer s H E).env.locals:=fun z=>PB (z▸inL);have I5:=aaM (X:=suite (aL (bI P w) P w K mg base N qual scope f cd A outer s H E) a) (C:=C) (dx:=dx) (Cz I4) ⟨o4,vs,ho4,hcl,hd4.trans hd,hdat⟩ hna hal (fun y c e=>by rw[hc]at e;cases e) (fun p hp=>absurd (show p∈([]:List (Addr×Obj)) from hp) (by simp)) (fun ob q n0 _=>by
  have hb:a∉frs outer:=fun hb=>PB (by
   show _∈List.filterMap _ (_::outer);rw[filterMap_cons];exact mem_cons_of_mem _ hb)
  have rJ:a∉(aL (bI P w) P w K mg base N qual scope f cd A outer s H E).ex:=fun z=>absurd (show a∈([]:List Addr) from z) (by simp);have k1:=I.base.keep a ob q n0 hb rJ;have k2:=F.keep a ob k1 (I.base.free a ob q n0 rJ) PB;rw[Vk.2.1]at k2;cases k2)
 have hxa:dx≠a:=fun z=>by rw[z,hna]at hxd;cases hxd
 refine tU (X:=suite (aL (bI P w) P w K mg base N qual scope f cd A outer s H E) a) (v:=V.ref a) I5 hN hi (.inl hl) rfl (fun s5 I6=>?_) (.inl rfl);have hiN:i<N.length:=(List.getElem?_eq_some_iff.mp hi).1;have run:JH (suite (aL (bI P w) P w K mg base N qual scope f cd A outer s H E) a).nox [.Return (some (.List [.Attribute (.Name n p1) "number" p2] p3)) p4] _:=
  aC (aZ (gw (ak (Ye (JL hi (.inl hl) Vj Em) rfl) aA)))
 refine wpAny_mono (run [] s5 _ _ { nx:=fun _ _=>False,rt:=D.rt } (I6.wish _) ?_) ?_ fun e' s'' z=>False.elim z
 ·refine⟨V.ref a,?_,a,C,dx,fs,.int num,rfl,ao,by rw[aj hxa];exact hxd,gx,nn,hnum,(by show 1≤sizeLine;decide),fun p hp=>?_⟩
  ·rw[getElem?_set_self (by rw[length_replicate];exact hiN)]
  ·have hpa:p≠a:=fun z=>by rw[z,ao]at hp;cases hp
   exact hQ p (by rw[aj hpa]at hp;exact hp) a hpa
 ·intro fl s6 h6;replace h6:=h6.jH;cases fl with
  |next=>obtain⟨_,_,_,z⟩:=h6;exact z.elim
  |brk=>obtain⟨_,_,_,z⟩:=h6;exact z.elim
  |cont=>obtain⟨_,_,_,z⟩:=h6;exact z.elim
  |ret u=>
   obtain⟨v,σ6,H6,I6',rv,q6⟩:=h6;obtain⟨m6,n6,_⟩:=I6'.loc;refine wpAny_nameGoes (m:=m6) hl n6 (by rw[I.ok.kind];rfl) fun h7 m7 n7 sb7=>?_;exact⟨v,_,H6,Ir (Iu I.ok I6') sb7 n7,rv,q6⟩
theorem K9{σ:L2.St}{H1:Hp}{s1 s':Shared}{a:Addr}{Q:VK}{D:Ends}{i:Nat}(I:Inv (aL (bI P w) P w K mg base N qual scope f cd A outer s H E) [] σ H1 s1)(cc:zQ K R)(hm:mg x=some (.ref R))(hF:bI P w (aL (bI P w) P w K mg base N qual scope f cd A outer s H E).stack H1 s1 (qy K R D.rt) (.ref a) s')(hc:(aL (bI P w) P w K mg base N qual scope f cd A outer s H E).env.cells=[])(hg:Gl (aL (bI P w) P w K mg base N qual scope f cd A outer s H E) x)(hN:N.Nodup)(hi:N[i]?=some n)(hl:scope.names.lookup n=some .local)(hdb:(x==("__debug__":Str))=false:=by decide)(Vj:(n==("__debug__":Str))=false:=by decide)(Em:(n==("__classdict__":Str))=false:=by decide) :
  wpAny (model P w) (aL (bI P w) P w K mg base N qual scope f cd A outer s H E).A (noteFrame (.ref a) (aL (bI P w) P w K mg base N qual scope f cd A outer s H E).env)
   (fun _ s2=>wpAny (model P w) (aL (bI P w) P w K mg base N qual scope f cd A outer s H E).A (setFlight (.ref a) none)
    (fun _ s3=>wpAny (model P w) (aL (bI P w) P w K mg base N qual scope f cd A outer s H E).A
     (handleBy (.ref a) (aL (bI P w) P w K mg base N qual scope f cd A outer s H E).env [.ExceptHandler (some (.Name x np)) (some n) [.Return (some (.List [.Attribute (.Name n p1) "number" p2] p3)) p4] hpos])
     (SP (aL (bI P w) P w K mg base N qual scope f cd A outer s H E) [] D) (aL (bI P w) P w K mg base N qual scope f cd A outer s H E).xe s3) (aL (bI P w) P w K mg base N qual scope f cd A outer s H E).xe s2)
   (aL (bI P w) P w K mg base N qual scope f cd A outer s H E).xe s':=by
 obtain⟨a',B,C,dx,a0,H',e1,F⟩:=hF;obtain rfl:a=a':=by injection e1
 refine wpAny_mono (Kd.any (Du _ _) (wpAny_looks_onW (Q:=fun _ s''=>∃h,s''={ s' with heap:=h }∧Heap.HeldW B (aL (bI P w) P w K mg base N qual scope f cd A outer s H E).stack a (.ref C) a0 (aL (bI P w) P w K mg base N qual scope f cd A outer s H E).env.locals h∧s'.heap.UpToSlots h) I.ok.frames rfl F.fly fun h f1 f2=>⟨h,rfl,f1,f2⟩)) ?_ fun e' s'' z=>z;rintro _ s2 ⟨⟨h2,rfl,held,up2⟩,Y9⟩;exact uJ I cc hm ⟨F.os,F.bare,F.fly.2.2.1,F.dict,F.keep,F.un,F.hok,F.wish⟩ held up2 Y9 hc hg hN hi hl hdb Vj Em
theorem La{M:Model}{A:Around}{E:Value→Shared→Prop}{s:Shared}{base:Heap}{env:Env}{outer:List Env}{L e:Addr}{oe:Obj}{vs:Array Value}{a0:Value}{Q:Unit→Shared→Prop}(hfr:A.frames=some (env::outer))(hl:s.heap.FunFrames base (env::outer))(hf:env.frame=some L)(he:s.heap.get? e=some oe)(hkb:base.StaysIn s.heap)(hen:base.get? e=none)(hd:oe.data=.fields vs)(h1:vs[1]?=some .none)(h0:vs[0]?=some a0)(h:∀h',Heap.HeldW base (env::outer) e oe.cls a0 L h'→s.heap.UpToSlots h'→Q () { s with heap:=h' }):wpAny M A (noteFrame (.ref e) env) Q E s:=by
 unfold noteFrame;simp only[hf];refine wpAny_bind (wpAny_field he hd h1 ?_);rw[if_neg (by decide)];exact wpAny_entryW hfr hl hf he hkb hen hd (Array.getElem?_eq_some_iff.mp h1).1 h0 fun h' ⟨k1,k2,k3,k4⟩=>h h' ⟨k1,hen,k2,k3⟩ k4
theorem Iw{pins:List (Addr×Obj)}{σ:L2.St}{H2:Hp}{s2:Shared}{a C dx:Addr}{D:Ends}{i:Nat}(I':Inv (aL (bI P w) P w K mg base N qual scope f cd A outer s H E) pins σ H2 s2)(cc:zQ K R)(hm:mg x=some (.ref R))(ha:H2 a=some (.ext (qb C dx a)))(hE:qy K R D.rt (.ref C) (some dx) (del H2 a))(hc:(aL (bI P w) P w K mg base N qual scope f cd A outer s H E).env.cells=[])(hg:Gl (aL (bI P w) P w K mg base N qual scope f cd A outer s H E) x)(hN:N.Nodup)(hi:N[i]?=some n)(hl:scope.names.lookup n=some .local)(hdb:(x==("__debug__":Str))=false:=by decide)(Vj:(n==("__debug__":Str))=false:=by decide)(Em:(n==("__classdict__":Str))=false:=by decide) :
  wpAny (model P w) (aL (bI P w) P w K mg base N qual scope f cd A outer s H E).A (noteFrame (.ref a) (aL (bI P w) P w K mg base N qual scope f cd A outer s H E).env)
   (fun _ s2=>wpAny (model P w) (aL (bI P w) P w K mg base N qual scope f cd A outer s H E).A (setFlight (.ref a) none)
    (fun _ s3=>wpAny (model P w) (aL (bI P w) P w K mg base N qual scope f cd A outer s H E).A
     (handleBy (.ref a) (aL (bI P w) P w K mg base N qual scope f cd A outer s H E).env [.ExceptHandler (some (.Name x np)) (some n) [.Return (some (.List [.Attribute (.Name n p1) "number" p2] p3)) p4] hpos])
     (SP (aL (bI P w) P w K mg base N qual scope f cd A outer s H E) [] D) (aL (bI P w) P w K mg base N qual scope f cd A outer s H E).xe s3) (aL (bI P w) P w K mg base N qual scope f cd A outer s H E).xe s2)
   (aL (bI P w) P w K mg base N qual scope f cd A outer s H E).xe s2:=by
 have I:=I'.wZ (Fq:=[]) (fun p hp=>by simp at hp);obtain⟨⟨T,hx⟩,_,_⟩:=I.hok a _ ha;have hin:∀env∈(aL (bI P w) P w K mg base N qual scope f cd A outer s H E).stack,∀b,env.frame=some b→b∈a::frs (aL (bI P w) P w K mg base N qual scope f cd A outer s H E).stack:=fun env he b hb=>
  mem_cons_of_mem _ (mem_filterMap.mpr ⟨env,he,hb⟩)
 have hfr:=PySem.W.funFrames_hide I.stack hin;have hst:(hideAll s2.heap (a::frs (aL (bI P w) P w K mg base N qual scope f cd A outer s H E).stack)).StaysIn s2.heap:=fun b o q=>of_hideAll _ q;have hno:(hideAll s2.heap (a::frs (aL (bI P w) P w K mg base N qual scope f cd A outer s H E).stack)).get? a=none:=hideAll_none _ mem_cons_self;have toB:∀b o,s2.heap.get? b=some o→b≠a→b∉frs (aL (bI P w) P w K mg base N qual scope f cd A outer s H E).stack→(hideAll s2.heap (a::frs (aL (bI P w) P w K mg base N qual scope f cd A outer s H E).stack)).get? b=some o:=
  fun b o q h1 h2=>hideAll_get _ q fun z=>(mem_cons.mp z).elim h1 h2
 have tr:∀b o,H2 b=some o→(∀φ,o≠.ext φ)→b≠a:=fun b o e ne z=>by rw[z,ha]at e;exact ne _ (Option.some.inj e).symm
 have nt:∀b,H2 b=none→b≠a:=fun b n z=>by rw[z,ha]at n;cases n
 have F0:K8 P w (aL (bI P w) P w K mg base N qual scope f cd A outer s H E).stack H2 s2 (qy K R D.rt) a s2 (hideAll s2.heap (a::frs (aL (bI P w) P w K mg base N qual scope f cd A outer s H E).stack)) C dx (del H2 a):=by
  refine⟨rfl,I.bare,hfr,⟨_,hx,rfl⟩,fun b o q n hb=>toB b o q (nt b n) hb,⟨fun b o q n _ _=>q,fun b o q n _ _=>⟨o.slots,q⟩,fun b o q n _=>by rw[fP (nt b n)];exact n,fun b o q _=>⟨o,q⟩,fun b xs q=>?_,fun b ob u q=>?_,fun b ps q=>⟨#[],?_⟩⟩,fun b o e=>?_,hE⟩
  ·rw[fP (tr b _ q fun φ z=>by cases z)];exact q
  ·rw[fP (tr b _ q fun φ z=>by cases z)];exact q
  ·rw[fP (tr b _ q fun φ z=>by cases z),q];simp
  ·have hb:b≠a:=fun z=>by rw[z,yM]at e;cases e
   rw[fP hb]at e;refine(I.hok b o e).stay (fun c u hc q=>toB c u q ?_ fun z=>?_) (fun c q=>?_) fun c xs q=>?_
   ·rcases hc with rfl|hc
    ·exact hb
    ·exact tr c _ hc fun φ z=>by cases z
   ·have nf:=I.tR c z;rcases hc with rfl|hc
    ·rw[e]at nf;cases nf
    ·rw[hc]at nf;cases nf
   ·rw[fP (tr c _ q fun φ z=>by cases z)];exact q
   ·rw[fP (tr c _ q fun φ z=>by cases z)];exact q
 refine wpAny_mono (Kd.any (Du _ _) (?_:wpAny (model P w) (aL (bI P w) P w K mg base N qual scope f cd A outer s H E).A (noteFrame (.ref a) (aL (bI P w) P w K mg base N qual scope f cd A outer s H E).env) (fun _ s''=>∃h,s''={ s2 with heap:=h }∧Heap.HeldW (hideAll s2.heap (a::frs (aL (bI P w) P w K mg base N qual scope f cd A outer s H E).stack)) (aL (bI P w) P w K mg base N qual scope f cd A outer s H E).stack a (.ref C) (.ref T) (aL (bI P w) P w K mg base N qual scope f cd A outer s H E).env.locals h∧s2.heap.UpToSlots h) _ s2)) ?_ fun e' s'' z=>z
 ·exact La I.ok.frames hfr rfl hx hst hno rfl rfl rfl fun h' k1 k2=>⟨h',rfl,k1,k2⟩
 ·rintro _ s3 ⟨⟨h2,rfl,held,up2⟩,Y9⟩;exact uJ I cc hm F0 held up2 Y9 hc hg hN hi hl hdb Vj Em
end
end Xc
end
namespace Xc
open PySem PySem.Spec PyProof.Rows L2
def BMain(mg:Str→Option Value)(base:Heap):Prop:=∃bm ob,mg "__builtins__"=some (.ref bm)∧bm≠builtinsNs∧base.get? bm=some ob∧ob.cls=.type "module"∧ob.dict=some builtinsNs∧ob.data=.plain
def Iz(h:Heap)(f:Addr)(qual:Str)(params:Arguments)(body:Expr)(scope:Scope)(cl:List (Str×Addr)):Prop:=
 ∃pm c' ctv,h.get? f=some (kla_obj "<lambda>" qual params body scope cl pm c' ctv)∧h.CodeRec (.ref c') qual
def wR(h:Heap)(H:Hp)(fs:List Addr):Heap:=hideAll h (trk h H++fs)
section
variable{h:Heap}{H:Hp}{fs:List Addr}{b:Addr}{o:Obj}
theorem Q6:(wR h H fs).objs.size=h.objs.size:=hideAll_size _ _
theorem zR(e:h.get? b=some o)(n:H b=none)(nf:b∉fs):(wR h H fs).get? b=some o:=
 hideAll_get _ e fun hm=>by
  rcases mem_append.mp hm with hm|hm
  ·have q:(H b).isSome=true:=(mem_filter.mp hm).2;rw[n]at q;simp at q
  ·exact nf hm
theorem Yg(e:(wR h H fs).get? b=some o):h.get? b=some o∧H b=none:=by
 have e':h.get? b=some o:=of_hideAll _ e;refine⟨e',?_⟩;cases q:H b with
 |none=>rfl
 |some x=>
  have hm:b∈trk h H++fs:=mem_append_left _ (mem_filter.mpr ⟨mem_range.mpr (lt_size e'),by simp[q]⟩);have z:(wR h H fs).get? b=none:=hideAll_none _ hm;rw[z]at e;cases e
theorem Lb(hb:b∈fs):(wR h H fs).get? b=none:=hideAll_none _ (mem_append_right _ hb)
end
section
variable{X:Cx}{pins:List (Addr×Obj)}{σ:L2.St}{H:Hp}{s:Shared}
theorem CG(I:Inv X pins σ H s):∀b o,X.base.get? b=some o→(wR s.heap H (frs X.stack)).get? b=some o:=fun b o e=>by
 obtain⟨e1,n1⟩:=I.bs b o e;refine zR e1 n1 fun z=>?_;rcases mem_cons.mp (I.mK b z) with q|q
 ·have l1:=lt_size e;have l2:X.base.objs.size≤b:=by rw[q];exact le_trans I.ok.Px I.ok.above
  exact absurd (lt_of_lt_of_le l1 l2) (lt_irrefl _)
 ·exact I.ok.PB e q
theorem Mod.keeps{K:PySem.W.Frag}{mg:Str→Option Value}{base base':Heap}(M:Mod K mg base)(k:∀b o,base.get? b=some o→base'.get? b=some o):Mod K mg base':=
 ⟨M.Wo.keeps k,M.glob.keeps k,let ⟨mb,h1,h2⟩:=M.blt;⟨mb,h1.keeps k,h2⟩,M.nolimit.keeps k⟩
theorem wB{h base base':Heap}:∀{l:List Env},h.FunFrames base l→(∀b∈frs l,base'.get? b=none)→h.FunFrames base' l
 | [],_,_=>trivial
 |env::r,hl,hn=>by
  obtain⟨hk,⟨L,o,hf,_,ho,hd⟩,hr⟩:=hl;refine⟨hk,⟨L,o,hf,hn L (by unfold frs;rw[filterMap_cons,hf];exact mem_cons_self),ho,hd⟩,wB hr fun b hb=>hn b ?_⟩;unfold frs;rw[filterMap_cons,hf];exact mem_cons_of_mem _ hb
theorem Za(I:Inv X pins σ H s):uc X.prog X.w X.K X.mg (wR s.heap H (frs X.stack)) X.A X.stack s H:=
 ⟨I.ok.frames,Mod.keeps I.ok.mod (CG I),fun b o e=>Yg e,le_of_eq Q6,wB I.stack fun b hb=>Lb hb,I.tR,I.hok,I.bare⟩
structure xM(env:Env)(N:List Str)(σ:L2.St)(base:Heap):Prop where
 cell:∀x c,env.cells.lookup x=some c→∃v,base.IsCell c v
 val:∀(i:Nat)(x:Str)(v:V),N[i]?=some x→σ[i]?=some (some v)→env.scope.names.lookup x=some .cell→∃c u,env.cells.lookup x=some c∧base.IsCell c (some u)∧RelV v u
theorem IK(I:Inv X pins σ H s)(hfn:∀x,X.fn x=true):xM X.env X.N σ (wR s.heap H (frs X.stack)):=by
 have up:∀x c v,X.env.cells.lookup x=some c→s.heap.IsCell c v→(wR s.heap H (frs X.stack)).IsCell c v:=fun x c v e ⟨o,ho,hd⟩=>by
  refine⟨o,zR ho (I.jQ x c e) fun z=>?_,hd⟩;rcases mem_cons.mp (I.mK c z) with q|q
  ·exact I.WD x c e q
  ·obtain⟨_,ob,hb,_⟩:=I.ok.oG.mem q;exact absurd (lt_of_lt_of_le (lt_size hb) (I.ok.cab x c (hfn x) e)) (lt_irrefl _)
 refine⟨fun x c e=>?_,fun i x v h1 h2 h3=>?_⟩
 ·obtain⟨v,z⟩:=I.cell x c e;exact⟨v,up x c v e z⟩
 ·obtain⟨m,_,hl⟩:=I.loc;obtain⟨u,r,l⟩:=hl i x v h1 h2 (.inr (.inl h3));rcases l with⟨k,_⟩|⟨_,c,hc,z⟩
  ·have k':X.env.scope.names.lookup x=some .local:=k;rw[h3]at k';cases k'
  ·exact⟨c,u,hc,up x c _ hc z,r⟩
theorem IW{params:Arguments}{body:Expr}{scope:Scope}{pos:Pos}{ps:Array Value}{clos:List (Str×Addr)}{c P:Addr}{Q:Value→Shared→Prop}{E:Value→Shared→Prop}(I:Inv X pins σ H s)(hcode:X.env.code=.ref c)(C:CodeHd X.base c P)(hP:H P=some (.pJ ps))(ht:TriplesOk ps.toList)(hnf:codeAmong pos ps.toList=none)(hb:BMain X.mg X.base)(hcl:closureFor scope X.env=pure clos)(hdef:defaultsOf params X.env=([],[]))(h:∀f s2 more,Inv X pins σ (upd H P (.pJ (ps++more))) s2→Iz (wR s2.heap (upd H P (.pJ (ps++more))) (frs X.stack)) f (X.env.qual++"<lambda>") params body scope clos→Q (.ref f) s2) :
  wpAny (model X.prog X.w) X.A (eval (.Lambda params body scope pos) X.env) Q E s:=by
 refine PySem.W.kla_eval hdef ?_;have hPo:s.heap.get? P=some (tabObj ps):=I.hok P _ hP;have hgs:=I.ok.mod.glob.keeps I.bk;obtain⟨bm,ob,b1,b2,b3,b4,b5,b6⟩:=hb;have hgP:mainGlobals≠P:=fun q=>by
  obtain⟨o,es,ep,e,hd,_⟩:=hgs;rw[q,hPo]at e;cases e;cases hd
 have hbP:bm≠P:=fun q=>by
  have e:=I.bk _ _ b3;rw[q,hPo]at e;cases e;cases b4
 have hbG:bm≠mainGlobals:=fun q=>by
  obtain⟨o,es,ep,e,hd,_⟩:=I.ok.mod.glob;rw[q,e]at b3;cases b3;rw[hd]at b6;cases b6
 refine PySem.W.kla_makeFunction (mg:=X.mg) hcl I.ok.glob hgs hcode (C.keeps I.bk) hPo ht hnf hgP ⟨bm,ob,b1,b2,hbG,hbP,I.bk _ _ b3,b4,b5,b6⟩ fun c' ctv h' tk hx hge hlt hrec htb=>?_;have old:∀b o,b≠P→s.heap.get? b=some o→(h'.push (kla_obj "<lambda>" (X.env.qual++"<lambda>") params body scope clos ((X.mg "__name__").getD .none) c' ctv)).get? b=some o:=fun b o hb e=>get?_push_of_some _ (hx b o hb e);have newP:(h'.push (kla_obj "<lambda>" (X.env.qual++"<lambda>") params body scope clos ((X.mg "__name__").getD .none) c' ctv)).get? P=some (tabObj (ps++#[rawInt pos.line,rawInt pos.col,.ref c'])):=get?_push_of_some _ htb;have trP:∀b u,H b=some u→(∀qs,u≠.pJ qs)→b≠P:=fun b u e n z=>by rw[z,hP]at e;exact n ps (Option.some.inj e).symm
 have un:Un X.fs [] H (upd H P (.pJ (ps++#[rawInt pos.line,rawInt pos.col,.ref c']))) s.heap (h'.push (kla_obj "<lambda>" (X.env.qual++"<lambda>") params body scope clos ((X.mg "__name__").getD .none) c' ctv)):=by
  have nP:∀b,H b=none→b≠P:=fun b n z=>by rw[z,hP]at n;cases n
  refine⟨fun b o e n _ _=>old b o (nP b n) e,fun b o e n _ _=>⟨o.slots,old b o (nP b n) e⟩,fun b o e n _=>by rw[aj (nP b n)];exact n,fun b o e _=>?_,fun b xs e=>?_,fun b o u e=>?_,fun b qs e=>?_⟩
  ·by_cases hb:b=P
   ·rw[hb];exact⟨_,newP⟩
   ·exact⟨o,old b o hb e⟩
  ·rw[aj (trP b _ e fun qs z=>by cases z)];exact e
  ·rw[aj (trP b _ e fun qs z=>by cases z)];exact e
  ·by_cases hb:b=P
   ·rw[hb,hP]at e;cases e;exact⟨_,by rw[hb];exact ao⟩
   ·exact⟨#[],by rw[aj hb,e];simp⟩
 have hok:oF X.prog X.w (upd H P (.pJ (ps++#[rawInt pos.line,rawInt pos.col,.ref c']))) (h'.push (kla_obj "<lambda>" (X.env.qual++"<lambda>") params body scope clos ((X.mg "__name__").getD .none) c' ctv)):=fun b u e=>by
  by_cases hb:b=P
  ·subst hb;rw[ao]at e;cases e;exact newP
  ·rw[aj hb]at e;refine(I.hok b u e).stay (fun d v hd q=>old d v ?_ q) (fun d q=>?_) fun d xs q=>?_
   ·rcases hd with rfl|hd
    ·exact hb
    ·exact trP d _ hd fun qs z=>by cases z
   ·rw[aj (trP d _ q fun qs z=>by cases z)];exact q
   ·rw[aj (trP d _ q fun qs z=>by cases z)];exact q
 have I2:=I.un (t':=tk) un hok;have afR:s.heap.objs.size≤h'.objs.size:=le_trans hge (le_of_lt hlt);have fresh:∀b o,s.heap.objs.size≤b→(h'.push (kla_obj "<lambda>" (X.env.qual++"<lambda>") params body scope clos ((X.mg "__name__").getD .none) c' ctv)).get? b=some o→(wR (h'.push (kla_obj "<lambda>" (X.env.qual++"<lambda>") params body scope clos ((X.mg "__name__").getD .none) c' ctv)) (upd H P (.pJ (ps++#[rawInt pos.line,rawInt pos.col,.ref c']))) (frs X.stack)).get? b=some o:=fun b o hb e=>by
  have bP:b≠P:=fun z=>absurd (lt_of_lt_of_le (lt_size hPo) (z▸hb)) (lt_irrefl _);refine zR e (by rw[aj bP];exact I.hok.fresh hb) fun z=>?_;rcases mem_cons.mp (I.mK b z) with q|q
  ·exact absurd (lt_of_lt_of_le I.lt (q▸hb)) (lt_irrefl _)
  ·exact I.abI hb q
 refine h _ _ _ I2 ⟨_,c',ctv,fresh _ _ afR (get?_push_size _ rfl),?_⟩;obtain⟨c2,oc,vs,t,e2,hoc,hd,hv⟩:=hrec;cases e2;exact⟨c',oc,vs,t,rfl,fresh _ _ hge (get?_push_of_some _ hoc),hd,hv⟩
end
def wC(P:Program)(w:World)(K:PySem.W.Frag)(mg:Str→Option Value)(base:Heap)(k:Nat)(f:Addr)(sp:Sp):Prop:=
 (∃oc od fd sl,base.get? f=some ⟨oc,od,.func fd,sl⟩)∧∀(A:Around)(outer:List Env)(s:Shared)(H:Hp)(u:Value)(v:V)(Q:VK)(E:XK),cY k A→uc P w K mg base A outer s H→RelV v u→sp [v] H Q E →
  codeAny (model P w) A (.call (.ref f) ⟨[u],[]⟩) (CR (bI P w) outer P w H s Q E) s
def zT(P:Program)(w:World)(K:PySem.W.Frag)(mg:Str→Option Value)(base:Heap)(N:List Str)(qual:Str)(scope:Scope)(f:Addr)(cd:Value)(cl:List (Str×Addr))(A:Around)(outer:List Env)(s:Shared)(H:Hp)(E:XK):Cx where
 prog:=P
 w:=w
 K:=K
 mg:=mg
 base:=base
 A:=A.deeper (envX qual scope s.heap.objs.size f cd cl)
 N:=N
 s_0:=s
 Zq:=H
 env:=envX qual scope s.heap.objs.size f cd cl
 outer:=outer
 stack:=envX qual scope s.heap.objs.size f cd cl::outer
 ex:=[]
 calm:=true
 fn:=fun _=>false
 pn:=[]
 xe:=fun e s'=>wpAny (model P w) (A.deeper (envX qual scope s.heap.objs.size f cd cl)) (leaving (envX qual scope s.heap.objs.size f cd cl) e) (fun _ s''=>bI P w outer H s E e s'') (fun e' s''=>bI P w outer H s E e' s'') s'
section
variable{P:Program}{w:World}{K:PySem.W.Frag}{mg:Str→Option Value}{base:Heap}{N:List Str}{qual:Str}{scope:Scope}{f:Addr}{cd:Value}{cl:List (Str×Addr)}{A:Around}{outer:List Env}{s:Shared}{H:Hp}{E:XK}
theorem zU:Passes (bI P w) (zT P w K mg base N qual scope f cd cl A outer s H E) E:=by
 intro pins σ H1 s1 e s' I h;obtain⟨a,B,C,dx,a0,H',rfl,F⟩:=h;have fl:=F.fly;refine wpAny_mono (Kd.any (rZ _ _) (wpAny_leaves_onW (Q:=fun _ s''=>∃h',s''={ s' with heap:=h' }∧Heap.FlyingW B outer a (.ref C) a0 h'∧s'.heap.UpToSlots h') I.ok.frames rfl fl fun h' f1 f2=>⟨h',rfl,f1,f2⟩)) ?_ fun e' s'' z=>z;rintro _ s'' ⟨⟨h',rfl,f1,f2⟩,dk⟩;obtain⟨o,ho,hd⟩:=F.dict;obtain⟨o',ho',hd',_⟩:=dk a o ho;have rJ:∀b:Addr,b∉(zT P w K mg base N qual scope f cd cl A outer s H E).ex:=fun b z=>absurd (show b∈([]:List Addr) from z) (by simp);have keep:∀b o,s.heap.get? b=some o→H b=none→b∉frs outer→B.get? b=some o:=fun b o q n hb=>by
  refine F.keep b o (I.base.keep b o q n hb (rJ b)) (I.base.free b o q n (rJ b)) fun z=>?_;rcases mem_cons.mp (I.mK b z) with e1|e1
  ·have l1:=lt_size q;have l2:s.heap.objs.size≤b:=by rw[e1];exact I.ok.above
   exact absurd (lt_of_lt_of_le l1 l2) (lt_irrefl _)
  ·exact hb e1
 refine⟨a,B,C,dx,a0,H',rfl,F.os.trans I.os,F.bare,f1,⟨o',ho',hd'.trans hd⟩,keep,?_,F.hok,F.wish⟩;refine⟨fun b ob q n hb _=>f1.1 b ob (keep b ob q n hb),fun b ob q n hb _=>?_,fun b ob q n _=>?_,fun b ob q _=>?_,fun b xs q=>F.un.tups b xs (I.base.tups b xs q),fun b ob u q=>F.un.kO b ob u (I.base.kO b ob u q),fun b ps q=>?_⟩
 ·obtain⟨sl,e1⟩:=I.base.slot b ob q n hb (rJ b);have hb2:b∈frs (zT P w K mg base N qual scope f cd cl A outer s H E).stack:=by
   show b∈List.filterMap _ (_::outer);rw[filterMap_cons];exact mem_cons_of_mem _ hb
  obtain⟨sl2,e2⟩:=F.un.slot b _ e1 (I.base.free b ob q n (rJ b)) hb2 (by simp);obtain⟨_,o3,e3,d3⟩:=fl.2.2.1.mem hb2;rw[e2]at e3;obtain rfl:=Option.some.inj e3;obtain⟨Z5,e4⟩:=f2 b _ e2 d3;exact⟨Z5,e4⟩
 ·obtain⟨o1,e1⟩:=I.base.there b ob q (rJ b);exact F.un.free b o1 e1 (I.base.free b ob q n (rJ b)) (by simp)
 ·obtain⟨o1,e1⟩:=I.base.there b ob q (rJ b);obtain⟨o2,e2⟩:=F.un.there b o1 e1 (by simp);obtain⟨o3,e3,_⟩:=dk b o2 e2;exact⟨o3,e3⟩
 ·obtain⟨m1,e1⟩:=I.base.kW b ps q;obtain⟨m2,e2⟩:=F.un.kW b _ e1;exact⟨m1++m2,by rw[e2,Array.append_assoc]⟩
theorem aaO{k:Nat}{params:Arguments}{body:Expr}{x0:Str}{fr:List Str}{vals:List V}{sp:Sp}(L:Iz base f qual params body scope cl)(hco:scope.isCoroutine=false)(hgen:scope.isGenerator=false)(hk:scope.kind=.function)(hcell:∀x∈scope.names,x.2≠.cell)(hx0:scope.names.lookup x0=some .local)(hbind:∀(pm ctv u:Value)(c':Addr),bindArgs (kla_fn "<lambda>" qual params body scope cl pm (.ref c') ctv) ⟨[u],[]⟩=pure [(x0,u)])(hinj:∀x y c,cl.lookup x=some c→cl.lookup y=some c→x=y)(hhas:∀x,scope.names.lookup x=some .free→∃c,cl.lookup x=some c)(hcl:∀x c,cl.lookup x=some c→∃v,base.IsCell c v)(hlen:fr.length=vals.length)(hfr:∀(i:Nat)(x:Str)(v:V),fr[i]?=some x→vals[i]?=some v→scope.names.lookup x=some .free∧∃c u,cl.lookup x=some c∧base.IsCell c (some u)∧RelV v u)(hbody:∀(A:Around)(outer:List Env)(s:Shared)(H:Hp)(cd:Value)(v:V)(Q:VK)(E:XK),cY k (A.deeper (envX qual scope s.heap.objs.size f cd cl))→sp [v] H Q E →
   ∃t,PE (zT P w K mg base (x0::fr) qual scope f cd cl A outer s H E) body t∧t (some v::vals.map some) H Q):wC P w K mg base (k+1) f sp:=by
 obtain⟨pm,c',ctv,hf,hcr⟩:=L;refine⟨⟨_,_,_,_,hf⟩,fun A outer s H u v Q E hr e0 rv hsp=>?_⟩;have bk:∀b o,base.get? b=some o→s.heap.get? b=some o:=fun b o e=>(e0.bs b o e).1;refine PySem.W.kla_callFunE hr.depth (bk _ _ hf) rfl hco hgen rfl (hcr.keeps bk) ?_;rw[hbind];refine wpAny_pure (wpAny_newFunctionEnv hcell (fun y hy=>by
  obtain rfl:y=(x0,u):=mem_singleton.mp hy;exact hx0) (fun h₁ hns hsb=>⟨(e0.mod.nolimit.keeps bk).fresh _ hsb,?_⟩) hk)
 show codeAny _ _ (.expr body (envX qual scope s.heap.objs.size f (.ref c') cl)) _ _;have hk₁:∀b o,s.heap.get? b=some o→h₁.get? b=some o:=fun b o e=>hsb.extBut b o (ne_of_lt (lt_size e)) (get?_push_of_some _ e);obtain⟨t,pe,ht⟩:=hbody A outer s H (.ref c') v Q E (hr.deeper _) hsp;have ZF:∀b:Addr,b∉(zT P w K mg base (x0::fr) qual scope f (.ref c') cl A outer s H E).ex:=fun b z=>absurd (show b∈([]:List Addr) from z) (by simp);have Vl:∀c v,base.IsCell c v→h₁.IsCell c v:=fun c v ⟨o,ho,hd⟩=>⟨o,hk₁ _ _ (bk _ _ ho),hd⟩;have I:Inv (zT P w K mg base (x0::fr) qual scope f (.ref c') cl A outer s H E) [] (some v::vals.map some) H { s with heap:=h₁,toks:=s.toks+1 }:=by
  refine⟨⟨e0.mod,hk,rfl,rfl,le_refl _,hinj,fun y hy=>?_,fun y c z _=>absurd (show false=true from z) Bool.false_ne_true,fun _=>hr.hd,Around.frames_deeper e0.frames,.inr ⟨rfl,rfl⟩,fun b z=>absurd z (ZF b),e0.bs,e0.Px,fun b _ _=>ZF b,fun b z=>absurd z (ZF b),e0.oG,e0.RP⟩,
   rfl,e0.bare,Un.kept hk₁,⟨_,hns,fun i y z h1 h2 h3=>?_⟩,fun y c h=>?_,e0.hok.fresh (le_refl _),fun y c h=>?_,fun p hp=>absurd (show p∈([]:List (Addr×Obj)) from hp) (by simp),e0.hok.kept hk₁,?_⟩
  ·rcases hy with hy|hy
   ·have hy':scope.names.lookup y=some .cell:=hy;exact absurd rfl (hcell _ (PySem.mem_of_lookup hy'))
   ·exact hhas y hy
  ·cases i with
   |zero=>
    have h1':(x0::fr)[0]?=some y:=h1;have e1:x0=y:=by simpa using h1'
    have e2:v=z:=by simpa using h2
    subst e1 e2;refine⟨u,rv,.inl ⟨hx0,?_⟩⟩;show List.lookup x0 [(x0,u)]=some u;rw[lookup_cons,beq_self_eq_true]
   |succ i=>
    have h1':(x0::fr)[i+1]?=some y:=h1;have e1:fr[i]?=some y:=by simpa using h1'
    have e2:vals[i]?=some z:=by
     have h2':(vals.map some)[i]?=some (some z):=by simpa using h2
     rw[getElem?_map]at h2';cases q:vals[i]? with
     |none=>rw[q]at h2';cases h2'
     |some a=>rw[q]at h2';cases h2';rfl
    obtain⟨k1,c,u1,hc,hz,r1⟩:=hfr i y z e1 e2;exact⟨u1,r1,.inr ⟨.inr k1,c,hc,Vl _ _ hz⟩⟩
  ·obtain⟨z,hz⟩:=hcl y c h;exact⟨z,Vl _ _ hz⟩
  ·obtain⟨z,o,ho,_⟩:=hcl y c h;exact(e0.bs _ _ ho).2
  ·show (some v::vals.map some).length=(x0::fr).length;rw[length_cons,length_cons,length_map,hlen]
 refine PySem.W.kla_codeExpr (wpAny_mono (pe [] _ _ H Q I ht) (fun r s' q=>?_) fun _ _ y=>y);obtain⟨v',H',I',r',q'⟩:=q;exact⟨v',H',I'.os,I'.bare,I'.base,I'.hok,r',q'⟩
end
def afT(sp:Sp)(E:XK)(f:Addr)(j:Nat)(te:TE):TE:=fun σ H Q=>σ[j]?=some (some (.ref f))∧te σ H fun v H1=>sp [v] H1 Q E
theorem aaP{X:Cx}{k j:Nat}{x:Str}{f:Addr}{sp:Sp}{E:XK}{e:Expr}{te:TE}{p pos:Pos}(hN:X.N[j]?=some x)(hv:Zr X.env.scope x)(hr:cY k X.A)(F:wC X.prog X.w X.K X.mg X.base k f sp)(hx:Passes (bI X.prog X.w) X E)(he:PE X e te)(hs:starEach [e] X.env=[(false,eval e X.env)]:=by rfl)(hd:(x==("__debug__":Str))=false:=by decide)(hcd:(x==("__classdict__":Str))=false:=by decide):PE X (.Call (.Name x p) [e] [] pos) (afT sp E f j te):=by
 intro pins s σ H Q I h;obtain⟨hf,h⟩:=h;obtain⟨⟨oc,od,fd,sl,ho⟩,run⟩:=F;refine wpAny_Call_Name_kw (dH (JL hN hv hd hcd pins s σ H (fun v H1=>v=.ref f∧te σ H1 fun v H1=>sp [v] H1 Q E) I ⟨_,hf,rfl,h⟩) fun u s1 ⟨v,H1,I1,r1,ev,q⟩=>?_);subst ev;obtain rfl:u=Value.ref f:=r1;show wpAny _ _ (callWith pos (.ref f) [] (backTo pos (starEach [e] X.env)) []) _ _ _;have sp1:=ak he aA hs pos pins s1 σ H1 (fun vs H2=>match vs with | [v]=>sp [v] H2 Q E|_=>False) I1 q;rw[hs]at sp1 ⊢;refine PySem.W.callWith_of (P:=fun h=>h.get? f=some ⟨oc,od,.func fd,sl⟩) (first:=[]) rfl (fun h e=>⟨.frame,.inl rfl,(PySem.W.Looks.ld (part:=none) e).andThen .now⟩) (PySem.Calls.evalArgs_plain ?_);refine dH sp1 fun us s2 ⟨vs,H2,I2,r2,q2⟩=>⟨I2.bk _ _ ho,?_⟩
 match vs,us,r2,q2 with
 | [],_,_,q2=>exact q2.elim
 |_::_::_,_,_,q2=>exact q2.elim
 | [v],_,.cons r .nil,q2=>
 refine wpAny_call (codeAny_mono (run X.A X.stack s2 H2 _ v Q E hr I2.env0 r q2) fun rr s' hq=>?_);cases rr with
 |error e=>exact hx pins σ H2 s2 e s' I2 hq
 |ok fl=>
  cases fl with
  |ret u=>exact I2.after hq
  |next=>exact False.elim hq
  |brk=>exact False.elim hq
  |cont=>exact False.elim hq
section
variable{P:Program}{w:World}{K:PySem.W.Frag}{mg:Str→Option Value}{base:Heap}{N:List Str}{qual:Str}{scope:Scope}{f:Addr}{cd:Value}{A:Around}{outer:List Env}{s:Shared}{H:Hp}{E E':XK}{W:Value→Shared→Prop}
variable{k:Nat}{C fI:Addr}{fd:FuncData}{ps:List Str}{sp:Sp}{x:Str}{p pos cpos:Pos}
theorem Ld(M:Kf K C fI)(F:iT P w K mg base (bI P w) k fI fd ps sp)(hr:cY (k+1) (aL (bI P w) P w K mg base N qual scope f cd A outer s H E).A)(hb:Binds K fd ps [])(hg:Gl (aL (bI P w) P w K mg base N qual scope f cd A outer s H E) x)(hm:mg x=some (.ref C))(afU:∀pins σ H2 s2 a dx,Inv (aL (bI P w) P w K mg base N qual scope f cd A outer s H E) pins σ H2 s2→H2 a=some (.ext (qb C dx a))→E' (.ref C) (some dx) (del H2 a)→W (.ref a) s2)(hdb:(x==("__debug__":Str))=false:=by decide) :
  PS ((aL (bI P w) P w K mg base N qual scope f cd A outer s H E).wish W) (.Raise (some (.Call (.Name x p) [] [] cpos)) none pos) (yN C sp E' uV):=by
 intro pins s1 σ H1 D I h;obtain⟨hz,q⟩:([]:List V).length≤sizeLine∧_:=h;obtain⟨nm,q',N',bs,bm,hd,sn,sub,ab,col,dd,k0,k1,k2,k3,k5,lk,b1,b2,b3,b4⟩:=M.cls;refine sE (yK (C:=C) (nm:=nm) (q:=q') (N:=N') (bs:=bs) (bm:=bm) (hd:=hd) (sn:=sn) (sub:=sub) (ab:=ab) (col:=col) (dd:=dd) (k0:=k0) (k1:=k1) (k2:=k2) (k3:=k3) (k5:=k5) (nw:="Exception.__new__") b4 hr.hd ?_);refine wpAny_bind (wpAny_mono (Q:=EP ((aL (bI P w) P w K mg base N qual scope f cd A outer s H E).wish W) pins σ fun v H2=>∃a dx,v=.ref a∧H2 a=some (.ext (qb C dx a))∧E' (.ref C) (some dx) (del H2 a)) ?_ (fun v s2 h2=>wpAny_bind (wpAny_standAt (wpAny_pure ?_))) fun _ _ z=>z)
 ·refine wpAny_Call_Name_kw (jT I hg hm ?_ hdb);exact callWith_K0 I.rQ M.kp (Dw (X:=(aL (bI P w) P w K mg base N qual scope f cd A outer s H E).wish W) (us:=[]) M F hr hb aF I .nil (zero_le _) fun a hn=>q a hn)
 obtain⟨vv,H2,I2,rv,a,dx,rfl,ha,hE⟩:=h2;obtain rfl:v=Value.ref a:=rv;obtain⟨⟨T,hx⟩,_,_⟩:=I2.hok a _ ha;exact⟨a,T,some dx,#[],rfl,I2.rQ _ _ lk,hx,afU _ _ _ _ _ _ I2.jH ha hE⟩
end
end Xc
namespace Pg
open PySem PySem.Spec PyProof.Rows L2 Xc Sp
structure aaQ(K:PySem.W.Frag)(cs:Cs):Prop where
 cc:zQ K cs.ref
 adl:PySem.W.subIn K (.ref cs.pO) (.ref cs.ref)=some true
 afV:PySem.W.subIn K (.ref cs.pP) (.ref cs.ref)=some true
 afW:PySem.W.subIn K (.ref cs.cst) (.ref cs.ref)=some true
 adn:Bt K cs.pO
 afX:Bt K cs.pP
 afY:Bt K cs.cst
section
variable{P:Program}{w:World}{K:PySem.W.Frag}{mg:Str→Option Value}{base:Heap}{cs:Cs}
theorem nR{R C:Addr}{n:Int}{Q:VK}(hs:PySem.W.subIn K (.ref C) (.ref R)=some true)(g:Bt K C)(nn:PySem.W.findIn K (.ref C) "number"=some none)(h:∀l H',H' l=some (.lst [.int n])→Q (.ref l) H'):zB (qy K R Q) C n:=fun dx H' hd=>
 ⟨C,dx,T8 n,n,rfl,rfl,hs,g,nn,hd,rfl,fun p _ a _=>h p _ ao⟩
theorem nT{C:Addr}{n:Int}{E:XK}{D:Ends}{σ:L2.St}(h:zB E C n)(H1:Hp):yN C (oZ K C n) E uV D σ H1:=
 ⟨zero_le _,fun x hx=>⟨x,rfl,ao,fun dy H' h1 h2 h3 h4=>⟨rfl,x,dy,rfl,h1,by
  have hdx:dy≠x:=fun z=>by rw[z,ao]at h3;cases h3
  exact h dy _ (by rw[fP hdx];exact h2)⟩⟩⟩
theorem okW{x qual:Str}{st:Stmt}{f:Addr}{fd:FuncData}{N ps:List Str}{k:Nat}{sp:Sp}(F:Ka K x qual st f fd)(S:aH N ps (au st))(len:∀vs H Q E,sp vs H Q E→vs.length=ps.length)(hbody:∀(cdv:Value)(A:Around)(outer:List Env)(s:Shared)(H:Hp)(vs:List V)(Q:VK)(E:XK),cY k (A.deeper (envOfC qual (au st) s.heap.objs.size f cdv))→sp vs H Q E→∀s1,Inv (aL (bI P w) P w K mg base N qual (au st) f cdv A outer s H E) [] (start N vs) H s1 →
   wpAny (model P w) (aL (bI P w) P w K mg base N qual (au st) f cdv A outer s H E).A (execs (cu st) (aL (bI P w) P w K mg base N qual (au st) f cdv A outer s H E).env) (SP (aL (bI P w) P w K mg base N qual (au st) f cdv A outer s H E) [] { nx:=fun _ H'=>Q .non H',rt:=Q })
    (aL (bI P w) P w K mg base N qual (au st) f cdv A outer s H E).xe s1):iT P w K mg base (bI P w) (k+1) f fd ps sp:=by
 obtain⟨oc,od,kV,doc,pm,an,cdv,ct,osl,rfl,lk,hcd⟩:=F.ex;refine⟨len,fun A outer s H args us vs Q E hr e0 hb r hsp=>?_⟩;have hl:=len _ _ _ _ hsp;have KX:K.In s.heap:=e0.mod.Wo.keeps fun b o e=>(e0.bs b o e).1;have lim:s.heap.NoLimit:=e0.mod.nolimit.keeps fun b o e=>(e0.bs b o e).1;have hkind:∀y∈ps.zip us,(au st).names.lookup y.1=some .local∨((au st).names.lookup y.1=some .cell∧((cellsFrom (s.heap.objs.size+1) (au st).names []).lookup y.1).isSome=true):=fun ⟨n,v⟩ hy=>by
  rcases S.par n (of_mem_zip hy).1 with q|q
  ·exact .inl q
  ·exact .inr ⟨q,cellsFrom_some _ _ _ (.inl q)⟩
 refine codeAny_call_function hr.depth (KX _ _ lk) rfl S.co S.gen rfl (codeRec_of KX hcd) (hb _ _ _ _ ?_);refine wpAny_newFunctionEnv_cells S.kind hkind fun env he s1 x=>?_;subst he;refine⟨lim.keeps x.toInCall.keep,codeAny_func ?_⟩;have I:Inv (aL (bI P w) P w K mg base N qual (au st) f cdv A outer s H E) [] (start N vs) H s1:=BZ S hr.hd e0 hl r x;refine wpAny_mono (hbody cdv A outer s H vs Q E (hr.deeper _) hsp s1 I) (fun fl s' hs=>?_) fun e s' hs=>hs;have fin:∀{σ':L2.St}{H':Hp}{v:V}{u:Value},Inv (aL (bI P w) P w K mg base N qual (au st) f cdv A outer s H E) [] σ' H' s'→RelV v u→Q v H'→CE outer P w H s Q u s':=
  fun {σ' H' v u} J rv q=>⟨v,H',J.os,J.bare,J.base,J.hok,rv,q⟩
 cases fl with
 |ret u=>
  obtain⟨v,σ',H',J,rv,q⟩:=hs;exact fin J rv q
 |next=>
  obtain⟨σ',H',J,q⟩:=hs;exact fin (v:=V.non) (u:=Value.none) J rfl q
 |brk=>
  obtain⟨_,_,_,q⟩:=hs;exact False.elim q
 |cont=>
  obtain⟨_,_,_,q⟩:=hs;exact False.elim q
def zW(P:Program)(w:World)(K:PySem.W.Frag)(mg:Str→Option Value)(cs:Cs)(j:Nat)(base:Heap):Sp:=fun vs H Q _=>∃(ir:Bool)(la f:Addr)(sp:Sp)(bs:List Nat),vs=[.bl ir,.ref la,.ref f]∧wC P w K mg base j f sp∧bJ K H la (nV bs)∧(∀b∈bs,b<256)∧bs.length≤9000 ∧
 (ir=false→∀l H',H' l=some (.lst [.int (-2)])→Q (.ref l) H')∧(ir=true→∀v,Rb35.taken bs=.bad v→∀l H',H' l=some (.lst [.int v])→Q (.ref l) H') ∧
 (ir=true→∀(G:Rb35.Prog)(b:Addr)(A:d8)(B:Bk)(H':Hp),Rb35.taken bs=.good G→aV cs H' b A G.p B→B.Ok→Sz B→G.people=B.people→G.lets=B.known.lets→Rb35.small G=true→Same H H'→sp [.ref b] H' Q (qy K cs.ref Q))
theorem qz:aH ["in_range","text","ask","refusal"] ["in_range","text","ask"] (au bF):=⟨rfl,rfl,rfl,by decide +kernel,rfl,by decide +kernel,by decide +kernel⟩
theorem Ja{f:Addr}{fd:FuncData}{j:Nat}(hj:10≤j)(F:Ka K "answered" "answered" bF f fd)(hR:mg "Refusal"=some (.ref cs.ref))(X:wz K mg cs)(ct:aaQ K cs)(BO:aX P w K mg base 10 "book_of" ["text"] (zP K cs)) :
  iT P w K mg base (bI P w) (j+1) f fd ["in_range","text","ask"] (zW P w K mg cs j base):=by
 refine okW F qz (fun vs H Q E h=>?_) (fun cdv A outer s H vs Q E hr h s1 I=>?_)
 ·obtain⟨ir,la,f,sp,bs,rfl,_⟩:=h;rfl
 ·obtain⟨ir,la,g,sp,bs,rfl,AO,hla,hbs,hlb,kno,ado,adp⟩:=h;obtain⟨fC,fdC,QB,MC,bC,GC⟩:=(mW (P:=P) (w:=w) (base:=base) X).ex;have Zb:Passes (bI P w) ((aL (bI P w) P w K mg base ["in_range","text","ask","refusal"] "answered" (au bF) f cdv A outer s H E).wish
    (fun e s1=>wpAny (model P w) (aL (bI P w) P w K mg base ["in_range","text","ask","refusal"] "answered" (au bF) f cdv A outer s H E).A (noteFrame e (aL (bI P w) P w K mg base ["in_range","text","ask","refusal"] "answered" (au bF) f cdv A outer s H E).env)
     (fun _ s2=>wpAny (model P w) (aL (bI P w) P w K mg base ["in_range","text","ask","refusal"] "answered" (au bF) f cdv A outer s H E).A (setFlight e none)
      (fun _ s3=>wpAny (model P w) (aL (bI P w) P w K mg base ["in_range","text","ask","refusal"] "answered" (au bF) f cdv A outer s H E).A (handleBy e (aL (bI P w) P w K mg base ["in_range","text","ask","refusal"] "answered" (au bF) f cdv A outer s H E).env
       (match cu bF with | [.Try _ hs _ _ _]=>hs|_=>[]))
       (SP (aL (bI P w) P w K mg base ["in_range","text","ask","refusal"] "answered" (au bF) f cdv A outer s H E) [] { nx:=fun _ H'=>Q .non H',rt:=Q }) (aL (bI P w) P w K mg base ["in_range","text","ask","refusal"] "answered" (au bF) f cdv A outer s H E).xe s3) (aL (bI P w) P w K mg base ["in_range","text","ask","refusal"] "answered" (au bF) f cdv A outer s H E).xe s2) (aL (bI P w) P w K mg base ["in_range","text","ask","refusal"] "answered" (au bF) f cdv A outer s H E).xe s1)) (qy K cs.ref Q):=by
   intro pins σ H1 s1 e s' I1 hF;obtain⟨a,B',C,dx,a0,H',rfl,Fl⟩:=id hF;exact K9 (Q:=Q) (D:={ nx:=fun _ H'=>Q .non H',rt:=Q }) (i:=3) ((I1.jH).wZ (Fq:=[]) (fun p hp=>by simp at hp)) ct.cc hR hF rfl rfl qz.nd rfl rfl
  refine wpAny_execs_cons (dH (Q:=SP (aL (bI P w) P w K mg base ["in_range","text","ask","refusal"] "answered" (au bF) f cdv A outer s H E) [] { nx:=fun _ H'=>Q .non H',rt:=Q }) (wpAny_Try_except ?_) fun fl s2 q=>?_)
  ·have body:JH ((aL (bI P w) P w K mg base ["in_range","text","ask","refusal"] "answered" (au bF) f cdv A outer s H E).wish _) (match cu bF with | [.Try b _ _ _ _]=>b|_=>[]) _:=
    aq (dW (JM (mL (pv 0))) (aC (Ld (E':=qy K cs.ref Q) MC (GC.mono (le_trans (by decide:2≤9) (Nat.sub_le_sub_right hj 1))) (by rw[Nat.sub_add_cancel (le_trans (by decide) hj)];exact hr) bC rfl QB fun Fq σ' H2 s2 a dx I2 ha hE=>Iw (D:={ nx:=fun _ H'=>Q .non H',rt:=Q }) (i:=3) I2 ct.cc hR ha hE rfl rfl qz.nd rfl rfl)) bW) (aC (aZ (aaP (j:=2) rfl (Or.inl rfl) hr AO Zb (bN (BO.mono hj) hr rfl Zb (ak (pv 1) aA)))))
   refine wpAny_mono (body [] s1 _ H { nx:=fun _ _=>False,rt:=Q } (I.wish _) ?_) (fun fl s2 q=>?_) fun e s2 q=>q
   ·refine⟨_,rfl,ir,rfl,?_⟩;cases ir with
    |false=>exact Gx (nT (nR ct.adl ct.adn X.aaj (kno rfl)) _)
    |true=>
     refine Gw ⟨rfl,_,rfl,la,bs,rfl,hla,hbs,hlb,fun G b Ab B H' e1 e2 e3 e4 e5 e6 e7 e8=>?_,fun v hv=>?_⟩
     ·exact adp rfl G b Ab B H' e1 e2 e3 e4 e5 e6 e7 e8
     ·exact⟨nR ct.afW ct.afY X.acK (ado rfl v hv),nR ct.afV ct.afX X.acJ (ado rfl v hv)⟩
   ·replace q:=q.jH;cases fl with
    |next=>obtain⟨_,_,_,z⟩:=q;exact z.elim
    |brk=>obtain⟨_,_,_,z⟩:=q;exact z.elim
    |cont=>obtain⟨_,_,_,z⟩:=q;exact z.elim
    |ret u=>exact q
  ·cases fl with
   |next=>exact wpAny_execs_nil q
   |ret v=>exact q
   |brk=>exact q
   |cont=>exact q
end
end Pg
namespace Pg
open PySem L2 Xc Sp Rb35
def Vm(cs:Cs):Sp:=fun vs H Q E=>∃(b:Addr)(A:d8)(p:Nat)(B:Bk)(i:Int),vs=[.ref b,.int i]∧aV cs H b A p B ∧
 (∀k:Nat,0≤i→(B.ls.map (·.2))[i.toNat]?=some k→Q (.int (k:Int)) H)∧(¬(0≤i∧i.toNat<B.ls.length)→zB E cs.pO (-2))
section
variable{P:Program}{w:World}{K:PySem.W.Frag}{mg:Str→Option Value}{base:Heap}{cs:Cs}
theorem Yh:aH ["book","form"] ["book","form"] (au jo):=⟨rfl,rfl,rfl,by decide +kernel,rfl,by decide +kernel,by decide +kernel⟩
theorem Yi(T:bL K mg "formula_of" jo)(gR:Cls K cs.boo)(naB:cG K cs.boo ["prime","people","nodes","lets","names"])(hlen:mg "len"=none)(OR:uy P w K mg base 2 "OutOfRange" cs.pO ["self"] (oZ K cs.pO (-2))) :
  aX P w K mg base 4 "formula_of" ["book","form"] (Vm cs):=by
 obtain⟨f,fd,F,hm⟩:=T.ex;obtain⟨fC,fdC,QB,MC,bC,GC⟩:=OR.ex;refine⟨f,fd,hm,F.kp,F.binds (fun _ _ _ _ _ _ us hl=>match us,hl with | [_,_],_=>rfl),Fg F Yh (fun vs H Q E h=>?_) (fun cdv A outer s H vs Q E hr h=>?_)⟩
 ·obtain⟨b,A,p,B,i,rfl,_⟩:=h;rfl
 ·obtain⟨b,Ad,p,B,i,rfl,R,kq,kx⟩:=h;obtain⟨dx,ob⟩:=R.ob;refine⟨_,aq (dW (Fv (aU Bv (pv 1) aR (bf _)) (xX (aU Fz (pv 1) (aQ aO (by rfl) hlen PySem.boot_len (ak (aM (pv 0) rfl) aA)) (bf _)))).pt (aC (kh MC GC hr bC rfl QB)) bW)
   (aC (aZ (fK dR (aM (pv 0) rfl) (pv 1) (fun _ _=>rfl)))),?_⟩
  refine⟨_,rfl,_,_,rfl,rfl,_,rfl,bY (fun hc=>?_) fun hc=>?_⟩
  ·have h1:=of_decide_eq_true hc;refine Gx (nT (kx fun z=>?_) _);omega
  have h1:¬i<0:=fun z=>hc (decide_eq_true z);refine⟨_,rfl,_,rfl,b,cs.boo,dx,_,_,rfl,ob,gR,naB _ (by simp),qm _ _ _ _ _,_,_,rfl,.inl (bJ.of R.lets),_,_,rfl,rfl,_,rfl,bY (fun hc=>?_) fun hc=>?_⟩
  ·have h2:=of_decide_eq_true hc;rw[aK,length_map]at h2;exact nT (kx fun z=>by omega) _
  have h2:¬((nV (B.ls.map (·.2))).length:Int)≤i:=fun z=>hc (decide_eq_true z);rw[aK,length_map]at h2;have hi:i.toNat<(B.ls.map (·.2)).length:=by rw[length_map];omega
  have hk:=getElem?_eq_getElem hi;refine⟨_,rfl,b,cs.boo,dx,_,_,rfl,ob,gR,naB _ (by simp),qm _ _ _ _ _,_,rfl,Ad.la,_,_,V.int (((B.ls.map (·.2))[i.toNat]:Nat):Int),rfl,rfl,bJ.of R.lets,at_of (j:=i.toNat) (by omega) ?_,kq _ (by omega) hk⟩;unfold nV;rw[getElem?_map,hk];rfl
end
end Pg
namespace Pg
open PySem PySem.Spec PyProof.Rows L2 Xc Sp
structure Q7(K:PySem.W.Frag)(mg:Str→Option Value)(x qual:Str)(st:Stmt)(tm:Addr):Prop where
 exc:GZ K mg x tm qual st
 nn:PySem.W.findIn K (.ref tm) "number"=some none
 su:∃r,mg "Refusal"=some (.ref r)∧PySem.W.subIn K (.ref tm) (.ref r)=some true
 gx:Bt K tm
theorem Q7.sub{K:PySem.W.Frag}{mg:Str→Option Value}{x qual:Str}{st:Stmt}{tm:Addr}{cs:Cs}(X:Q7 K mg x qual st tm)(T:wz K mg cs):PySem.W.subIn K (.ref tm) (.ref cs.ref)=some true:=by
 obtain⟨r,h1,h2⟩:=X.su;rw[T.mref]at h1;cases h1;exact h2
theorem vL{K:PySem.W.Frag}{H H':Hp}{a:Addr}{xs:List V}(s:Same H H')(h:bJ K H a xs):bJ K H' a xs:=by
 rcases h with (h|⟨o,h⟩)|h
 ·exact .inl (.inl (s _ _ h))
 ·exact .inl (.inr ⟨o,s _ _ h⟩)
 ·exact .inr h
def Ol(K:PySem.W.Frag)(cs:Cs)(tm:Addr):Sp:=fun vs H Q E=>∃(b:Addr)(A:d8)(p:Nat)(B:Bk)(n:Addr)(r:List Nat)(c:Nat),vs=[.ref b,.ref n,.int (c:Int)]∧aV cs H b A p B∧bJ K H n (nV r)∧r.length≤600 ∧
 (Rb35.fits p c r=true→∀H',Same H H'→Q .non H')∧(¬Rb35.fits p c r=true→zB E tm (-3))
def Om(cs:Cs):Sp:=fun vs H Q _=>∃(b:Addr)(A:d8)(p:Nat)(B:Bk)(i:Nat),vs=[.ref b,.int (i:Int)]∧aV cs H b A p B∧Q (.bl (decide (i<B.P))) H
def zX(cs:Cs):Sp:=fun vs H Q _=>∃(b:Addr)(A:d8)(p:Nat)(B:Bk)(j:Nat)(nd:Addr×Addr),vs=[.ref b,.int ((B.P+j:Nat):Int)]∧aV cs H b A p B∧A.oA[j]?=some nd∧Q (.ref nd.1) H
section
variable{P:Program}{w:World}{K:PySem.W.Frag}{mg:Str→Option Value}{base:Heap}{cs:Cs}{tm:Addr}
theorem Vn:aH ["self"] ["self"] (au cQ):=⟨rfl,rfl,rfl,by decide +kernel,rfl,by decide +kernel,by decide +kernel⟩
theorem Vo(T:wz K mg cs)(X:Q7 K mg "WrongNumbers" "WrongNumbers.__init__" cQ tm):uy P w K mg base 2 "WrongNumbers" tm ["self"] (oZ K tm (-3)):=by
 obtain⟨fR,fdR,FR,cm⟩:=T.ref;obtain⟨f,fd,F,M,hm⟩:=X.exc.ex;refine⟨f,fd,hm,M,F.binds (fun _ _ _ _ _ _ us hl=>match us,hl with | [_],_=>rfl),okN F Vn (fun vs H Q E h=>?_) (fun cdv A outer s H vs Q E hr h=>?_)⟩
 ·obtain⟨x,rfl,_⟩:=h;rfl
 ·obtain⟨x,rfl,hx,kq⟩:=h;refine⟨_,aC (aN (oY rfl T.mref cm (o7 FR) hr (jq FR) aF (ak (pv 0) (ak (yc rY aR) aA)))),?_⟩;refine⟨_,rfl,_,rfl,x,tm,-3,rfl,hx,X.exc.cls,X.nn,fun dx H' h1 h2 h3 h4=>kq dx H' h1 h2 h3 h4⟩
theorem zY:aH ["book","numbers","count","number"] ["book","numbers","count"] (au fu):=⟨rfl,rfl,rfl,by decide +kernel,rfl,by decide +kernel,by decide +kernel⟩
theorem Vp(T:bL K mg "keep_numbers" fu)(gR:Cls K cs.boo)(naB:cG K cs.boo ["prime","people","nodes","lets","names"])(hlen:mg "len"=none)(hany:mg "any"=none)(WN:uy P w K mg base 2 "WrongNumbers" tm ["self"] (oZ K tm (-3))) :
  aX P w K mg base 4 "keep_numbers" ["book","numbers","count"] (Ol K cs tm):=by
 obtain⟨f,fd,F,hm⟩:=T.ex;obtain⟨fC,fdC,QB,MC,bC,GC⟩:=WN.ex;refine⟨f,fd,hm,F.kp,F.binds (fun _ _ _ _ _ _ us hl=>match us,hl with | [_,_,_],_=>rfl),Fg F zY (fun vs H Q E h=>?_) (fun cdv A outer s H vs Q E hr h=>?_)⟩
 ·obtain⟨b,A,p,B,n,r,c,rfl,_⟩:=h;rfl
 ·obtain⟨b,Ad,p,B,n,r,c,rfl,R,hn,hz,kq,kx⟩:=h;obtain⟨dx,ob⟩:=R.ob;refine⟨_,aC (dW (Fv (aU yd (aQ aO (by rfl) hlen PySem.boot_len (ak (pv 1) aA)) (pv 2) (bf _)) (xX (mL (aQ (Dq rfl) (by rfl) hany PyProof.Rows.boot_any (ak (lY rfl zY.nd (eG (pv 1)) (cU (own:=[("number",3)]) (by show pN ["book","numbers","count","number"] (au fu) _ [("number",3)]=true;decide +kernel))
    (fun _ _ _ _ _=>bU (i:=3) zY.nd rfl (Or.inl rfl)) (fun _ _ _ _ _=>gb) (fun _ _ _ _ _=>eN Fz (pv 3) (Eh (K:=K) rfl (pv 0)) (bf _))) aA))))).pt (aC (kh MC GC hr bC rfl QB)) bW),?_⟩
  refine⟨_,rfl,_,_,rfl,.inl hn,_,rfl,rfl,_,rfl,bY (fun hc=>?_) fun hc=>?_⟩
  ·refine Gx (nT (kx fun z=>?_) _);rw[aK,iI]at hc;unfold Rb35.fits at z;have h1:=of_decide_eq_true (and_eq_true_iff.mp z).1;simp[h1]at hc
  rw[aK,iI]at hc;have h1:(r.length:Int)=(c:Int):=by simpa using hc
  replace h1:r.length=c:=by omega
  refine⟨_,rfl,n,rfl,⟨_,hn⟩,fun D hD=>?_⟩;have s0:∀xs,Same H (upd H D (.lst xs)):=fun xs c o q=>by rw[aj (aB q hD)];exact q
  refine gZ (xs:=nV r) (fun j H'=>H'=upd H D (.lst (((r.take j).map fun x=>decide (p≤x)).map V.bl))) rfl ?_ ?_ ?_
  ·rintro j H' _ rfl;exact vL (s0 _) hn
  ·rintro j y H' hy rfl;unfold nV at hy;rw[getElem?_map]at hy;cases hk:r[j]? with
   |none=>rw[hk]at hy;cases hy
   |some x=>
    rw[hk]at hy;cases hy;have hj:=(List.getElem?_eq_some_iff.mp hk).1;refine⟨rfl,_,rfl,_,rfl,b,cs.boo,dx,_,_,rfl,s0 _ _ _ ob,gR,naB _ (by simp),vq _ _ _ _ _,_,_,rfl,rfl,_,ao,?_,?_⟩
    ·rw[length_map,length_map,length_take];exact lt_of_le_of_lt (min_le_left _ _) (lt_of_lt_of_le hj (le_trans hz (by decide)))
    ·rw[gM,take_succ,hk];show _=upd H D (.lst (((r.take j++[x]).map _).map V.bl));rw[map_append,map_append];show upd H D (.lst (_++[V.bl (decide ((p:Int)≤(x:Int)))]))=_;congr 4;simp
  ·rintro H' rfl;rw[aK,take_length];refine⟨D,_,rfl,bJ.of ao,_,rfl,bY (fun hc2=>?_) fun hc2=>?_⟩
   ·refine nT (kx fun z=>?_) _;obtain⟨x,hx,hx2⟩:=any_eq_true.mp hc2;obtain⟨y,hy,rfl⟩:=mem_map.mp hx;unfold Rb35.fits at z;have h2:=all_eq_true.mp (and_eq_true_iff.mp z).2 y hy;have h3:p≤y:=of_decide_eq_true hx2;have h4:=of_decide_eq_true h2;omega
   ·refine kq ?_ _ (s0 _);unfold Rb35.fits;rw[decide_eq_true h1,Bool.true_and,all_eq_true];intro y hy;refine decide_eq_true (Nat.lt_of_not_le fun z=>hc2 (any_eq_true.mpr ⟨_,mem_map.mpr ⟨y,hy,rfl⟩,decide_eq_true z⟩))
theorem aaR:aH ["self","formula"] ["self","formula"] (au fM):=⟨rfl,rfl,rfl,by decide +kernel,rfl,by decide +kernel,by decide +kernel⟩
theorem aaS(T:gB K cs.boo "is_person" "Book.is_person" fM)(gR:Cls K cs.boo)(naB:cG K cs.boo ["prime","people","nodes","lets","names"])(hlen:mg "len"=none):bw P w K mg base 1 cs.boo "is_person" ["self","formula"] (Om cs):=by
 obtain⟨f,fd,F,M⟩:=T.ex;refine⟨f,fd,M,F.binds (fun _ _ _ _ _ _ us hl=>match us,hl with | [_,_],_=>rfl),okN F aaR (fun vs H Q E h=>?_) (fun cdv A outer s H vs Q E hr h=>?_)⟩
 ·obtain⟨b,A,p,B,i,rfl,_⟩:=h;rfl
 ·obtain⟨b,Ad,p,B,i,rfl,R,kq⟩:=h;obtain⟨dx,ob⟩:=R.ob;refine⟨_,aC (aZ (eN Bv (pv 1) (aQ aO (by rfl) hlen PySem.boot_len (ak (aM (pv 0) rfl) aA)) (bf _))),?_⟩;refine⟨_,rfl,_,rfl,b,cs.boo,dx,_,_,rfl,ob,gR,naB _ (by simp),fW _ _ _ _ _,_,_,rfl,.inl (bJ.of R.people),_,_,rfl,rfl,?_⟩;rw[length_map];have:decide ((i:Int)<((B.people.length:Nat):Int))=decide (i<B.P):=by
   show _=decide (i<B.people.length);simp
  show Q (.bl (decide ((i:Int)<((B.people.length:Nat):Int)))) H;rw[this];exact kq
theorem Q8:aH ["self","formula"] ["self","formula"] (au gO):=⟨rfl,rfl,rfl,by decide +kernel,rfl,by decide +kernel,by decide +kernel⟩
theorem Q9(T:gB K cs.boo "node_of" "Book.node_of" gO)(gR:Cls K cs.boo)(naB:cG K cs.boo ["prime","people","nodes","lets","names"])(hlen:mg "len"=none):bw P w K mg base 1 cs.boo "node_of" ["self","formula"] (zX cs):=by
 obtain⟨f,fd,F,M⟩:=T.ex;refine⟨f,fd,M,F.binds (fun _ _ _ _ _ _ us hl=>match us,hl with | [_,_],_=>rfl),okN F Q8 (fun vs H Q E h=>?_) (fun cdv A outer s H vs Q E hr h=>?_)⟩
 ·obtain⟨b,A,p,B,j,nd,rfl,_⟩:=h;rfl
 ·obtain⟨b,Ad,p,B,j,nd,rfl,R,hj,kq⟩:=h;obtain⟨dx,ob⟩:=R.ob;refine⟨_,aC (aZ (fK dR (aM (pv 0) rfl) (fj rW (pv 1) (aQ aO (by rfl) hlen PySem.boot_len (ak (aM (pv 0) rfl) aA))) (fun _ _=>rfl))),?_⟩;refine⟨_,rfl,b,cs.boo,dx,_,_,rfl,ob,gR,naB _ (by simp),nJ _ _ _ _ _,_,rfl,_,rfl,b,cs.boo,dx,_,_,rfl,ob,gR,naB _ (by simp),fW _ _ _ _ _,_,_,rfl,.inl (bJ.of R.people),_,_,rfl,rfl,Ad.na,_,_,V.ref nd.1,rfl,rfl,bJ.of R.nodes,at_of (j:=j) ?_ (by rw[getElem?_map,hj];rfl),kq⟩;show ((B.P+j:Nat):Int)-(((B.people.map fun x=>V.str (bT x)).length:Nat):Int)=_;rw[length_map];have:B.P=B.people.length:=rfl;omega
end
end Pg
namespace Sp
open Rb35
theorem Jb{t:Toks}{x:Nat×Toks}(h:field t=.ok x):x.1≤251∧prime x.1=true:=by
 unfold field at h;split at h
 ·cases h
 ·split at h
  ·rename_i p k r _;split at h
   ·rename_i hc;cases e:take_ 59 r with
    |error k=>rw[e]at h;cases h
    |ok u=>
     rw[e]at h;cases h;rw[and_eq_true,decide_eq_true_iff]at hc;exact hc
   ·cases h
  ·cases h
theorem Jc{bs:List Nat}{G:Prog}(h:taken bs=.good G):G.p≤251∧prime G.p=true:=by
 unfold taken at h;cases q:program (toks bs) with
 |error k=>rw[q]at h;cases h
 |ok P=>
  rw[q]at h;dsimp only at h;split at h
  ·cases h;unfold program at q;cases f:field (toks bs) with
   |error k=>rw[f]at q;cases q
   |ok x=>
    have hx:=Jb f;rw[f]at q;simp only[Except.bind]at q;split at q
    ·cases q
    ·cases e1:people (x.2.length+1) ⟨[],[]⟩ (x.2.drop 1) with
     |error k=>rw[e1]at q;cases q
     |ok y=>
      rw[e1]at q;dsimp only at q;cases e2:take_ 59 y.2 with
      |error k=>rw[e2]at q;cases q
      |ok r=>
       rw[e2]at q;dsimp only at q;cases e3:lets (r.length+1) y.1 r with
       |error k=>rw[e3]at q;cases q
       |ok e=>
        rw[e3]at q;cases q;exact hx
  ·cases h
theorem cM{p:Nat}(h:prime p=true):2≤p:=by
 unfold prime at h;rw[and_eq_true,decide_eq_true_iff]at h;exact h.1
def ev(cs:List Int)(x:Int):Int:=cs.foldr (fun c v=>c+x*v) 0
theorem zZ(x:Int):ev [] x=0:=rfl
theorem iJ(c:Int)(cs:List Int)(x:Int):ev (c::cs) x=c+x*ev cs x:=rfl
def vM:List Int→List Int→List Int
 | [],ds=>ds
 |c::cs,[]=>c::cs
 |c::cs,d::ds=>(c+d)::vM cs ds
theorem qY:∀(cs ds:List Int)(x:Int),ev (vM cs ds) x=ev cs x+ev ds x
 | [],ds,x=>by rw[vM,zZ,Int.zero_add]
 |c::cs,[],x=>by rw[vM,zZ,Int.add_zero]
 |c::cs,d::ds,x=>by
  rw[vM,iJ,iJ,iJ,qY cs ds,mul_add];omega
theorem qC:∀(cs ds:List Int),(vM cs ds).length=max cs.length ds.length
 | [],ds=>by simp[vM]
 |c::cs,[]=>by simp[vM]
 |c::cs,d::ds=>by
  rw[vM,length_cons,qC cs ds,length_cons,length_cons];omega
def mulC(a:Int)(cs:List Int):List Int:=cs.map fun c=>a*c
theorem qZ(a:Int):∀(cs:List Int)(x:Int),ev (mulC a cs) x=a*ev cs x
 | [],x=>by rw[mulC,map_nil,zZ,mul_zero]
 |c::cs,x=>by
  have h:=qZ a cs x;unfold mulC at h ⊢;rw[map_cons,iJ,iJ,h,mul_add];congr 1;rw[←mul_assoc,←mul_assoc,Int.mul_comm x a]
def Le(a:Int)(cs:List Int):List Int:=vM (0::cs) (mulC (-a) cs)
theorem Yj(a:Int)(cs:List Int)(x:Int):ev (Le a cs) x=(x-a)*ev cs x:=by
 unfold Le;rw[qY,iJ,qZ,sub_mul,neg_mul];omega
theorem Vq(a:Int)(cs:List Int):(Le a cs).length=cs.length+1:=by
 unfold Le mulC;rw[qC,length_map,length_cons];omega
def quo(a:Int):List Int→List Int
 | []=>[]
 |_::cs=>vM cs (mulC a (quo a cs))
theorem Oo(a:Int):∀cs:List Int,(quo a cs).length=cs.length-1
 | []=>rfl
 |c::cs=>by
  rw[quo,qC];unfold mulC;rw[length_map,Oo a cs,length_cons];omega
theorem Lf(a x:Int):∀cs:List Int,ev cs x-ev cs a=(x-a)*ev (quo a cs) x
 | []=>by rw[quo,zZ,zZ,mul_zero];rfl
 |c::cs=>by
  have h:=Lf a x cs;rw[quo,iJ,iJ,qY,qZ,mul_add,←mul_assoc,Int.mul_comm (x-a) a,mul_assoc,←h,Int.mul_sub,sub_mul];omega
theorem Jd{p d:Nat}(h:prime p=true)(h2:2≤d)(hd:d<p):p%d≠0:=by
 unfold prime at h;rw[and_eq_true,all_eq_true]at h;have:=h.2 d (mem_range.mpr hd);rw[Bool.or_eq_true,decide_eq_true_iff]at this;rcases this with z|z
 ·omega
 ·simpa using z
theorem Ra{p a:Nat}(h:prime p=true)(ha:¬p∣a):Nat.Coprime p a:=by
 have h2:=cM h;have g1:Nat.gcd p a∣p:=Nat.gcd_dvd_left p a;have gp:Nat.gcd p a≠0:=fun z=>by
  have:=Nat.eq_zero_of_gcd_eq_zero_left z;omega
 have gl:Nat.gcd p a≤p:=le_of_dvd (by omega) g1;by_cases g2:Nat.gcd p a=p
 ·exact absurd (by rw[←g2];exact Nat.gcd_dvd_right p a) ha
 ·by_cases g3:Nat.gcd p a=1
  ·exact g3
  ·exact absurd (Nat.mod_eq_zero_of_dvd g1) (Jd h (by omega) (by omega))
theorem vN{p:Nat}(h:prime p=true){a b:Int}(hab:(p:Int)∣a*b):(p:Int)∣a∨(p:Int)∣b:=by
 have h1:p∣a.natAbs*b.natAbs:=by
  have:=Int.natAbs_dvd_natAbs.mpr hab
  rwa[Int.natAbs_mul,Int.natAbs_natCast]at this
 by_cases ha:p∣a.natAbs
 ·exact .inl (Int.ofNat_dvd_left.mpr ha)
 ·exact .inr (Int.ofNat_dvd_left.mpr ((Ra h ha).dvd_of_dvd_mul_left h1))
theorem Yk{p:Nat}(h:prime p=true):∀a:Nat,0<a→a<p→∃b:Int,(p:Int)∣(a:Int)*b-1:=by
 intro a
 induction a using Nat.strongRecOn with
 |_ a ih=>
  intro h0 hp;by_cases h1:a=1
  ·subst h1;exact⟨1,⟨0,by simp⟩⟩
  ·have hr:p%a≠0:=Jd h (by omega) hp;obtain⟨b,k,hk⟩:=ih (p%a) (mod_lt _ h0) (by omega) (lt_trans (mod_lt _ h0) hp);have hd:((p:Nat):Int)=(a:Int)*((p / a:Nat):Int)+((p%a:Nat):Int):=by
    have:=Nat.div_add_mod p a;rw[←Int.natCast_mul,←natCast_add,this]
   refine⟨-(((p / a:Nat):Int)*b),-b+k,?_⟩;have e1:(a:Int)*-(((p / a:Nat):Int)*b)=-(((p:Nat):Int)-((p%a:Nat):Int))*b:=by
    have:((p:Nat):Int)-((p%a:Nat):Int)=(a:Int)*((p / a:Nat):Int):=by omega
    rw[this,Int.mul_neg,neg_mul,mul_assoc]
   rw[e1,neg_mul,sub_mul,mul_add,Int.mul_neg];omega
theorem En{p:Nat}(h:prime p=true){n:Int}(hn:¬(p:Int)∣n):∃f:Nat,1≤f∧f<p∧(n*(f:Int))%(p:Int)=1:=by
 have h2:=cM h;have hp:(0:Int)<(p:Int):=by omega
 have m0:=emod_nonneg n (by omega:(p:Int)≠0);have m1:=emod_lt_of_pos n hp;have mz:n%(p:Int)≠0:=fun z=>hn (Int.dvd_of_emod_eq_zero z);obtain⟨b,k,hk⟩:=Yk h (n%(p:Int)).toNat (by omega) (by omega);rw[Int.toNat_of_nonneg m0]at hk;have b0:=emod_nonneg b (by omega:(p:Int)≠0);have b1:=emod_lt_of_pos b hp;have key:(n*(b%(p:Int)))%(p:Int)=1:=by
  have e:(n*(b%(p:Int)))%(p:Int)=((n%(p:Int))*b)%(p:Int):=by
   rw[mul_emod n (b%(p:Int)),mul_emod (n%(p:Int)) b,emod_emod,emod_emod]
  have e2:(n%(p:Int))*b=1+(p:Int)*k:=by omega
  rw[e,e2,Int.add_mul_emod_self_left,Int.emod_eq_of_lt (by omega) (by omega)]
 refine⟨(b%(p:Int)).toNat,?_,by omega,by rw[Int.toNat_of_nonneg b0];exact key⟩;by_cases z:b%(p:Int)=0
 ·rw[z,mul_zero]at key;simp at key
 ·omega
theorem roots{p:Nat}(h:prime p=true):∀(k:Nat)(cs:List Int)(xs:List Int),cs.length≤k→xs.length=k→xs.Pairwise (fun a b=>¬(p:Int)∣b-a)→(∀a∈xs,(p:Int)∣ev cs a)→∀x,(p:Int)∣ev cs x
 | 0,cs,xs,hl,_,_,_,x=>by
  match cs,hl with
  | [],_=>exact⟨0,by simp[ev]⟩
 |k+1,cs,[],_,hx,_,_,x=>by simp at hx
 |k+1,cs,a::xs,hl,hx,hd,hr,x=>by
  rw[List.pairwise_cons]at hd;have ha:=hr a (by simp);have hq:=roots h k (quo a cs) xs (by rw[Oo];omega) (by simpa using hx) hd.2 fun b hb=>by
   have hb':=hr b (by simp[hb]);have:(p:Int)∣(b-a)*ev (quo a cs) b:=by rw[←Lf];exact Int.dvd_sub hb' ha
   exact(vN h this).resolve_left (hd.1 b hb)
  have h1:(p:Int)∣ev cs x-ev cs a:=by rw[Lf];exact Int.dvd_mul_of_dvd_right (hq x)
  have h2:=Int.dvd_add h1 ha
  rwa[Int.sub_add_cancel]at h2
theorem nU{p:Nat}(hp:0<p)(x:Nat):∀cs:List Nat,((worth p cs x:Nat):Int)=ev (cs.map fun (c:Nat)=>(c:Int)) (x:Int)%(p:Int)
 | []=>by show ((0:Nat):Int)=(0:Int)%_;simp
 |c::cs=>by
  have ih:=nU hp x cs;show (((c+x*worth p cs x)%p:Nat):Int)=_;rw[map_cons,iJ,Int.natCast_emod,natCast_add,Int.natCast_mul,ih];rw[add_emod (c:Int) ((x:Int)*(_%_)),mul_emod (x:Int) (_%_),emod_emod,←mul_emod,←add_emod]
def low(p:Nat)(cs:List Int):List Nat:=cs.map fun c=>(c%(p:Int)).toNat
theorem aaT{p:Nat}(hp:0<p)(cs:List Int):∀c∈low p cs,c<p:=fun c hc=>by
 obtain⟨d,_,rfl⟩:=mem_map.mp hc;have:=emod_nonneg d (by omega:(p:Int)≠0);have:=emod_lt_of_pos d (by omega:(0:Int)<(p:Int));omega
theorem Yl(p:Nat)(cs:List Int):(low p cs).length=cs.length:=length_map _
theorem Vr{p:Nat}(hp:0<p)(x:Int):∀cs:List Int,ev ((low p cs).map fun (c:Nat)=>(c:Int)) x%(p:Int)=ev cs x%(p:Int)
 | []=>rfl
 |c::cs=>by
  have ih:=Vr hp x cs;show ev (((c%(p:Int)).toNat:Int)::(low p cs).map fun (c:Nat)=>(c:Int)) x%_=_;rw[iJ,iJ,Int.toNat_of_nonneg (emod_nonneg c (by omega)),add_emod,mul_emod,ih,←mul_emod,emod_emod,←add_emod]
theorem Rc{p:Nat}(hp:0<p)(x:Nat)(cs:List Int):((worth p (low p cs) x:Nat):Int)=ev cs (x:Int)%(p:Int):=by rw[nU hp,Vr hp]
theorem wF{p:Nat}(hp:0<p){a b:Int}(h:a%(p:Int)=b%(p:Int)):(p:Int)∣a-b:=Int.dvd_of_emod_eq_zero (by rw[Int.sub_emod,h,Int.sub_self,Int.zero_emod])
theorem Je{p:Nat}{a b:Int}(h:(p:Int)∣a-b):a%(p:Int)=b%(p:Int):=by
 obtain⟨k,hk⟩:=h;have:a=b+(p:Int)*k:=by omega
 rw[this,Int.add_mul_emod_self_left]
theorem Eo{p:Nat}(h:prime p=true){cs ds:List Nat}{xs:List Nat}{k:Nat}(hc:cs.length≤k)(hd:ds.length≤k)(hk:xs.length=k)(hx:xs.Pairwise (fun (a b:Nat)=>¬(p:Int)∣(b:Int)-(a:Int)))(he:∀x∈xs,worth p cs x=worth p ds x)(x:Nat):worth p cs x=worth p ds x:=by
 have hp:0<p:=by have:=cM h;omega
 have hr:=roots h k (vM (cs.map fun (c:Nat)=>(c:Int)) (mulC (-1) (ds.map fun (c:Nat)=>(c:Int)))) (xs.map fun (x:Nat)=>(x:Int)) (by
  rw[qC];unfold mulC;rw[length_map,length_map,length_map];omega) (by rw[length_map];exact hk) (by rw[pairwise_map];exact hx) (fun a ha=>by
  obtain⟨y,hy,rfl⟩:=mem_map.mp ha;have e:((worth p cs y:Nat):Int)=((worth p ds y:Nat):Int):=by rw[he y hy]
  rw[nU hp,nU hp]at e;rw[qY,qZ];have:=wF hp e;have e2:ev (cs.map fun (c:Nat)=>(c:Int)) (y:Int)+-1*ev (ds.map fun (c:Nat)=>(c:Int)) (y:Int)=ev (cs.map fun (c:Nat)=>(c:Int)) (y:Int)-ev (ds.map fun (c:Nat)=>(c:Int)) (y:Int):=by omega
  rw[e2];exact this) (x:Int)
 rw[qY,qZ]at hr;have e2:ev (cs.map fun (c:Nat)=>(c:Int)) (x:Int)+-1*ev (ds.map fun (c:Nat)=>(c:Int)) (x:Int)=ev (cs.map fun (c:Nat)=>(c:Int)) (x:Int)-ev (ds.map fun (c:Nat)=>(c:Int)) (x:Int):=by omega
 rw[e2]at hr;have e3:=Je hr;rw[←nU hp,←nU hp]at e3;exact Int.ofNat.inj e3
def dB(l:List Int):Int:=l.foldr (fun a b=>a*b) 1
theorem Lg(l:List Int)(a:Int):dB (l++[a])=dB l*a:=by
 induction l with
 |nil=>show a*1=1*a;omega
 |cons b l ih=>
  show b*dB (l++[a])=b*dB l*a;rw[ih,mul_assoc]
theorem z6:∀{l:List Int},(0:Int)∈l→dB l=0
 |a::l,h=>by
  show a*dB l=0;rcases mem_cons.mp h with h|h
  ·rw[←h,Int.zero_mul]
  ·rw[z6 h,mul_zero]
theorem CJ{p:Nat}(h:prime p=true):∀{l:List Int},(∀a∈l,¬(p:Int)∣a)→¬(p:Int)∣dB l
 | [],_=>fun z=>by
  have h2:=cM h;have:=Int.le_of_dvd (by decide) z;have:(p:Int)≤1:=this;omega
 |a::l,ha=>fun z=>by
  rcases vN h (show (p:Int)∣a*dB l from z) with y|y
  ·exact ha a (by simp) y
  ·exact CJ h (fun b hb=>ha b (by simp[hb])) y
def Jf(l:List Int):List Int:=l.foldr Le [1]
theorem Jg(x:Int):∀l:List Int,ev (Jf l) x=dB (l.map fun a=>x-a)
 | []=>by show 1+x*0=1;omega
 |a::l=>by
  show ev (Le a (Jf l)) x=(x-a)*_;rw[Yj,Jg x l];rfl
theorem CK:∀l:List Int,(Jf l).length=l.length+1
 | []=>rfl
 |a::l=>by
  show (Le a (Jf l)).length=_;rw[Vq,CK l];rfl
def wU(p:Nat)(n:Int):Nat:=((List.range p).find? fun (f:Nat)=>(n*(f:Int))%(p:Int)==1).getD 1
theorem inv_one{p:Nat}(h:prime p=true){n:Int}{f g:Nat}(hf:f<p)(hg:g<p)(e1:(n*(f:Int))%(p:Int)=1)(e2:(n*(g:Int))%(p:Int)=1):f=g:=by
 have hp:0<p:=by have:=cM h;omega
 have hd:(p:Int)∣n*((f:Int)-(g:Int)):=by
  rw[Int.mul_sub];exact wF hp (e1.trans e2.symm)
 rcases vN h hd with z|z
 ·have:(n*(f:Int))%(p:Int)=0:=Int.emod_eq_zero_of_dvd (Int.dvd_mul_of_dvd_left z);omega
 ·obtain⟨k,hk⟩:=z;by_cases k0:f=g
  ·exact k0
  ·have:(p:Int)≤((f:Int)-(g:Int)).natAbs:=by
    have:=le_of_dvd (by omega:0<((f:Int)-(g:Int)).natAbs) (Int.natAbs_dvd_natAbs.mpr ⟨k,hk⟩);rw[Int.natAbs_natCast]at this;omega
   omega
theorem Ep{p:Nat}(h:prime p=true){n:Int}{f:Nat}(hf:f<p)(e:(n*(f:Int))%(p:Int)=1):wU p n=f:=by
 unfold wU;cases q:(List.range p).find? fun (f:Nat)=>(n*(f:Int))%(p:Int)==1 with
 |none=>
  have:=List.find?_eq_none.mp q f (mem_range.mpr hf);simp[e]at this
 |some g=>
  have h1:=find?_some q;have h2:=mem_range.mp (mem_of_find?_eq_some q);exact inv_one h h2 hf (by simpa using h1) e
theorem Vs(p:Nat)(n:Int):wU p (n%(p:Int))=wU p n:=by
 unfold wU;congr 2;funext f;rw[mul_emod,emod_emod,←mul_emod]
def oth(bZ:List (Nat×Nat))(a:Nat):List Int:=(bZ.filter fun q=>q.1 != a).map fun q=>(q.1:Int)
def term(p:Nat)(bZ:List (Nat×Nat))(x:Int)(q:Nat×Nat):Int:=
 (q.2:Int)*dB ((oth bZ q.1).map fun a=>x-a)*(wU p (dB ((oth bZ q.1).map fun a=>(q.1:Int)-a)):Int)
def pC(p:Nat)(bZ:List (Nat×Nat))(x:Int):Int:=(bZ.map (term p bZ x)).sum
structure Er(p:Nat)(bZ:List (Nat×Nat)):Prop where
 nd:(bZ.map (·.1)).Nodup
 lt:∀q∈bZ,q.1<p∧q.2<p
theorem Oq{p a b:Nat}(ha:a<p)(hb:b<p)(h:a≠b):¬(p:Int)∣(a:Int)-(b:Int):=fun ⟨k,hk⟩=>by
 have:=le_of_dvd (by omega:0<((a:Int)-(b:Int)).natAbs) (Int.natAbs_dvd_natAbs.mpr ⟨k,hk⟩);rw[Int.natAbs_natCast]at this;omega
section
variable{p:Nat}{bZ:List (Nat×Nat)}
theorem Er.below(h:prime p=true)(P:Er p bZ){q:Nat×Nat}(hq:q∈bZ):¬(p:Int)∣dB ((oth bZ q.1).map fun a=>(q.1:Int)-a):=by
 refine CJ h fun a ha=>?_;obtain⟨b,hb,rfl⟩:=mem_map.mp ha;obtain⟨r,hr,rfl⟩:=mem_map.mp hb;obtain⟨h1,h2⟩:=mem_filter.mp hr;exact Oq (P.lt q hq).1 (P.lt r h1).1 (by simpa using Ne.symm (by simpa using h2))
theorem Er.inv(h:prime p=true)(P:Er p bZ){q:Nat×Nat}(hq:q∈bZ):(dB ((oth bZ q.1).map fun a=>(q.1:Int)-a)*(wU p (dB ((oth bZ q.1).map fun a=>(q.1:Int)-a)):Int))%(p:Int)=1:=by
 obtain⟨f,h1,h2,h3⟩:=En h (P.below h hq);rw[Ep h h2 h3];exact h3
theorem Lh{q r:Nat×Nat}(hq:q∈bZ)(hn:r.1≠q.1):term p bZ (q.1:Int) r=0:=by
 unfold term;have:dB ((oth bZ r.1).map fun a=>(q.1:Int)-a)=0:=z6 (mem_map.mpr ⟨(q.1:Int),mem_map.mpr ⟨q,mem_filter.mpr ⟨hq,by simpa using Ne.symm hn⟩,rfl⟩,by omega⟩);rw[this,mul_zero,Int.zero_mul]
theorem Ot{α:Type}(f:α→Int){x:α}:∀{l:List α},x∈l→l.Pairwise (fun a b=>a≠b)→(∀y∈l,y≠x→f y=0)→(l.map f).sum=f x
 |a::l,hx,hd,h0=>by
  rw[List.pairwise_cons]at hd;rw[map_cons,sum_cons];by_cases e:x=a
  ·subst e;have:∀m:List α,(∀y∈m,f y=0)→(m.map f).sum=0:=fun m=>by
    induction m with
    |nil=>intro _;rfl
    |cons b m ih=>intro hm;rw[map_cons,sum_cons,hm b (by simp),ih fun y hy=>hm y (by simp[hy])];rfl
   rw[this l fun y hy=>h0 y (by simp[hy]) (hd.1 y hy).symm,Int.add_zero]
  ·have hx':x∈l:=by rcases mem_cons.mp hx with z|z;exact absurd z e;exact z
   rw[h0 a (by simp) (fun z=>e z.symm),Int.zero_add,Ot f hx' hd.2 fun y hy=>h0 y (by simp[hy])]
theorem Er.adq(P:Er p bZ){q r:Nat×Nat}(hq:q∈bZ)(hr:r∈bZ)(e:q.1=r.1):q=r:=by
 have nd:=P.nd;clear P
 induction bZ with
 |nil=>simp at hq
 |cons a l ih=>
  rw[map_cons,nodup_cons]at nd;rcases mem_cons.mp hq with y|y<;>rcases mem_cons.mp hr with z|z
  ·rw[y,z]
  ·exact absurd (mem_map.mpr ⟨r,z,by rw[←e,y]⟩) nd.1
  ·exact absurd (mem_map.mpr ⟨q,y,by rw[e,z]⟩) nd.1
  ·exact ih y z nd.2
theorem Er.pw(P:Er p bZ):bZ.Pairwise (fun a b=>a≠b):=by
 have nd:=P.nd;rw[List.nodup_iff_pairwise_ne,pairwise_map]at nd;exact nd.imp fun h e=>h (by rw[e])
theorem Li(h:prime p=true)(P:Er p bZ){q:Nat×Nat}(hq:q∈bZ):pC p bZ (q.1:Int)%(p:Int)=(q.2:Int):=by
 unfold pC;rw[Ot _ hq P.pw fun r hr hn=>Lh hq fun e=>hn (P.adq hr hq e)];unfold term;rw[mul_assoc,mul_emod,P.inv h hq,Int.mul_one,emod_emod];have:=(P.lt q hq).2;exact Int.emod_eq_of_lt (by omega) (by omega)
theorem Ym(P:Er p bZ){q:Nat×Nat}(hq:q∈bZ):(oth bZ q.1).length+1=bZ.length:=by
 unfold oth;rw[length_map];have nd:=P.nd;clear P
 induction bZ with
 |nil=>simp at hq
 |cons a l ih=>
  rw[map_cons,nodup_cons]at nd;rcases mem_cons.mp hq with rfl|hq
  ·have:∀m:List (Nat×Nat),(∀r∈m,r.1≠q.1)→m.filter (fun r=>r.1 != q.1)=m:=fun m hm=>List.filter_eq_self.mpr fun r hr=>by simpa using hm r hr
   rw[filter_cons_of_neg (by simp),this l fun r hr e=>nd.1 (mem_map.mpr ⟨r,hr,e⟩),length_cons]
  ·have hne:a.1≠q.1:=fun e=>nd.1 (mem_map.mpr ⟨q,hq,e.symm⟩);rw[filter_cons_of_pos (by simpa using hne),length_cons,ih hq nd.2,length_cons]
def Lj(p:Nat)(bZ:List (Nat×Nat)):List (Nat×Nat)→List Int
 | []=>[]
 |q::l=>vM (mulC ((q.2:Int)*(wU p (dB ((oth bZ q.1).map fun a=>(q.1:Int)-a)):Int)) (Jf (oth bZ q.1))) (Lj p bZ l)
theorem Ou(x:Int):∀l:List (Nat×Nat),ev (Lj p bZ l) x=(l.map (term p bZ x)).sum
 | []=>rfl
 |q::l=>by
  rw[Lj,qY,qZ,Jg,Ou x l,map_cons,sum_cons];congr 1;unfold term;rw[mul_assoc,mul_assoc,Int.mul_comm (wU p _:Int)]
theorem Jh(P:Er p bZ):∀l:List (Nat×Nat),(∀q∈l,q∈bZ)→(Lj p bZ l).length≤bZ.length
 | [],_=>zero_le _
 |q::l,h=>by
  rw[Lj,qC];unfold mulC;rw[length_map,CK];have:=Ym P (h q (by simp));have:=Jh P l fun r hr=>h r (by simp[hr]);omega
theorem CN(p:Nat)(n x:Nat):∀cs:List Nat,worth p (cs++List.replicate n 0) x=worth p cs x
 | []=>by
  rw[nil_append]
  induction n with
  |zero=>rfl
  |succ n ih=>
   rw[List.replicate_succ];show (0+x*worth p (List.replicate n 0) x)%p=0;rw[ih];show (0+x*0)%p=0;simp
 |c::cs=>by
  show (c+x*worth p (cs++List.replicate n 0) x)%p=(c+x*worth p cs x)%p;rw[CN p n x cs]
theorem Es(h:prime p=true)(P:Er p bZ){k:Nat}(hk:bZ.length≤k):∃cs:List Nat,cs.length=k∧(∀c∈cs,c<p)∧∀x:Nat,((worth p cs x:Nat):Int)=pC p bZ (x:Int)%(p:Int):=by
 have hp:0<p:=by have:=cM h;omega
 have hl:=Jh P bZ fun q hq=>hq;refine⟨low p (Lj p bZ bZ)++List.replicate (k-(Lj p bZ bZ).length) 0,?_,fun c hc=>?_,fun x=>?_⟩
 ·rw[length_append,Yl,length_replicate];omega
 ·rcases mem_append.mp hc with z|z
  ·exact aaT hp _ c z
  ·rw[List.mem_replicate]at z;omega
 ·rw[CN,Rc hp,Ou];rfl
theorem Lk(h:prime p=true)(P:Er p bZ){cs:List Nat}(hc:cs.length≤bZ.length)(he:∀q∈bZ,worth p cs q.1=q.2)(x:Nat):((worth p cs x:Nat):Int)=pC p bZ (x:Int)%(p:Int):=by
 obtain⟨ds,d1,d2,d3⟩:=Es h P (le_refl _);rw[←d3];congr 1;refine Eo h (xs:=bZ.map (·.1)) hc (by omega) (by rw[length_map]) ?_ (fun y hy=>?_) x
 ·rw[pairwise_map];have nd:=P.nd;rw[List.nodup_iff_pairwise_ne,pairwise_map]at nd;refine nd.imp_of_mem fun {a b} ha hb hn=>Oq (P.lt b hb).1 (P.lt a ha).1 (Ne.symm hn)
 ·obtain⟨q,hq,rfl⟩:=mem_map.mp hy;have h1:=d3 q.1;rw[Li h P hq]at h1;rw[he q hq];omega
end
def Sv(v:Int)(s:Nat):Prop:=v≠-4∧(v=-6∨v=(s:Int))
instance (v:Int) (s:Nat):Decidable (Sv v s):=by unfold Sv;exact inferInstance
def Vd(p:Nat)(v:Int):Prop:=v=-4∨v=-6∨(0≤v∧v<(p:Int))
def bD:List Int→Nat→List (Nat×Nat)
 | [],_=>[]
 |v::l,x=>if v=-6 then bD l (x+1) else (x,v.toNat)::bD l (x+1)
theorem nW{q:Nat×Nat}:∀{l:List Int}{x:Nat},q∈bD l x↔∃i v,l[i]?=some v∧v≠-6∧q=(x+i,v.toNat)
 | [],x=>by simp[bD]
 |v::l,x=>by
  rw[bD];have ih:=@nW q l (x+1);constructor
  ·intro h;split at h
   ·obtain⟨i,u,h1,h2,h3⟩:=ih.mp h;exact⟨i+1,u,h1,h2,by rw[h3];congr 1;omega⟩
   ·rename_i hv;rcases mem_cons.mp h with h|h
    ·exact⟨0,v,rfl,hv,h⟩
    ·obtain⟨i,u,h1,h2,h3⟩:=ih.mp h;exact⟨i+1,u,h1,h2,by rw[h3];congr 1;omega⟩
  ·rintro⟨i,u,h1,h2,h3⟩;cases i with
   |zero=>
    cases h1;rw[if_neg h2,h3];exact mem_cons_self ..
   |succ i=>
    have:q∈bD l (x+1):=ih.mpr ⟨i,u,h1,h2,by rw[h3];congr 1;omega⟩;split
    ·exact this
    ·exact mem_cons_of_mem _ this
theorem Ji{l:List Int}{x:Nat}{q:Nat×Nat}(h:q∈bD l x):x≤q.1:=by
 obtain⟨i,v,_,_,rfl⟩:=nW.mp h;exact le_add_right _ _
theorem z7:∀(l:List Int)(x:Nat),((bD l x).map (·.1)).Nodup
 | [],x=>by simp[bD]
 |v::l,x=>by
  rw[bD];split
  ·exact z7 l (x+1)
  ·rw[map_cons,nodup_cons];refine⟨fun h=>?_,z7 l (x+1)⟩;obtain⟨q,hq,e⟩:=mem_map.mp h;have:=Ji hq;omega
theorem Jj{p:Nat}{l:List Int}(hl:l.length<p)(hv:∀v∈l,Vd p v)(hn:¬(-4:Int)∈l):Er p (bD l 1):=by
 refine⟨z7 l 1,fun q hq=>?_⟩;obtain⟨i,v,h1,h2,rfl⟩:=nW.mp hq;have hi:=(List.getElem?_eq_some_iff.mp h1).1;have hm:=mem_of_getElem? h1;refine⟨by show 1+i<p;omega,?_⟩;show v.toNat<p;rcases hv v hm with z|z|z
 ·rw[z]at hm;exact absurd hm hn
 ·exact absurd z h2
 ·omega
theorem Er.take{p:Nat}{bZ:List (Nat×Nat)}(P:Er p bZ)(k:Nat):Er p (bZ.take k):=
 ⟨by rw[map_take];exact P.nd.sublist (List.take_sublist _ _),fun q hq=>P.lt q (mem_of_mem_take hq)⟩
def gK(p k:Nat)(vals:List Int):Int:=if (-4:Int)∈vals then -4 else if (bD vals 1).length<k then -6
 else if ((bD vals 1).drop k).any (fun q=>!decide (pC p ((bD vals 1).take k) (q.1:Int)%(p:Int)=(q.2:Int)))=true then -4
 else pC p ((bD vals 1).take k) 0%(p:Int)
theorem sZ{p:Nat}{c:Nat}{cs:List Nat}(h:c<p):worth p (c::cs) 0=c:=by
 show (c+0*worth p cs 0)%p=c;rw[Nat.zero_mul,add_zero,Nat.mod_eq_of_lt h]
section
variable{p k:Nat}{vals:List Int}
theorem Jk(hp:0<p):Vd p (gK p k vals):=by
 unfold gK;split
 ·exact .inl rfl
 ·split
  ·exact .inr (.inl rfl)
  ·split
   ·exact .inl rfl
   ·exact .inr (.inr ⟨emod_nonneg _ (by omega),emod_lt_of_pos _ (by omega)⟩)
theorem Vt(h:prime p=true)(hk:1≤k)(hl:vals.length<p)(hv:∀v∈vals,Vd p v){s:Nat}(hs:s<p) :
  (∃c:List Nat,c.length=k-1∧(∀y∈c,y<p)∧∀i v,vals[i]?=some v→Sv v (worth p (s::c) (1+i)))↔Sv (gK p k vals) s:=by
 have hp:0<p:=by have:=cM h;omega
 unfold gK;by_cases h4:(-4:Int)∈vals
 ·rw[if_pos h4];constructor
  ·rintro⟨c,_,_,h1⟩;obtain⟨i,hi,e⟩:=List.mem_iff_getElem.mp h4;exact absurd rfl (h1 i (-4) (by rw[getElem?_eq_getElem hi,e])).1
  ·exact fun z=>absurd rfl z.1
 rw[if_neg h4];have P:=Jj hl hv h4;have A:∀cs:List Nat,(∀i v,vals[i]?=some v→Sv v (worth p cs (1+i)))↔∀q∈bD vals 1,worth p cs q.1=q.2:=fun cs=>by
  constructor
  ·intro h1 q hq;obtain⟨i,v,g1,g2,rfl⟩:=nW.mp hq;rcases (h1 i v g1).2 with z|z
   ·exact absurd z g2
   ·show worth p cs (1+i)=v.toNat;omega
  ·intro h1 i v g1;have hm:=mem_of_getElem? g1;refine⟨fun z=>h4 (z▸hm),?_⟩;by_cases g2:v=-6
   ·exact .inl g2
   ·have:=h1 _ (nW.mpr ⟨i,v,g1,g2,rfl⟩);have this:worth p cs (1+i)=v.toNat:=this;rcases hv v hm with z|z|z
    ·exact absurd (z▸hm) h4
    ·exact .inl z
    ·exact .inr (by omega)
 by_cases hlt:(bD vals 1).length<k
 ·rw[if_pos hlt];refine⟨fun _=>⟨by decide,.inl rfl⟩,fun _=>?_⟩;have P0:Er p ((0,s)::bD vals 1):=by
   refine⟨?_,fun q hq=>?_⟩
   ·rw[map_cons,nodup_cons];refine⟨fun z=>?_,P.nd⟩;obtain⟨q,hq,e⟩:=mem_map.mp z;have:=Ji hq;have e:q.1=0:=e;omega
   ·rcases mem_cons.mp hq with rfl|hq
    ·exact⟨hp,hs⟩
    ·exact P.lt q hq
  obtain⟨cs,c1,c2,c3⟩:=Es h P0 (k:=k) (by rw[length_cons];omega);have at_:∀q∈(0,s)::bD vals 1,worth p cs q.1=q.2:=fun q hq=>by
   have:=c3 q.1;rw[Li h P0 hq]at this;omega
  match cs,c1,c2,at_ with
  | [],c1,_,_=>simp at c1;omega
  |c0::c,c1,c2,at_=>
   have e0:=at_ (0,s) (by simp);have e0:worth p (c0::c) 0=s:=e0;rw[sZ (c2 c0 (by simp))]at e0;subst e0;exact⟨c,by rw[length_cons]at c1;omega,fun y hy=>c2 y (by simp[hy]),(A _).mpr fun q hq=>at_ q (by simp[hq])⟩
 rw[if_neg hlt];have P1:=P.take k;have hk1:((bD vals 1).take k).length=k:=by rw[length_take];omega
 constructor
 ·rintro⟨c,c1,c2,c3⟩;rw[A]at c3;have hu:=Lk h P1 (cs:=s::c) (by rw[hk1,length_cons];omega) (fun q hq=>c3 q (mem_of_mem_take hq));have hno:¬((bD vals 1).drop k).any (fun q=>!decide (pC p ((bD vals 1).take k) (q.1:Int)%(p:Int)=(q.2:Int)))=true:=fun z=>by
   obtain⟨q,hq,hq2⟩:=any_eq_true.mp z;have h1:=hu q.1;rw[c3 q (mem_of_mem_drop hq)]at h1;rw[←h1]at hq2;simp at hq2
  rw[if_neg hno];have h0:=hu 0;rw[sZ hs]at h0;have h0:(s:Int)=pC p ((bD vals 1).take k) 0%(p:Int):=h0;rw[←h0];exact⟨by omega,.inr rfl⟩
 ·intro z;by_cases hno:((bD vals 1).drop k).any (fun q=>!decide (pC p ((bD vals 1).take k) (q.1:Int)%(p:Int)=(q.2:Int)))=true
  ·rw[if_pos hno]at z;exact absurd rfl z.1
  rw[if_neg hno]at z;have v0:=emod_nonneg (pC p ((bD vals 1).take k) 0) (by omega:(p:Int)≠0);have e:pC p ((bD vals 1).take k) 0%(p:Int)=(s:Int):=by
   rcases z.2 with y|y
   ·omega
   ·exact y
  obtain⟨cs,c1,c2,c3⟩:=Es h P1 (k:=k) (by omega);have c0:worth p cs 0=s:=by
   have:=c3 0;have this:((worth p cs 0:Nat):Int)=pC p ((bD vals 1).take k) 0%(p:Int):=this;omega
  have at_:∀q∈bD vals 1,worth p cs q.1=q.2:=fun q hq=>by
   have h1:=c3 q.1;rw[←take_append_drop k (bD vals 1)]at hq;rcases mem_append.mp hq with y|y
   ·rw[Li h P1 y]at h1;omega
   ·have:pC p ((bD vals 1).take k) (q.1:Int)%(p:Int)=(q.2:Int):=by
     by_cases e2:pC p ((bD vals 1).take k) (q.1:Int)%(p:Int)=(q.2:Int)
     ·exact e2
     ·exact absurd (any_eq_true.mpr ⟨q,y,by simp[e2]⟩) hno
    omega
  match cs,c1,c2,c0,at_ with
  | [],c1,_,_,_=>simp at c1;omega
  |d::c,c1,c2,c0,at_=>
   rw[sZ (c2 d (by simp))]at c0;subst c0;exact⟨c,by rw[length_cons]at c1;omega,fun y hy=>c2 y (by simp[hy]),(A _).mpr at_⟩
end
mutual
def CP(p:Nat):Form→List Int→Int
 | .one _,h=>h.headD (-6)
 | .some_ k l,h=>gK p k (gV p l h)
def gV(p:Nat):Forms→List Int→List Int
 | .nil,_=>[]
 | .cons f l,h=>CP p f (h.take (leaves f).length)::gV p l (h.drop (leaves f).length)
end
def Fi:List Int→List Nat→Prop
 | [],[]=>True
 |h::hs,v::vs=>(h=-6∨h=(v:Int))∧Fi hs vs
 |_,_=>False
theorem z8:∀{h1 h2:List Int}{v1 v2:List Nat},h1.length=v1.length→(Fi (h1++h2) (v1++v2)↔Fi h1 v1∧Fi h2 v2)
 | [],h2,[],v2,_=>by simp[Fi]
 | [],h2,v::v1,v2,e=>by simp at e
 |h::h1,h2,[],v2,e=>by simp at e
 |h::h1,h2,v::v1,v2,e=>by
  have ih:=@z8 h1 h2 v1 v2 (by simpa using e);show (_∧Fi (h1++h2) (v1++v2))↔(_∧Fi h1 v1)∧Fi h2 v2;rw[ih,and_assoc]
mutual
theorem z9(p:Nat):∀(f:Form)(s:Nat)(r:List Nat),(deal p f s r).length=(leaves f).length
 | .one _,s,r=>rfl
 | .some_ k l,s,r=>by rw[deal,leaves];exact Jl p l _ _ _
theorem Jl(p:Nat):∀(l:Forms)(cs:List Nat)(x:Nat)(r:List Nat),(dealIn p l cs x r).length=(leavesIn l).length
 | .nil,cs,x,r=>rfl
 | .cons f l,cs,x,r=>by rw[dealIn,leavesIn,length_append,length_append,z9 p f,Jl p l]
end
def Hd(p:Nat)(h:Int):Prop:=h=-6∨(0≤h∧h<(p:Int))
mutual
theorem Aa{p:Nat}(hP:prime p=true):∀(f:Form)(held:List Int),sound p f=true→held.length=(leaves f).length→(∀h∈held,Hd p h)→Vd p (CP p f held)∧∀s,s<p→((∃r:List Nat,r.length=needs f∧(∀c∈r,c<p)∧Fi held (deal p f s r))↔Sv (CP p f held) s)
 | .one i,held,_,hl,hh=>by
  match held,hl with
  | [h],_=>
   have h1:=hh h (by simp);refine⟨?_,fun s hs=>?_⟩
   ·show Vd p h;rcases h1 with z|z
    ·exact .inr (.inl z)
    ·exact .inr (.inr z)
   ·show _↔Sv h s;constructor
    ·rintro⟨r,_,_,hr⟩;have hr:(h=-6∨h=(s:Int))∧True:=hr;refine⟨?_,hr.1⟩;rcases h1 with z|z<;>omega
    ·intro z;exact⟨[],rfl,fun c hc=>by simp at hc,z.2,trivial⟩
 | .some_ k l,held,hs0,hl,hh=>by
  rw[sound,and_eq_true,and_eq_true,and_eq_true,decide_eq_true_iff,decide_eq_true_iff,decide_eq_true_iff]at hs0;obtain⟨k1,k2,k3,k4⟩:=hs0;have hp:0<p:=by have:=cM hP;omega
  obtain⟨i1,i2,i3⟩:=Jm hP l held k4 hl hh;refine⟨Jk hp,fun s hs=>?_⟩;show _↔Sv (gK p k (gV p l held)) s;rw[←Vt hP k1 (by omega) i1 hs];constructor
  ·rintro⟨r,r1,r2,r3⟩;rw[needs]at r1;rw[deal]at r3;refine⟨r.take (k-1),by rw[length_take];omega,fun y hy=>r2 y (mem_of_mem_take hy),(i3 _ 1).mp ⟨r.drop (k-1),by rw[length_drop];omega,fun y hy=>r2 y (mem_of_mem_drop hy),r3⟩⟩
  ·rintro⟨c,c1,c2,c3⟩;obtain⟨r,r1,r2,r3⟩:=(i3 _ 1).mpr c3;refine⟨c++r,by rw[length_append,needs];omega,fun y hy=>?_,?_⟩
   ·rcases mem_append.mp hy with z|z
    ·exact c2 y z
    ·exact r2 y z
   ·rw[deal,List.take_append_of_le_length (by omega),take_of_length_le (by omega),List.drop_append_of_le_length (by omega),List.drop_of_length_le (by omega),nil_append];exact r3
theorem Jm{p:Nat}(hP:prime p=true):∀(l:Forms)(held:List Int),soundIn p l=true→held.length=(leavesIn l).length→(∀h∈held,Hd p h)→(∀v∈gV p l held,Vd p v)∧(gV p l held).length=countOf l ∧
  ∀(cs:List Nat)(x:Nat),((∃r:List Nat,r.length=needsIn l∧(∀c∈r,c<p)∧Fi held (dealIn p l cs x r))↔∀i v,(gV p l held)[i]?=some v→Sv v (worth p cs (x+i)))
 | .nil,held,_,hl,hh=>by
  match held,hl with
  | [],_=>
   refine⟨fun v hv=>by simp[gV]at hv,rfl,fun cs x=>⟨fun _ i v hv=>by simp[gV]at hv,fun _=>⟨[],rfl,fun c hc=>by simp at hc,trivial⟩⟩⟩
 | .cons f l,held,hs0,hl,hh=>by
  rw[soundIn,and_eq_true]at hs0;rw[leavesIn,length_append]at hl;have hp:0<p:=by have:=cM hP;omega
  obtain⟨a1,a2⟩:=Aa hP f (held.take (leaves f).length) hs0.1 (by rw[length_take];omega) fun h hm=>hh h (mem_of_mem_take hm);obtain⟨b1,b2,b3⟩:=Jm hP l (held.drop (leaves f).length) hs0.2 (by rw[length_drop];omega) fun h hm=>hh h (mem_of_mem_drop hm);have wl:∀(cs:List Nat)(x:Nat),worth p cs x<p:=fun cs x=>by
   cases cs with
   |nil=>exact hp
   |cons c cs=>exact mod_lt _ hp
  rw[gV];refine⟨fun v hv=>?_,by rw[length_cons,b2];rfl,fun cs x=>?_⟩
  ·rcases mem_cons.mp hv with rfl|hv
   ·exact a1
   ·exact b1 v hv
  ·have hsp:held=held.take (leaves f).length++held.drop (leaves f).length:=(take_append_drop _ _).symm;have key:∀r:List Nat,Fi held (dealIn p (.cons f l) cs x r)↔Fi (held.take (leaves f).length) (deal p f (worth p cs x) (r.take (needs f)))∧Fi (held.drop (leaves f).length) (dealIn p l cs (x+1) (r.drop (needs f))):=fun r=>by
    rw[dealIn]
    conv=>lhs;rw[hsp]
    exact z8 (by rw[z9,length_take];omega)
   constructor
   ·rintro⟨r,r1,r2,r3⟩ i v hv;rw[needsIn]at r1;rw[key]at r3;cases i with
    |zero=>
     cases hv;exact(a2 _ (wl cs x)).mp ⟨r.take (needs f),by rw[length_take];omega,fun y hy=>r2 y (mem_of_mem_take hy),r3.1⟩
    |succ i=>
     have:=(b3 cs (x+1)).mp ⟨r.drop (needs f),by rw[length_drop];omega,fun y hy=>r2 y (mem_of_mem_drop hy),r3.2⟩ i v hv;have e:x+(i+1)=x+1+i:=by omega
     rw[e];exact this
   ·intro z;obtain⟨r,r1,r2,r3⟩:=(a2 _ (wl cs x)).mpr (z 0 _ rfl);obtain⟨u,u1,u2,u3⟩:=(b3 cs (x+1)).mpr fun i v hv=>by
     have:=z (i+1) v hv;have e:x+(i+1)=x+1+i:=by omega
     rw[e]at this;exact this
    refine⟨r++u,by rw[length_append,needsIn];omega,fun y hy=>?_,(key _).mpr ?_⟩
    ·rcases mem_append.mp hy with z|z
     ·exact r2 y z
     ·exact u2 y z
    ·have e1:(r++u).take (needs f)=r:=by rw[List.take_append_of_le_length (by omega),take_of_length_le (by omega)]
     have e2:(r++u).drop (needs f)=u:=by rw[List.drop_append_of_le_length (by omega),List.drop_of_length_le (by omega),nil_append]
     rw[e1,e2];exact⟨r3,u3⟩
end
def eE(m:Nat):List Nat→List Nat→List Int
 | [],_=>[]
 |o::os,w=>if m.testBit o=true then ((w.headD 0:Nat):Int)::eE m os w.tail else -6::eE m os w
def theirs(m:Nat)(os:List Nat):List Nat:=os.filter fun o=>m.testBit o
def nY(m:Nat)(os v:List Nat):List Nat:=(os.zip v).filterMap fun (x:Nat×Nat)=>if m.testBit x.1=true then some x.2 else none
theorem uK(m:Nat):∀(os v w:List Nat),os.length=v.length→w.length=(theirs m os).length→(nY m os v=w↔Fi (eE m os w) v)
 | [],[],w,_,hw=>by
  have:w=[]:=List.eq_nil_of_length_eq_zero hw;subst this;simp[nY,eE,Fi]
 | [],b::v,w,hv,_=>by simp at hv
 |o::os,[],w,hv,_=>by simp at hv
 |o::os,b::v,w,hv,hw=>by
  have hv':os.length=v.length:=by simpa using hv
  unfold nY theirs at *
  by_cases hb:m.testBit o=true
  ·rw[filter_cons_of_pos hb,length_cons]at hw
   match w,hw with
   |a::w,hw=>
    have ih:=uK m os v w hv' (Nat.succ.inj hw);rw[eE,if_pos hb,zip_cons_cons,filterMap_cons];simp only[if_pos hb];show b::nY m os v=a::w↔(((a:Nat):Int)=-6∨((a:Nat):Int)=(b:Int))∧Fi (eE m os w) v;rw[←ih,List.cons.injEq];constructor
    ·rintro⟨e1,e2⟩;exact⟨.inr (by omega),e2⟩
    ·rintro⟨e1,e2⟩;exact⟨by omega,e2⟩
  ·rw[filter_cons_of_neg hb]at hw;have ih:=uK m os v w hv' hw;rw[eE,if_neg hb,zip_cons_cons,filterMap_cons];simp only[if_neg hb];show nY m os v=w↔((-6:Int)=-6∨(-6:Int)=(b:Int))∧Fi (eE m os w) v;rw[←ih];exact⟨fun z=>⟨.inl rfl,z⟩,fun z=>z.2⟩
theorem rm(m:Nat):∀(os w:List Nat),(eE m os w).length=os.length
 | [],w=>rfl
 |o::os,w=>by
  rw[eE];split<;>rw[length_cons,rm m os,length_cons]
theorem qD(m p:Nat):∀(os w:List Nat),w.length=(theirs m os).length→(∀c∈w,c<p)→∀h∈eE m os w,Hd p h
 | [],w,_,_=>fun h hh=>by simp[eE]at hh
 |o::os,w,hw,hc=>fun h hh=>by
  unfold theirs at hw;rw[eE]at hh;by_cases hb:m.testBit o=true
  ·rw[filter_cons_of_pos hb,length_cons]at hw;rw[if_pos hb]at hh
   match w,hw,hc,hh with
   |a::w,hw,hc,hh=>
    rcases mem_cons.mp hh with rfl|hh
    ·have:=hc a (by simp);exact .inr ⟨by show (0:Int)≤(a:Int);omega,by show (a:Int)<(p:Int);omega⟩
    ·exact qD m p os w (Nat.succ.inj hw) (fun c z=>hc c (by simp[z])) h hh
  ·rw[filter_cons_of_neg hb]at hw;rw[if_neg hb]at hh;rcases mem_cons.mp hh with rfl|hh
   ·exact .inl rfl
   ·exact qD m p os w hw hc h hh
theorem mH(p:Nat):∀(n:Nat)(r:List Nat),r∈choices p n↔r.length=n∧∀c∈r,c<p
 | 0,r=>by
  show r∈[[]]↔_;rw[mem_singleton];constructor
  ·rintro rfl;exact⟨rfl,fun c hc=>by simp at hc⟩
  ·exact fun h=>List.eq_nil_of_length_eq_zero h.1
 |n+1,r=>by
  rw[choices,mem_flatMap];constructor
  ·rintro⟨c,hc,h⟩;obtain⟨l,hl,rfl⟩:=mem_map.mp h;obtain⟨h1,h2⟩:=(mH p n l).mp hl;refine⟨by rw[length_cons,h1],fun d hd=>?_⟩;rcases mem_cons.mp hd with rfl|hd
   ·exact mem_range.mp hc
   ·exact h2 d hd
  ·rintro⟨h1,h2⟩
   match r,h1,h2 with
   |c::l,h1,h2=>exact⟨c,mem_range.mpr (h2 c (by simp)),mem_map.mpr ⟨l,(mH p n l).mpr ⟨by simpa using h1,fun d hd=>h2 d (by simp[hd])⟩,rfl⟩⟩
theorem Ln{a:Nat}:∀{p:Nat},p≤a→(List.range p).filter (fun s=>s==a)=[]
 |p,h=>List.filter_eq_nil_iff.mpr fun s hs=>by
  have:=mem_range.mp hs;simp;omega
theorem range_one{a:Nat}:∀{p:Nat},a<p→(List.range p).filter (fun s=>s==a)=[a]
 |p+1,h=>by
  rw[range_succ,filter_append];by_cases e:a=p
  ·subst e;rw[Ln (le_refl _)];simp
  ·rw[range_one (by omega:a<p),filter_cons_of_neg (by simp;omega)];rfl
section
variable{p:Nat}(hP:prime p=true){f:Form}(hs:sound p f=true){m:Nat}{w:List Nat}(hw:w.length=(theirs m (leaves f)).length)(hc:∀c∈w,c<p)
include hP hs hw hc
theorem mJ(s:Nat):s∈secrets p f m w↔s<p∧Sv (CP p f (eE m (leaves f) w)) s:=by
 unfold secrets;rw[mem_filter,mem_range,any_eq_true];refine and_congr_right fun h=>?_;rw[←(Aa hP f (eE m (leaves f) w) hs (rm _ _ _) (qD m p _ _ hw hc)).2 s h];constructor
 ·rintro⟨r,hr,e⟩;obtain⟨r1,r2⟩:=(mH p _ r).mp hr;exact⟨r,r1,r2,(uK m (leaves f) _ w (z9 p f s r).symm hw).mp (beq_iff_eq.mp e)⟩
 ·rintro⟨r,r1,r2,r3⟩;exact⟨r,(mH p _ r).mpr ⟨r1,r2⟩,beq_iff_eq.mpr ((uK m (leaves f) _ w (z9 p f s r).symm hw).mpr r3)⟩
theorem Lp:secrets p f m w=(List.range p).filter fun s=>decide (Sv (CP p f (eE m (leaves f) w)) s):=by
 unfold secrets;refine List.filter_congr fun s hs'=>?_;have h:=mJ hP hs hw hc s;unfold secrets at h;rw[mem_filter]at h;rw[Bool.eq_iff_iff,decide_eq_true_iff];have h2:=mem_range.mp hs';exact⟨fun z=>(h.mp ⟨hs',z⟩).2,fun z=>(h.mpr ⟨h2,z⟩).2⟩
theorem Et:secretOf (secrets p f m w) (-4)=CP p f (eE m (leaves f) w):=by
 have h2:=cM hP;have hv:=(Aa hP f (eE m (leaves f) w) hs (rm _ _ _) (qD m p _ _ hw hc)).1;rw[Lp hP hs hw hc];generalize CP p f (eE m (leaves f) w)=v at hv;rcases hv with rfl|rfl|⟨h0,h1⟩
 ·have:(List.range p).filter (fun s=>decide (Sv (-4) s))=[]:=List.filter_eq_nil_iff.mpr fun s _=>by
   rw[decide_eq_true_iff];exact fun z=>z.1 rfl
  rw[this];rfl
 ·have:(List.range p).filter (fun s=>decide (Sv (-6) s))=List.range p:=List.filter_eq_self.mpr fun s _=>by
   rw[decide_eq_true_iff];exact⟨by decide,.inl rfl⟩
  rw[this]
  match p,h2 with
  |q+2,_=>
   rw[range_succ_eq_map,range_succ_eq_map];rfl
 ·have:(List.range p).filter (fun s=>decide (Sv v s))=[v.toNat]:=by
   have e:∀s,s∈List.range p→(decide (Sv v s)=(s==v.toNat)):=fun s _=>by
    rw[Bool.eq_iff_iff,decide_eq_true_iff,beq_iff_eq];unfold Sv;omega
   rw[List.filter_congr e];exact range_one (by omega)
  rw[this];show ((v.toNat:Nat):Int)=v;omega
theorem Eu:(secrets p f m w).isEmpty=true↔CP p f (eE m (leaves f) w)=-4:=by
 have h2:=cM hP;have hv:=(Aa hP f (eE m (leaves f) w) hs (rm _ _ _) (qD m p _ _ hw hc)).1;rw[List.isEmpty_iff];constructor
 ·intro z;rcases hv with e|e|e
  ·exact e
  ·have:0∈secrets p f m w:=(mJ hP hs hw hc 0).mpr ⟨by omega,by rw[e];exact⟨by decide,.inl rfl⟩⟩;rw[z]at this;simp at this
  ·have:(CP p f (eE m (leaves f) w)).toNat∈secrets p f m w:=(mJ hP hs hw hc _).mpr ⟨by omega,by omega,.inr (by omega)⟩;rw[z]at this;simp at this
 ·intro z;refine List.eq_nil_iff_forall_not_mem.mpr fun s hs'=>?_;have:=(mJ hP hs hw hc s).mp hs';rw[z]at this;exact this.2.1 rfl
end
end Sp
namespace Xc
open PySem PySem.Spec PyProof.Rows L2
open AutoSeq1 (wpAny_loadPart')
theorem Rf(l:Addr)(items:Array Value)(n:Nat)(dct:Option Addr)(sl:Array (Option Value))(t:PySem.Tok) :
  Meets (Builtin.«enumerate.__new__» ⟨[.type "enumerate",.ref l],[("start",.int 1 t)]⟩) (fun _ R s=>s.heap.get? l=some { cls:=.type "list",dict:=dct,data:=.seq items n,slots:=sl } ∧
   R (.ok (.ret (.ref (s.heap.objs.size+1)))) { s with heap:=(s.heap.push { cls:=.type "list_iterator",data:=.fields #[.ref l,.int 0 0] }).push { cls:=.type "enumerate",data:=.fields #[.none,.bool false,.ref s.heap.objs.size,rawInt 1,.none,.none] } }):=
 .of_wp fun prog w A R s h=>by
  obtain⟨hp,g,d,tk,os⟩:=s;obtain⟨hl,h⟩:=h;have hz:(hp.push { cls:=.type "list_iterator",data:=.fields #[.ref l,.int 0 0] }).objs.size=hp.objs.size+1:=size_push ..;have hsub:=sub_enumerate;have fin:∀{S:Shared},R (.ok (.ret (.ref (hp.objs.size+1)))) S→R (.ok (.ret (.ref (hp.push { cls:=.type "list_iterator",data:=.fields #[.ref l,.int 0 0] }).objs.size))) S:=fun z=>by rw[hz];exact z
  have hL:Heap.IsList (Shared.heap ⟨hp,g,d,tk,os⟩) l items:=⟨_,hl,rfl,n,rfl⟩
  wp_walk using wpAny_loadPart' hl
  refine wpAny_stack_any fun st=>wpAny_pure ?_;split
  ·rename_i c _ _ _ _ _;cases (c==Value.type "enumerate")
   ·wp_walk using wpAny_loadPart' hl,wpAny_pyIter_list hL
    exact⟨_,rfl,fin h⟩
   ·wp_walk using wpAny_loadPart' hl,wpAny_pyIter_list hL
    exact⟨_,rfl,fin h⟩
  ·wp_walk using wpAny_loadPart' hl,wpAny_pyIter_list hL
   exact⟨_,rfl,fin h⟩
theorem Lq{self:Value}{rest:List Value}{kw:List (Str×Value)}:Meets (Builtin.«object.__init__» ⟨self::rest,kw⟩) (fun _ R s=>s.TypeIs self "enumerate"∧R (.ok (.ret .none)) s):=by
 have hl:=(F.called_enumerate).init.lookup;have hm:=(F.called_enumerate).made;have hne:(some "enumerate.__new__" != some "object.__new__")=true:=by decide
 refine Meets.of_wp fun prog w A R s ⟨hT,hq⟩=>?_;cases hb:(!rest.isEmpty||!kw.isEmpty) with
 |false=>
  unfold Builtin.«object.__init__»;simp only[hb];exact wpAny_pure ⟨_,rfl,hq⟩
 |true=>
  unfold Builtin.«object.__init__»;simp only[hb]
  repeat (any_goals (first|assumption|wp_step))
  exact⟨_,rfl,hq⟩
section
variable{prog:Program}{w:World}{A:Around}{E:Value→Shared→Prop}{s:Shared}
theorem Lr{l:Addr}{items:Array Value}{t:PySem.Tok}{Q:Value→Shared→Prop}(hL:s.heap.IsList l items)(h:∀h',IsEnum h' (s.heap.objs.size+1) s.heap.objs.size 1 .none→h'.IsListIter s.heap.objs.size l 0→(∀b o,s.heap.get? b=some o→h'.get? b=some o)→Q (.ref (s.heap.objs.size+1)) { s with heap:=h' }) :
  wpAny (model prog w) A (call (.type "enumerate") [.ref l] [("start",.int 1 t)]) Q E s:=by
 obtain⟨⟨c,dct,dt,sl⟩,hl,hc,n,hd⟩:=hL;obtain rfl:c=.type "list":=hc;obtain rfl:dt=.seq items n:=hd;have ft:=F.called_enumerate;obtain⟨c0,tl,hmro⟩:=ft.mro;have hmade:=ft.made;have hsub:=ft.sub;have h1:=ft.notType;have h2:=ft.canCreate;have hct:checkTypeCall "enumerate" ⟨[.ref l],[("start",.int 1 t)]⟩=pure ():=by kernel_rfl
 have hcn:checkBuiltinCall "enumerate.__new__" ⟨[.type "enumerate",.ref l],[("start",.int 1 t)]⟩=pure ():=by kernel_rfl
 refine wpAny_call (codeAny_of_tree (show wpAny _ _ (callAny (.type "enumerate") _) _ _ _ from wpAny_pure ⟨Code.quiet_builtin _ (by decide +kernel),codeAny_builtin F.entry_type_call ?_⟩));rw[Around.under_plain (weight_type_call_type "enumerate" [.ref l] [("start",.int 1 t)]) (units_type_call_type "enumerate" [.ref l] [("start",.int 1 t)])]
 repeat (any_goals (first|assumption|wp_step))
 have hz:(s.heap.push { cls:=.type "list_iterator",data:=.fields #[.ref l,.int 0 0] }).objs.size=s.heap.objs.size+1:=size_push ..;have he:IsEnum ((s.heap.push { cls:=.type "list_iterator",data:=.fields #[.ref l,.int 0 0] }).push { cls:=.type "enumerate",data:=.fields #[.none,.bool false,.ref s.heap.objs.size,rawInt 1,.none,.none] }) (s.heap.objs.size+1) s.heap.objs.size 1 .none:=by
  rw[←hz];exact get?_push_size _ rfl
 have hq:=h _ he ⟨_,get?_push_of_some _ (get?_push_size _ rfl),rfl,rfl⟩ fun b o x=>get?_push_of_some _ (get?_push_of_some _ x);have hok:argsOk "object.__init__" ⟨[.ref (s.heap.objs.size+1),.ref l],[("start",.int 1 t)]⟩:=by
  unfold argsOk;rw[signature?_of (id:="object.__init__") (n:=['_','_','t','i','n','i','_','_']) (o:=['t','c','e','j','b','o']) (by kernel_rfl) F.owner_object];kernel_rfl
 generalize hS:({ s with heap:=(s.heap.push { cls:=.type "list_iterator",data:=.fields #[.ref l,.int 0 0] }).push { cls:=.type "enumerate",data:=.fields #[.none,.bool false,.ref s.heap.objs.size,rawInt 1,.none,.none] } }:Shared)=S1 at hq;have hT:S1.TypeIs (.ref (s.heap.objs.size+1)) "enumerate":=by rw[←hS];exact⟨_,he,rfl⟩
 refine codeAny_mono (codeAny_call_builtin ft.plain F.entry_enumerate_new (wpAny_of_eq hcn (Rf l items n dct sl t prog w A.in1 (wants (fun v s'=>v=.ref (s.heap.objs.size+1)∧s'=S1) E) s ⟨hl,rfl,hS⟩))) fun r s1 hr=>?_
 match r,hr with
 | .error e,hr=>exact hr
 | .ok .next,hr=>exact hr.elim
 | .ok .brk,hr=>exact hr.elim
 | .ok .cont,hr=>exact hr.elim
 | .ok (.ret obj),hr=>
  obtain⟨rfl,rfl⟩:=hr;have hli:=ft.init.lookup;have hbi:=ft.init.bind (.ref (s.heap.objs.size+1))
  repeat (any_goals (first|assumption|wp_step))
  refine codeAny_mono (codeAny_call_builtin ft.init.plain F.entry_object_init (ft.init.check _ _ _ _ _ _ _ _ hT hok (Lq prog w A.in1 (wants (fun v s'=>v=.none∧Q (.ref (s.heap.objs.size+1)) s') E) _ ⟨hT,rfl,hq⟩))) fun r2 s2 hr2=>?_
  match r2,hr2 with
  | .error e,hr2=>exact hr2
  | .ok .next,hr2=>exact hr2.elim
  | .ok .brk,hr2=>exact hr2.elim
  | .ok .cont,hr2=>exact hr2.elim
  | .ok (.ret r),hr2=>
   obtain⟨rfl,hq2⟩:=hr2
   repeat (any_goals (first|assumption|wp_step))
end
theorem aaU{prog:Program}{w:World}{A:Around}{it l:Addr}{items:Array Value}(hh:A.handled=none):Draws prog w A it [it,l] (items.size+1) (fun j v=>items[j-1]?=some v) (fun j h=>1≤j∧h.IsListIter it l (j-1)∧h.IsList l items) where
 live:=fun j h st=>let ⟨_,⟨o,ho,_⟩,_⟩:=st;⟨o,ho⟩
 frame:=fun j h h' st k=>let ⟨j1,⟨o,ho,r⟩,⟨o',ho',r'⟩⟩:=st;⟨j1,⟨o,k it (by simp) o ho,r⟩,⟨o',k l (by simp) o' ho',r'⟩⟩
 item:=fun j s Q E hj st hQ=>by
  obtain⟨j1,hit,hl⟩:=st;have hx:items[j-1]?=some (items[j-1]'(by omega)):=Array.getElem?_eq_getElem _;have hne:l≠it:=fun z=>by
   obtain⟨o,ho,hc,_⟩:=hit;obtain⟨o',ho',hc',_⟩:=hl;rw[z,ho]at ho';cases ho';rw[hc]at hc';injection hc' with z2
   exact absurd z2 (by decide)
  refine wpAny_nextOf_list_item hit hl hx fun h' hit' sb=>hQ _ h' s.toks hx ⟨by omega,?_,?_⟩ sb
  ·have e:j+1-1=j-1+1:=by omega
   rw[e];exact hit'
  ·obtain⟨o',ho',r'⟩:=hl;exact⟨o',(sb.2 l hne).trans ho',r'⟩
 done:=fun s Q E st hE=>by
  obtain⟨j1,hit,hl⟩:=st;exact wpAny_nextOf_list_end hh hit hl (by simp) hE
theorem Ls{prog:Program}{w:World}{A:Around}{it l:Addr}{items:Array Value}{i:Nat}(hh:A.handled=none)(hx:items[i]?=none):Draws prog w A it [it,l] (i+1) (fun _ _=>False) (fun j h=>j=i+1∧h.IsListIter it l i∧h.IsList l items) where
 live:=fun j h st=>let ⟨_,⟨o,ho,_⟩,_⟩:=st;⟨o,ho⟩
 frame:=fun j h h' st k=>let ⟨j1,⟨o,ho,r⟩,⟨o',ho',r'⟩⟩:=st;⟨j1,⟨o,k it (by simp) o ho,r⟩,⟨o',k l (by simp) o' ho',r'⟩⟩
 item:=fun j s Q E hj st hQ=>absurd st.1 (by omega)
 done:=fun s Q E st hE=>wpAny_nextOf_list_end hh st.2.1 st.2.2 hx hE
def Vu(K:PySem.W.Frag)(a:Addr):It:=
 ⟨fun i H=>∃(xs:List V)(x:V),bJ K H a xs∧xs[i]?=some x,fun i H v H'=>∃T x,v=.ref T∧H T=none∧H'=upd H T (.tup [.int ((i+1:Nat):Int),x])∧∀xs,bJ K H a xs→xs[i]?=some x,fun i H=>∃xs:List V,bJ K H a xs∧xs.length≤i⟩
theorem Lw{P:Program}{w:World}{K:PySem.W.Frag}{elts:List Expr}{kk:Nat}{tpos:Pos}(a e it:Addr) :
  Turn P w K (.Tuple elts kk tpos) (Vu K a) [e,it] e (fun i h=>(∃old,IsEnum h e it ((i+1:Nat):Int) old)∧h.IsListIter it a i∧e≠it) where
 mem:=by simp
 obj:=fun i h st b hb=>by
  obtain⟨⟨old,he⟩,⟨o,ho,hc,hd⟩,_⟩:=st;have e':b=e∨b=it:=by simpa using hb
  rcases e' with z|z
  ·rw[z];exact⟨_,he,fun v q=>nomatch q⟩
  ·rw[z];exact⟨o,ho,fun v q=>by rw[hd]at q;cases q⟩
 keep:=fun i h h' st k=>let ⟨⟨old,he⟩,hi,hne⟩:=st;⟨⟨old,k e (by simp) _ he⟩,hi.at fun o q=>k it (by simp) o q,hne⟩
 item:=by
  intro X hP hw hK hc i pins s σ H E I hf st hg;subst hP hw hK;obtain⟨⟨old,he⟩,hit,hne⟩:=st;obtain⟨xs,x,hq,hx⟩:=hg;obtain⟨its,rv,p,hz⟩:=I.list hq;obtain⟨u,hu,ru⟩:=rv.get hx;have hel:e<s.heap.objs.size:=lt_size he;have hil:it<s.heap.objs.size:=by obtain⟨_,q,_⟩:=hit;exact lt_size q
  have hul:=(List.getElem?_eq_some_iff.mp hu).1;have hea:e≠a:=fun z=>by
   obtain⟨o',ho',hc',_⟩:=p.isList;rw[←z,he]at ho';cases ho';injection hc' with z2
   exact absurd z2 (by decide)
  refine wpAny_pyNext_enum_itemD (i:=i+1) (n:=its.toArray.size+1) (aaU (A:=X.A.in1) (items:=its.toArray) (I.ok.hd hc)) he ⟨by omega,hit,p.isList⟩ (by simp;omega) hne (by simp;exact⟨hne,hea⟩) fun y h' tk hy ho hst hT hsz hk=>?_;have ey:y=u:=by
   have hy':its.toArray[i]?=some y:=hy;have:its[i]?=some y:=by simpa using hy'
   rw[hu]at this;cases this;rfl
  subst ey;refine⟨_,rfl,wpAny_letOwnedTupleGo_enum (s:={ s with heap:=h',toks:=tk+1 }) ho fun h'' he' sb=>?_⟩;have hT2:h''.get? s.heap.objs.size=some { cls:=.type "tuple",data:=.seq #[.int ((i+1:Nat):Int) tk,y] }:=(sb.2 _ (ne_of_gt hel)).trans hT;have new:eZ X.prog X.w (upd H s.heap.objs.size (.tup [.int ((i+1:Nat):Int),x])) h'' s.heap.objs.size (.tup [.int ((i+1:Nat):Int),x]):=
   ⟨by show 2≤sizeLine;decide,[.int ((i+1:Nat):Int) tk,y],.cons ⟨_,rfl⟩ (.cons ru .nil),⟨_,hT2,rfl,_,rfl⟩⟩
  have I1:Inv X pins σ (upd H s.heap.objs.size (.tup [.int ((i+1:Nat):Int),x])) { s with heap:=h'',toks:=tk+1 }:=
   I.Cd (ch:=[e,it]) (fun b ob hb q=>(sb.2 b (fun z=>hb (by simp[z]))).trans (hk b ob (fun z=>hb (by simp[z])) (fun z=>hb (by simp[z])) q)) hf (le_refl _) new
  refine⟨.ref s.heap.objs.size,_,I1,rfl,⟨_,x,rfl,I.hok.fresh (le_refl _),rfl,fun ys hy=>by rw[I.tW hy hq];exact hx⟩,⟨⟨y,?_⟩,hst.2.1.at fun o q=>(sb.2 it (Ne.symm hne)).trans q,hne⟩,fun b hb=>?_⟩
  ·have e1:((i+1+1:Nat):Int)=((i+1:Nat):Int)+1:=by omega
   rw[e1];exact he'
  ·have hb':b<s.heap.objs.size:=by
    have e':b=e∨b=it:=by simpa using hb
    rcases e' with z|z
    ·rw[z];exact hel
    ·rw[z];exact hil
   rw[aj (ne_of_lt hb')];exact(hf b hb).1
 done:=by
  intro X hP hw hK hc i pins s σ H E I hf st hg;subst hP hw hK;obtain⟨⟨old,he⟩,hit,hne⟩:=st;obtain⟨xs,hq,hx⟩:=hg;obtain⟨its,rv,p,hz⟩:=I.list hq;obtain⟨f0,f1,f2,f3,f4,f5⟩:=hf it (by simp);have hl:=rv.length;exact wpAny_pyNext_enum_endD (Ls (A:=X.A.in1) (items:=its.toArray) (i:=i) (I.ok.hd hc) (by simp;omega)) he ⟨rfl,hit,p.isList⟩ fun h' eb=>⟨rfl,I.turned (t':=s.toks) (fun b o hb q=>eb b o hb q) f0 f1 f3 f4 f5⟩
 self:=fun A i s Q E st h=>let ⟨⟨_,he⟩,_⟩:=st;wpAny_pyIter_enum he h
def aaV(K:PySem.W.Frag)(ta:TA):TI:=fun σ H R=>ta σ H fun vs H1=>∃a xs,vs=[.ref a]∧bJ K H1 a xs∧R (Vu K a) H1
theorem wV{M:Model}{A:Around}{E:Value→Shared→Prop}{s:Shared}{env:Env}{pos:Pos}{T:String}{e:Expr}{kws:List Keyword}{Q:Value→Shared→Prop}(h:wpAny M A (spliced (backTo pos (starEach [e] env))) (fun vs s1=>wpAny M A (evalAll ((backToKw pos (keywordEach kws env)).map (·.2))) (fun kvs s2=>wpAny M A (call (.type T) vs (((backToKw pos (keywordEach kws env)).filterMap (·.1)).zip kvs)) Q E s2) E s1) E s)(he:backTo pos (starEach [e] env)=[(false,eval e env)]:=by rfl)(ha:(backToKw pos (keywordEach kws env)).all (·.1.isSome)=true:=by rfl)(hk:(backToKw pos (keywordEach kws env)).any (·.1.isNone)=false:=by rfl) :
  wpAny M A (callWith pos (.type T) [] (backTo pos (starEach [e] env)) (backToKw pos (keywordEach kws env))) Q E s:=by
 rw[he]at h ⊢;unfold callWith;refine wpAny_bind (wpAny_holding (wpAny_mono (evalArgs_kwB (Q:=fun a s1=>wpAny M A (call (.type T) a.pos a.kw) Q E s1) ha h) (fun a s1 h1=>wpAny_bind (wpAny_standAt ?_)) fun _ _ x=>x));simp only[hk,Bool.or_false,any_cons,List.any_nil,false_eq_true,if_false];refine wpAny_bind (wpAny_pure (wpAny_bind (wpAny_mono h1 (fun r s2 hr=>wpAny_bind (wpAny_holding (wpAny_point (wpAny_pure hr)))) fun _ _ x=>x)))
theorem Vv{X:Cx}{e:Expr}{ta:TA}{p pos tpos kp kp2:Pos}{elts:List Expr}{kk j:Nat}(hg:Gl X "enumerate")(hm:X.mg "enumerate"=none)(ha:PA X [e] ta)(hb:backTo pos (starEach [e] X.env)=[(false,eval e X.env)]:=by rfl) :
  PI X (.Tuple elts kk tpos) (.Call (.Name "enumerate" p) [e] [⟨some "start",.Constant (.int 1) j kp,kp2⟩] pos) (aaV X.K ta):=by
 intro pins s σ H R I h;refine wpAny_Call_Name_kw (rR I hg hm boot_enumerate (wV (dH (ha pos pins s σ H _ I h) fun us s1 ⟨vs,H1,I1,r1,q1⟩=>?_) hb));obtain⟨a,xs,ex,hq,q⟩:=q1;subst ex;cases r1 with
 |cons r rr=>
  cases rr;cases r;refine kws_cons (wpAny_Constant_int (kws_nil ?_));have I0:Inv X pins σ H1 { s1 with toks:=s1.toks+1 }:=I1.tok _;obtain⟨its,rv,p',hz⟩:=I0.list hq;refine Lr (s:={ s1 with toks:=s1.toks+1 }) p'.isList fun h' he hit hk=>wpAny_pyIter_enum he ?_;have I2:Inv X pins σ H1 { s1 with heap:=h',toks:=s1.toks+1 }:=I1.kept (t':=s1.toks+1) hk;refine⟨s1.heap.objs.size+1,[s1.heap.objs.size+1,s1.heap.objs.size],_,_,H1,rfl,I2,Lw a (s1.heap.objs.size+1) s1.heap.objs.size,⟨⟨.none,he⟩,hit,Nat.succ_ne_self _⟩,fun b hb=>?_,q⟩;have e':b=s1.heap.objs.size+1∨b=s1.heap.objs.size:=by simpa using hb
  have hle:s1.heap.objs.size≤b:=by
   rcases e' with z|z
   ·rw[z];exact le_add_right _ _
   ·rw[z];exact le_refl _
  exact I1.JN hle (I1.hok.fresh hle)
end Xc
namespace Pg
open PySem PySem.Spec PyProof.Rows L2 Xc Sp
def zV(l:List Int):List V:=l.map V.int
theorem dZ(l:List Int):(zV l).length=l.length:=length_map _
def Vw:Sp:=fun vs H Q _=>∃(n:Addr)(l:List Int)(p:Nat),vs=[.ref n,.int (p:Int)]∧H n=some (.lst (zV l))∧2≤p∧p≤1000∧Q (.int (dB l%(p:Int))) H
def Zc:Sp:=fun vs H Q _=>∃(n:Int)(p:Nat),vs=[.int n,.int (p:Int)]∧Rb35.prime p=true∧p≤1000∧0≤n∧n<(p:Int)∧¬(p:Int)∣n∧Q (.int (wU p n:Int)) H
section
variable{P:Program}{w:World}{K:PySem.W.Frag}{mg:Str→Option Value}{base:Heap}{cs:Cs}
theorem xO:aH ["numbers","prime","result","number"] ["numbers","prime"] (au oR):=⟨rfl,rfl,rfl,by decide +kernel,rfl,by decide +kernel,by decide +kernel⟩
theorem Yn(T:bL K mg "product" oR):aX P w K mg base 1 "product" ["numbers","prime"] Vw:=by
 obtain⟨f,fd,F,hm⟩:=T.ex;refine⟨f,fd,hm,F.kp,F.binds (fun _ _ _ _ _ _ us hl=>match us,hl with | [_,_],_=>rfl),okN F xO (fun vs H Q E h=>?_) (fun cdv A outer s H vs Q E hr h=>?_)⟩
 ·obtain⟨n,l,p,rfl,_⟩:=h;rfl
 ·obtain⟨n,l,p,rfl,hn,hp,hp2,kq⟩:=h;refine⟨_,aq (aY (i:=2) xO.nd rfl (Or.inl rfl) aR) (aq (xZ PassesOwn.never rfl (eG (pv 0)) (bU (i:=3) xO.nd rfl (Or.inl rfl))
   (aC (aY (i:=2) xO.nd rfl (Or.inl rfl) (fj Dj (fj Di (pv 2) (pv 3)) (pv 1))))) (aC (aZ (pv 2)))),?_⟩
  refine⟨_,rfl,n,rfl,⟨_,bJ.of hn⟩,?_⟩;refine tY (xs:=zV l) (fun i σ H'=>(∃y,σ=[some (.ref n),some (.int (p:Int)),some (.int (dB (l.take i)%(p:Int))),y])∧H'=H) ⟨⟨none,?_⟩,rfl⟩ ?_ ?_ ?_
  ·rw[take_zero];have:dB []%(p:Int)=1:=Int.emod_eq_of_lt (by decide) (show (1:Int)<(p:Int) by omega);rw[this];rfl
  ·rintro i σ H' _ ⟨_,rfl⟩;exact bJ.of hn
  ·rintro i y σ H' hy ⟨⟨z,rfl⟩,rfl⟩;unfold zV at hy;rw[getElem?_map]at hy;cases hk:l[i]? with
   |none=>rw[hk]at hy;cases hy
   |some a=>
    rw[hk]at hy;cases hy;have m0:=emod_nonneg (dB (l.take i)) (by omega:(p:Int)≠0);have m1:=emod_lt_of_pos (dB (l.take i)) (by omega:(0:Int)<(p:Int));refine⟨_,rfl,_,rfl,_,_,rfl,rfl,.inl ⟨by omega,by omega⟩,_,rfl,_,_,rfl,rfl,by omega,⟨some (V.int a),?_⟩,rfl⟩;rw[take_succ,hk,toList_some,Lg,mul_emod (dB (l.take i)) a];show _=[_,_,some (V.int _),_];rw[←emod_emod (dB (l.take i)),←mul_emod,emod_emod];rfl
  ·rintro σ H' ⟨⟨z,rfl⟩,rfl⟩;rw[dZ,take_length];exact⟨_,rfl,kq⟩
theorem Lx:aH ["number","prime","found"] ["number","prime"] (au oU):=⟨rfl,rfl,rfl,by decide +kernel,rfl,by decide +kernel,by decide +kernel⟩
theorem aaW(T:bL K mg "inverse" oU):aX P w K mg base 1 "inverse" ["number","prime"] Zc:=by
 obtain⟨f,fd,F,hm⟩:=T.ex;refine⟨f,fd,hm,F.kp,F.binds (fun _ _ _ _ _ _ us hl=>match us,hl with | [_,_],_=>rfl),okN F Lx (fun vs H Q E h=>?_) (fun cdv A outer s H vs Q E hr h=>?_)⟩
 ·obtain⟨n,p,rfl,_⟩:=h;rfl
 ·obtain⟨n,p,rfl,hp,hp2,n0,n1,hnd,kq⟩:=h;have hp3:=cM hp;obtain⟨t,t1,t2,t3⟩:=En hp hnd;rw[Ep hp t2 t3]at kq;refine⟨_,aq (aY (i:=2) Lx.nd rfl (Or.inl rfl) aR) (aq (gG PassesOwn.never (aU yd (fj Dj (fj Di (pv 0) (pv 2)) (pv 1)) aR (bf _))
   (aC (Dg (i:=2) Lx.nd rfl (Or.inl rfl) aR Dh))) (aC (aZ (pv 2)))),?_⟩
  refine⟨fun m σ H'=>∃f:Nat,σ=[some (.int n),some (.int (p:Int)),some (.int (f:Int))]∧1≤f∧f≤t∧m=t-f∧H'=H,⟨_,1,rfl,le_refl _,t1,rfl,rfl⟩,?_⟩;rintro m σ H' ⟨f,rfl,f1,f2,rfl,rfl⟩;refine⟨_,rfl,_,rfl,_,_,rfl,rfl,.inl ⟨by omega,by omega⟩,_,rfl,_,_,rfl,rfl,by omega,rfl,_,rfl,bY (fun hc=>?_) fun hc=>?_⟩
  ·rw[iI]at hc;have h1:¬(n*(f:Int))%(p:Int)=1:=by simpa using hc
   have h2:f≠t:=fun z=>h1 (by rw[z];exact t3);refine⟨fun σ' H2=>∃m',m'<t-f∧∃f:Nat,σ'=[some (.int n),some (.int (p:Int)),some (.int (f:Int))]∧1≤f∧f≤t∧m'=t-f∧H2=H',fun _ _ z=>z,?_⟩;refine⟨_,rfl,_,_,rfl,rfl,t-(f+1),by omega,f+1,?_,by omega,by omega,rfl,rfl⟩;show _=[_,_,some (V.int ((f+1:Nat):Int))];rw[natCast_add];rfl
  ·rw[iI]at hc;have h1:(n*(f:Int))%(p:Int)=1:=by simpa using hc
   have h2:f=t:=inv_one hp (by omega) t2 h1 t3;subst h2;exact⟨_,rfl,kq⟩
end
def qF(H:Hp)(as:List Addr)(bZ:List (Nat×Nat)):Prop:=as.length=bZ.length∧∀(i:Nat)(a:Addr)(q:Nat×Nat),as[i]?=some a→bZ[i]?=some q→H a=some (.tup [.int (q.1:Int),.int (q.2:Int)])
theorem qF.same{H H':Hp}{as:List Addr}{bZ:List (Nat×Nat)}(h:qF H as bZ)(s:Same H H'):qF H' as bZ:=⟨h.1,fun i a q e e'=>s _ _ (h.2 i a q e e')⟩
theorem qF.take{H:Hp}{as:List Addr}{bZ:List (Nat×Nat)}(h:qF H as bZ)(k:Nat):qF H (as.take k) (bZ.take k):=⟨by rw[length_take,length_take,h.1],fun i a q e e'=>by
 have hi:i<k:=by
  have:=(List.getElem?_eq_some_iff.mp e).1;rw[length_take]at this;omega
 rw[List.getElem?_take_of_lt hi]at e e';exact h.2 i a q e e'⟩
theorem qF.drop{H:Hp}{as:List Addr}{bZ:List (Nat×Nat)}(h:qF H as bZ)(k:Nat):qF H (as.drop k) (bZ.drop k):=⟨by rw[length_drop,length_drop,h.1],fun i a q e e'=>by
 rw[List.getElem?_drop]at e e';exact h.2 _ a q e e'⟩
theorem qF.snoc{H:Hp}{as:List Addr}{bZ:List (Nat×Nat)}(h:qF H as bZ){a:Addr}{q:Nat×Nat}(ha:H a=some (.tup [.int (q.1:Int),.int (q.2:Int)])):qF H (as++[a]) (bZ++[q]):=by
 refine⟨by rw[length_append,length_append,h.1];rfl,fun i b r e e'=>?_⟩;by_cases hi:i<as.length
 ·rw[getElem?_append_left hi]at e;rw[getElem?_append_left (by rw[←h.1];exact hi)]at e';exact h.2 i b r e e'
 ·rw[getElem?_append_right (by omega)]at e;rw[getElem?_append_right (by rw[←h.1];omega),←h.1]at e';cases hj:i-as.length with
  |zero=>
   rw[hj]at e e';cases e;cases e';exact ha
  |succ n=>rw[hj]at e;simp at e
theorem qF.get{H:Hp}{as:List Addr}{bZ:List (Nat×Nat)}(h:qF H as bZ){i:Nat}{a:Addr}(e:as[i]?=some a):∃q,bZ[i]?=some q∧H a=some (.tup [.int (q.1:Int),.int (q.2:Int)]):=by
 have hi:=(List.getElem?_eq_some_iff.mp e).1;have hi':i<bZ.length:=by rw[←h.1];exact hi
 exact⟨bZ[i],getElem?_eq_getElem hi',h.2 i a _ e (getElem?_eq_getElem hi')⟩
theorem Ov{X:Cx}{K:PySem.W.Frag}(hK:X.K=K):IxR X (ab3 K):=hK▸ZG
theorem Vx(S h A v m:Int):(S%m+h*(A%m)*v)%m=(S+h*A*v)%m:=by
 have hS:S=m*(S / m)+S%m:=(Int.mul_ediv_add_emod S m).symm;have hA:A=m*(A / m)+A%m:=(Int.mul_ediv_add_emod A m).symm;have e:S+h*A*v=(S%m+h*(A%m)*v)+m*(S / m+h*(A / m)*v):=by
  have e1:h*A*v=m*(h*(A / m)*v)+h*(A%m)*v:=by
   conv=>lhs;rw[hA]
   rw[mul_add,Int.add_mul,Int.mul_left_comm,mul_assoc m]
  rw[e1,mul_add];omega
 rw[e,Int.add_mul_emod_self_left]
def Zd:Sp:=fun vs H Q _=>∃(pl:Addr)(as:List Addr)(bZ:List (Nat×Nat))(x:Int)(p:Nat),vs=[.ref pl,.int x,.int (p:Int)]∧H pl=some (.lst (as.map V.ref))∧qF H as bZ∧Er p bZ∧Rb35.prime p=true∧p≤1000∧as.length≤600∧∀H',Same H H'→Q (.int (pC p bZ x%(p:Int))) H'
section
variable{P:Program}{w:World}{K:PySem.W.Frag}{mg:Str→Option Value}{base:Heap}{cs:Cs}
theorem jd:aH ["points","x","prime","value","place","height","others","above","below","point","other"] ["points","x","prime"] (au cJ):=⟨rfl,rfl,rfl,by decide +kernel,rfl,by decide +kernel,by decide +kernel⟩
theorem aaX(T:bL K mg "value_through" cJ)(PR:aX P w K mg base 1 "product" ["numbers","prime"] Vw)(IV:aX P w K mg base 1 "inverse" ["number","prime"] Zc):aX P w K mg base 2 "value_through" ["points","x","prime"] Zd:=by
 obtain⟨f,fd,F,hm⟩:=T.ex;refine⟨f,fd,hm,F.kp,F.binds (fun _ _ _ _ _ _ us hl=>match us,hl with | [_,_,_],_=>rfl),okN F jd (fun vs H Q E h=>?_) (fun cdv A outer s H vs Q E hr h=>?_)⟩
 ·obtain⟨pl,as,bZ,x,p,rfl,_⟩:=h;rfl
 ·obtain⟨pl,as,bZ,x,p,rfl,hpl,hat,hP,hp,hp2,hz,kq⟩:=h;have hp3:=cM hp;have hpp:(p:Int)≠0:=by omega
  have hp0:(0:Int)<(p:Int):=by omega
  refine⟨_,aq (aY (i:=3) jd.nd rfl (Or.inl rfl) aR)
   (aq (xZ PassesOwn.never rfl (eG (pv 0)) (RX rfl (jt (bU (i:=4) jd.nd rfl (Or.inr rfl)) (jt (bU (i:=5) jd.nd rfl (Or.inl rfl)) w6)))
    (aq (Gh (i:=6) rfl jd.nd rfl rfl (Np rfl rfl rfl (by decide +kernel)) (eG (pv 0)) (cU (own:=[("point",9)]) (by show pN ["points","x","prime","value","place","height","others","above","below","point","other"] (au cJ) _ [("point",9)]=true;decide +kernel))
     (fun _ _ _ _ _=>bU (i:=9) jd.nd rfl (Or.inl rfl)) (fun _ _ _ _ _=>Dr (aU yd (fK (Ov (K:=K) rfl) (pv 9) aR (fun _ _=>rfl)) (pv 4) (bf _))) (fun _ _ _ _ _=>fK (Ov (K:=K) rfl) (pv 9) aR (fun _ _=>rfl)))
    (aq (aY (i:=7) jd.nd rfl (Or.inl rfl) (bN PR hr rfl aF (ak (lY rfl jd.nd (eG (pv 6)) (cU (own:=[("other",10)]) (by show pN ["points","x","prime","value","place","height","others","above","below","point","other"] (au cJ) _ [("other",10)]=true;decide +kernel))
     (fun _ _ _ _ _=>bU (i:=10) jd.nd rfl (Or.inl rfl)) (fun _ _ _ _ _=>gb) (fun _ _ _ _ _=>fj rW (pv 1) (pv 10))) (ak (pv 2) aA))))
    (aq (aY (i:=8) jd.nd rfl (Or.inl rfl) (bN PR hr rfl aF (ak (lY rfl jd.nd (eG (pv 6)) (cU (own:=[("other",10)]) (by show pN ["points","x","prime","value","place","height","others","above","below","point","other"] (au cJ) _ [("other",10)]=true;decide +kernel))
     (fun _ _ _ _ _=>bU (i:=10) jd.nd rfl (Or.inl rfl)) (fun _ _ _ _ _=>gb) (fun _ _ _ _ _=>fj rW (pv 4) (pv 10))) (ak (pv 2) aA))))
    (aC (aY (i:=3) jd.nd rfl (Or.inl rfl) (fj Dj (fj JV (pv 3) (fj Di (fj Di (pv 5) (pv 7)) (bN IV hr rfl aF (ak (pv 8) (ak (pv 2) aA))))) (pv 2))))))))
   (aC (aZ (pv 3)))),?_⟩
  refine⟨_,rfl,pl,rfl,⟨_,bJ.of hpl⟩,?_⟩;refine tY (xs:=as.map V.ref) (fun i σ H'=>(∃y4 y5 y6 y7 y8 y9 y10,σ=[some (.ref pl),some (.int x),some (.int (p:Int)),some (.int (((bZ.take i).map (term p bZ x)).sum%(p:Int))),y4,y5,y6,y7,y8,y9,y10])∧Same H H') ⟨⟨none,none,none,none,none,none,none,?_⟩,Same.refl _⟩ ?_ ?_ ?_
  ·rw[take_zero];have:(([]:List (Nat×Nat)).map (term p bZ x)).sum%(p:Int)=0:=Int.zero_emod _;rw[this];rfl
  ·rintro i σ H' _ ⟨_,s1⟩;exact bJ.of (s1 _ _ hpl)
  ·rintro i y σ H' hy ⟨⟨y4,y5,y6,y7,y8,y9,y10,rfl⟩,s1⟩;rw[getElem?_map]at hy;cases hk:as[i]? with
   |none=>rw[hk]at hy;cases hy
   |some a=>
    rw[hk]at hy;cases hy;obtain⟨q,hq,ha⟩:=hat.get hk;have hqm:=mem_of_getElem? hq;have hlt:=hP.lt q hqm;refine⟨a,_,rfl,tL.of (s1 _ _ ha),rfl,_,_,rfl,_,_,rfl,rfl,?_⟩;refine⟨_,rfl,pl,rfl,⟨_,bJ.of (s1 _ _ hpl)⟩,fun D1 hD1=>?_⟩;refine gZ (xs:=as.map V.ref) (fun j H2=>H2=upd H' D1 (.lst (zV (((bZ.take j).filter fun r=>r.1 != q.1).map fun r=>(r.1:Int))))) rfl ?_ ?_ ?_
    ·rintro j H2 _ rfl;exact bJ.of (by rw[aj (aB (s1 _ _ hpl) hD1)];exact s1 _ _ hpl)
    ·rintro j u H2 hu rfl;rw[getElem?_map]at hu;cases hk2:as[j]? with
     |none=>rw[hk2]at hu;cases hu
     |some b=>
      rw[hk2]at hu;cases hu;obtain⟨r,hr2,hb⟩:=hat.get hk2;have hj:=(List.getElem?_eq_some_iff.mp hk2).1;have hb2:(upd H' D1 (.lst (zV (((bZ.take j).filter fun r=>r.1 != q.1).map fun r=>(r.1:Int))))) b=some (.tup [.int (r.1:Int),.int (r.2:Int)]):=by rw[aj (aB (s1 _ _ hb) hD1)];exact s1 _ _ hb
      refine⟨rfl,_,rfl,b,_,0,_,rfl,rfl,tL.of hb2,at_of (j:=0) rfl rfl,_,rfl,rfl,_,rfl,bY (fun hc=>?_) fun hc=>?_⟩
      ·rw[iI]at hc;have hne:r.1≠q.1:=fun z=>by simp[z]at hc
       refine⟨_,rfl,b,_,0,_,rfl,rfl,tL.of hb2,at_of (j:=0) rfl rfl,_,ao,?_,?_⟩
       ·rw[dZ,length_map];refine lt_of_le_of_lt (length_filter_le _ _) ?_;rw[length_take];exact lt_of_le_of_lt (min_le_left _ _) (lt_of_lt_of_le hj (le_trans hz (by decide)))
       ·rw[gM,take_succ,hr2,toList_some,filter_append,filter_cons_of_pos (by simpa using hne),map_append];unfold zV;rw[map_append];rfl
      ·rw[iI]at hc;have he:r.1=q.1:=by
        have:((r.1:Nat):Int)=((q.1:Nat):Int):=by simpa using hc
        omega
       show _=_;rw[take_succ,hr2,toList_some,filter_append,filter_cons_of_neg (by simp[he])];simp
    ·rintro H2 rfl;have eo:zV (((bZ.take (as.map V.ref).length).filter fun r=>r.1 != q.1).map fun r=>(r.1:Int))=zV (oth bZ q.1):=by
      rw[length_map,hat.1,take_length];rfl
     rw[eo];have s2:Same H' (upd H' D1 (.lst (zV (oth bZ q.1)))):=fun c o z=>by rw[aj (aB z hD1)];exact z
     have Ly:(upd H' D1 (.lst (zV (oth bZ q.1)))) D1=some (.lst (zV (oth bZ q.1))):=ao;generalize upd H' D1 (.lst (zV (oth bZ q.1)))=H2 at s2 Ly;have hol:(oth bZ q.1).length≤600:=by
      unfold oth;rw[length_map];exact le_trans (length_filter_le _ _) (by rw[←hat.1];exact hz)
     refine⟨_,rfl,D1,rfl,⟨_,bJ.of Ly⟩,fun D2 hD2=>?_⟩;refine gZ (xs:=zV (oth bZ q.1)) (fun j H3=>H3=upd H2 D2 (.lst (zV (((oth bZ q.1).take j).map fun a=>x-a)))) rfl ?_ ?_ ?_
     ·rintro j H3 _ rfl;exact bJ.of (by rw[aj (aB Ly hD2)];exact Ly)
     ·rintro j u H3 hu rfl;unfold zV at hu;rw[getElem?_map]at hu;cases hk2:(oth bZ q.1)[j]? with
      |none=>rw[hk2]at hu;cases hu
      |some o=>
       rw[hk2]at hu;cases hu;have hj:=(List.getElem?_eq_some_iff.mp hk2).1;refine⟨rfl,_,rfl,_,rfl,_,_,rfl,rfl,_,ao,?_,?_⟩
       ·rw[dZ,length_map,length_take];exact lt_of_le_of_lt (min_le_left _ _) (lt_of_lt_of_le hj (le_trans hol (by decide)))
       ·rw[gM,take_succ,hk2,toList_some,map_append];unfold zV;rw[map_append];rfl
     ·rintro H3 rfl;rw[dZ,take_length];have s3:Same H2 (upd H2 D2 (.lst (zV ((oth bZ q.1).map fun a=>x-a)))):=fun c o z=>by rw[aj (aB z hD2)];exact z
      refine⟨_,rfl,D2,_,p,rfl,ao,hp3,hp2,?_⟩;generalize upd H2 D2 (.lst (zV ((oth bZ q.1).map fun a=>x-a)))=H4 at s3;refine⟨_,rfl,D1,rfl,⟨_,bJ.of (s3 _ _ Ly)⟩,fun D5 hD5=>?_⟩;refine gZ (xs:=zV (oth bZ q.1)) (fun j H3=>H3=upd H4 D5 (.lst (zV (((oth bZ q.1).take j).map fun a=>(q.1:Int)-a)))) rfl ?_ ?_ ?_
      ·rintro j H3 _ rfl;exact bJ.of (by rw[aj (aB (s3 _ _ Ly) hD5)];exact s3 _ _ Ly)
      ·rintro j u H3 hu rfl;unfold zV at hu;rw[getElem?_map]at hu;cases hk2:(oth bZ q.1)[j]? with
       |none=>rw[hk2]at hu;cases hu
       |some o=>
        rw[hk2]at hu;cases hu;have hj:=(List.getElem?_eq_some_iff.mp hk2).1;refine⟨rfl,_,rfl,_,rfl,_,_,rfl,rfl,_,ao,?_,?_⟩
        ·rw[dZ,length_map,length_take];exact lt_of_le_of_lt (min_le_left _ _) (lt_of_lt_of_le hj (le_trans hol (by decide)))
        ·rw[gM,take_succ,hk2,toList_some,map_append];unfold zV;rw[map_append];rfl
      ·rintro H3 rfl;rw[dZ,take_length];have s4:Same H4 (upd H4 D5 (.lst (zV ((oth bZ q.1).map fun a=>(q.1:Int)-a)))):=fun c o z=>by rw[aj (aB z hD5)];exact z
       refine⟨_,rfl,D5,_,p,rfl,ao,hp3,hp2,?_⟩;have adt:=hP.below hp hqm;have b0:=emod_nonneg (dB ((oth bZ q.1).map fun a=>(q.1:Int)-a)) hpp;have b1:=emod_lt_of_pos (dB ((oth bZ q.1).map fun a=>(q.1:Int)-a)) hp0;have hnd:¬(p:Int)∣dB ((oth bZ q.1).map fun a=>(q.1:Int)-a)%(p:Int):=fun z=>adt (Int.dvd_of_emod_eq_zero (by
        have:=Int.emod_eq_zero_of_dvd z
        rwa[emod_emod]at this))
       refine⟨_,rfl,_,rfl,_,rfl,_,_,rfl,rfl,.inl ⟨by omega,by omega⟩,_,rfl,_,rfl,_,p,rfl,hp,hp2,b0,b1,hnd,?_⟩;rw[Vs];have hiv:(wU p (dB ((oth bZ q.1).map fun a=>(q.1:Int)-a)):Int)<(p:Int):=by
        obtain⟨f,f1,f2,f3⟩:=En hp adt;rw[Ep hp f2 f3];omega
       refine⟨_,_,rfl,rfl,.inr ⟨by omega,by omega⟩,_,_,rfl,rfl,_,rfl,_,_,rfl,rfl,hp0,⟨some (.int (q.1:Int)),some (.int (q.2:Int)),some (.ref D1),some (.int (dB ((oth bZ q.1).map fun a=>x-a)%(p:Int))),some (.int (dB ((oth bZ q.1).map fun a=>(q.1:Int)-a)%(p:Int))),y9,y10,?_⟩,fun c o z=>s4 _ _ (s3 _ _ (s2 _ _ (s1 _ _ z)))⟩;have key:((((bZ.take i).map (term p bZ x)).sum%(p:Int))+(q.2:Int)*(dB ((oth bZ q.1).map fun a=>x-a)%(p:Int))*(wU p (dB ((oth bZ q.1).map fun a=>(q.1:Int)-a)):Int))%(p:Int)=((bZ.take (i+1)).map (term p bZ x)).sum%(p:Int):=by
        rw[take_succ,hq,toList_some,map_append,sum_append];show _=(_+(term p bZ x q+0))%(p:Int);rw[Int.add_zero];exact Vx _ _ _ _ _
       rw[←key];rfl
  ·rintro σ H' ⟨⟨y4,y5,y6,y7,y8,y9,y10,rfl⟩,s1⟩;rw[length_map,hat.1,take_length];exact⟨_,rfl,kq H' s1⟩
end
theorem Ew{X:Cx}{K:PySem.W.Frag}{pos:Pos}{es:List Expr}{k:Nat}{t:YH}{n:Nat}(hK:X.K=K)(hc:X.calm=true)(h:PGs X es t)(hn:(assignEach es X.env).length=n:=by rfl)(hst:(assignEach es X.env).findIdx? (·.1)=none:=by rfl):PG X (.Tuple es k pos) (abR K n t):=hK▸RX hc h hn hst
theorem Vy{K:PySem.W.Frag}{a:Addr}{xs:List V}{g:TG}{tt:TT}{te:TE}{vs:List Nat}{σ:L2.St}{H1:Hp}{D:Addr}{Qd:Hp→Prop}(Pv:Nat→Hp→Prop)(h0:Pv 0 (upd H1 D (.lst [])))(hl:∀i H,i≤xs.length→Pv i H→bJ K H a xs)(hs:∀i x T H,xs[i]?=some x→H T=none→Pv i H→g (.ref T) (wipe σ vs) (upd H T (.tup [.int ((i+1:Nat):Int),x])) fun σ2 H2=>wipe σ2 vs=wipe σ vs∧tt σ2 H2 fun b H3=>
   if b=true then te σ2 H3 fun y H4=>∃acc,H4 D=some (.lst acc)∧acc.length<sizeLine∧Pv (i+1) (upd H4 D (.lst (acc++[y]))) else Pv (i+1) H3)(hd:∀H,Pv xs.length H→Qd H) :
  ∃W:Nat→Nat→Hp→Prop,(∃m,W 0 m (upd H1 D (.lst [])))∧∀i m H,W i m H →
   ((Vu K a).stop i H∧Qd H)∨((Vu K a).go i H∧∃Nx:Hp→Prop,(∀H',Nx H'→∃m',m'<m∧W (i+1) m' H')∧∀x H',(Vu K a).Wq i H x H'→g x (wipe σ vs) H' fun σ2 H2=>wipe σ2 vs=wipe σ vs∧tt σ2 H2 fun b H3=>
    if b=true then te σ2 H3 fun y H4=>∃acc,H4 D=some (.lst acc)∧acc.length<sizeLine∧Nx (upd H4 D (.lst (acc++[y]))) else Nx H3):=by
 refine⟨fun i m H=>m=xs.length-i∧i≤xs.length∧Pv i H,⟨xs.length,by simp,zero_le _,h0⟩,?_⟩;rintro i m H ⟨rfl,hi,p⟩;have q:=hl i H hi p;by_cases hlt:i<xs.length
 ·refine .inr ⟨⟨xs,xs[i],q,getElem?_eq_getElem hlt⟩,Pv (i+1),fun H' p'=>⟨xs.length-(i+1),by omega,rfl,hlt,p'⟩,fun x H' y=>?_⟩;obtain⟨T,v,e1,hT,e2,hv⟩:=y;subst e1 e2;exact hs i v T H (hv xs q) hT p
 ·have e:i=xs.length:=by omega
  subst e;exact .inl ⟨⟨xs,q,le_refl _⟩,hd H p⟩
theorem Vz(xs:List V)(k:Nat):FT xs none (some (k:Int))=xs.take k:=by
 unfold FT;rw[HT.FQ,HT.xg,List.drop_zero,Nat.sub_zero,List.take_eq_take_iff];omega
theorem Jo(xs:List V)(k:Nat):FT xs (some (k:Int)) none=xs.drop k:=by
 unfold FT;rw[HT.FQ,HT.xg];by_cases h:k≤xs.length
 ·rw[min_eq_left h,take_of_length_le (by rw[length_drop];omega)]
 ·rw[List.drop_eq_nil_of_le (by omega),List.drop_eq_nil_of_le (by omega)];simp
theorem Ac(v:Int):∀(l:List Int)(x:Nat),bD (l++[v]) x=bD l x++(if v=-6 then [] else [(x+l.length,v.toNat)])
 | [],x=>by
  show (if v=-6 then bD [] (x+1) else (x,v.toNat)::bD [] (x+1))=_;split<;>simp[bD]
 |u::l,x=>by
  rw[List.cons_append,bD,bD,Ac v l (x+1),length_cons];have e:x+1+l.length=x+(l.length+1):=by omega
  rw[e];split
  ·rfl
  ·rw[List.cons_append]
theorem adu(a:Int)(l:List Int):inV (V.int a) (zV l)=decide (a∈l):=by
 unfold inV zV;rw[Bool.eq_iff_iff,any_eq_true,decide_eq_true_iff];constructor
 ·rintro⟨x,hx,e⟩;obtain⟨b,hb,rfl⟩:=mem_map.mp hx;have:b=a:=by simpa[Wt] using e
  rw[←this];exact hb
 ·intro h;exact⟨_,mem_map.mpr ⟨a,h,rfl⟩,by simp[Wt]⟩
theorem Yo(l:List Int):(zV l).all uf=true:=by
 unfold zV;rw[all_eq_true];intro x hx;obtain⟨b,_,rfl⟩:=mem_map.mp hx;rfl
def Ow:Sp:=fun vs H Q _=>∃(fl:Addr)(vals:List Int)(k p:Nat),vs=[.ref fl,.int (k:Int),.int (p:Int)]∧H fl=some (.lst (zV vals))∧Rb35.prime p=true∧p≤1000∧(∀v∈vals,Vd p v)∧vals.length<p∧vals.length≤600∧∀H',Same H H'→Q (.int (gK p k vals)) H'
section
variable{P:Program}{w:World}{K:PySem.W.Frag}{mg:Str→Option Value}{base:Heap}{cs:Cs}
theorem jE:aH ["found","asked","prime","points","first","x","value"] ["found","asked","prime"] (au dj):=⟨rfl,rfl,rfl,by decide +kernel,rfl,by decide +kernel,by decide +kernel⟩
theorem VB(T:bL K mg "found_of_node" dj)(Rg:∃t,mg "NO_SECRET"=some (.int (-4) t))(VD:∃t,mg "MANY_SECRETS"=some (.int (-6) t))(hen:mg "enumerate"=none)(hlen:mg "len"=none)(hany:mg "any"=none)(VT:aX P w K mg base 2 "value_through" ["points","x","prime"] Zd):aX P w K mg base 3 "found_of_node" ["found","asked","prime"] Ow:=by
 obtain⟨f,fd,F,hm⟩:=T.ex;obtain⟨tn,Rg⟩:=Rg;obtain⟨tm,VD⟩:=VD;refine⟨f,fd,hm,F.kp,F.binds (fun _ _ _ _ _ _ us hl=>match us,hl with | [_,_,_],_=>rfl),okN F jE (fun vs H Q E h=>?_) (fun cdv A outer s H vs Q E hr h=>?_)⟩
 ·obtain⟨fl,vals,k,p,rfl,_⟩:=h;rfl
 ·obtain⟨fl,vals,k,p,rfl,hfl,hp,hp2,hv,hlp,hz,kq⟩:=h;refine⟨_,aq (dW (aU Qc (bh (v:=.int (-4)) (by rfl) Rg ⟨tn,rfl⟩) (pv 0) (by rfl)) (aC (aZ (bh (v:=.int (-4)) (by rfl) Rg ⟨tn,rfl⟩))) bW)
   (aq (Gh (i:=3) rfl jE.nd rfl rfl (Np rfl rfl rfl (by decide +kernel)) (Vv (by rfl) hen (ak (pv 0) aA)) (cU (own:=[("x",5),("value",6)]) (by show pN ["found","asked","prime","points","first","x","value"] (au dj) _ [("x",5),("value",6)]=true;decide +kernel))
    (fun _ _ _ _ _=>Ew (K:=K) (n:=2) rfl rfl (jt (bU (i:=5) jE.nd rfl (Or.inl rfl)) (jt (bU (i:=6) jE.nd rfl (Or.inl rfl)) w6))) (fun _ _ _ _ _=>Dr (aU yd (pv 6) (bh (v:=.int (-6)) (by rfl) VD ⟨tm,rfl⟩) (bf _))) (fun _ _ _ _ _=>J1 (ak (pv 5) (ak (pv 6) aA))))
   (aq (dW (aU Bv (aQ aO (by rfl) hlen PySem.boot_len (ak (pv 3) aA)) (pv 1) (bf _)) (aC (aZ (bh (v:=.int (-6)) (by rfl) VD ⟨tm,rfl⟩))) bW)
   (aq (aY (i:=4) jE.nd rfl (Or.inr rfl) (pR xr (pv 3) xq (qK (pv 1))))
   (aq (dW (mL (aQ (Dq rfl) (by rfl) hany PyProof.Rows.boot_any (ak (lY rfl jE.nd (eG (pR xr (pv 3) (qK (pv 1)) xq)) (cU (own:=[("x",5),("value",6)]) (by show pN ["found","asked","prime","points","first","x","value"] (au dj) _ [("x",5),("value",6)]=true;decide +kernel))
    (fun _ _ _ _ _=>Ew (K:=K) (n:=2) rfl rfl (jt (bU (i:=5) jE.nd rfl (Or.inl rfl)) (jt (bU (i:=6) jE.nd rfl (Or.inl rfl)) w6))) (fun _ _ _ _ _=>gb) (fun _ _ _ _ _=>eN yd (bN (k:=2) VT hr (by rfl) aF (ak (pv 4) (ak (pv 5) (ak (pv 2) aA)))) (pv 6) (bf _))) aA))) (aC (aZ (bh (v:=.int (-4)) (by rfl) Rg ⟨tn,rfl⟩))) bW)
   (aC (aZ (bN VT hr rfl aF (ak (pv 4) (ak aR (ak (pv 2) aA)))))))))),?_⟩
  refine⟨_,rfl,fl,_,rfl,.inl (bJ.of hfl),rfl,Yo _,_,rfl,?_⟩;show if inV (V.int (-4)) (zV vals)=true then _ else _
  rw[adu];refine bY (fun hc=>?_) fun hc=>?_
  ·have h1:=of_decide_eq_true hc;have e:gK p k vals=-4:=by unfold gK;rw[if_pos h1]
   have:=kq H (Same.refl _);rw[e]at this;exact this
  have h4:¬(-4:Int)∈vals:=fun z=>hc (decide_eq_true z);have hP:=Jj hlp hv h4;refine⟨_,rfl,fl,_,rfl,bJ.of hfl,fun D hD=>?_⟩;refine Vy (xs:=zV vals) (fun i H'=>∃as,H' D=some (.lst (as.map V.ref))∧qF H' as (bD (vals.take i) 1)∧(∀a∈as,a≠D)∧Same H H') ⟨[],ao,⟨rfl,fun i a q e=>by simp at e⟩,fun a ha=>by simp at ha,fun c o q=>by rw[aj (aB q hD)];exact q⟩ ?_ ?_ ?_
  ·rintro i H' _ ⟨as,_,_,_,s1⟩;exact bJ.of (s1 _ _ hfl)
  ·rintro i x T H' hx hT ⟨as,h1,h2,h3,s1⟩;unfold zV at hx;rw[getElem?_map]at hx;cases hk:vals[i]? with
   |none=>rw[hk]at hx;cases hx
   |some v=>
    rw[hk]at hx;cases hx;have hi:=(List.getElem?_eq_some_iff.mp hk).1;have hvm:=mem_of_getElem? hk;have hsn:bD (vals.take (i+1)) 1=bD (vals.take i) 1++(if v=-6 then [] else [(1+i,v.toNat)]):=by
     rw[take_succ,hk,toList_some,Ac,length_take,min_eq_left (le_of_lt hi)]
    have s2:Same H' (upd H' T (.tup [.int ((i+1:Nat):Int),.int v])):=fun c o q=>by rw[aj (aB q hT)];exact q
    refine⟨T,_,rfl,tL.of ao,rfl,_,_,rfl,_,_,rfl,rfl,rfl,_,rfl,rfl,_,rfl,?_⟩;generalize upd H' T (.tup [.int ((i+1:Nat):Int),.int v])=H2 at s2;rw[iI];refine bY (fun hc2=>?_) fun hc2=>?_
    ·have h6:¬v=-6:=by simpa using hc2
     rw[if_neg h6]at hsn;have hv0:((v.toNat:Nat):Int)=v:=by
      rcases hv v hvm with z|z|z
      ·exact absurd (z▸hvm) h4
      ·exact absurd z h6
      ·omega
     refine⟨_,rfl,_,rfl,by show 2≤sizeLine;decide,fun t ht=>?_⟩;have nD:D≠t:=aB (s2 _ _ h1) ht;refine⟨_,by rw[aj nD];exact s2 _ _ h1,?_,as++[t],?_,?_,?_,?_⟩
     ·rw[length_map,h2.1];have:(bD (vals.take i) 1).length≤600:=by
       have:∀(l:List Int)(x:Nat),(bD l x).length≤l.length:=fun l=>by
        induction l with
        |nil=>intro x;exact le_refl _
        |cons a l ih=>
         intro x;rw[bD];split
         ·exact le_succ_of_le (ih _)
         ·exact Nat.succ_le_succ (ih _)
       refine le_trans (this _ _) ?_;rw[length_take];omega
      exact lt_of_le_of_lt this (by decide)
     ·rw[ao,map_append];rfl
     ·rw[hsn];have hk2:qF (upd (upd H2 t (.tup [.int ((i+1:Nat):Int),.int v])) D (.lst (as.map V.ref++[.ref t]))) as (bD (vals.take i) 1):=⟨h2.1,fun j b q e e'=>by
       have hb:=h2.2 j b q e e';rw[aj (h3 b (mem_of_getElem? e)),aj (aB (s2 _ _ hb) ht)];exact s2 _ _ hb⟩
      refine hk2.snoc ?_;rw[aj nD.symm,ao];show some (HO.tup [.int ((i+1:Nat):Int),.int v])=some (HO.tup [.int ((1+i:Nat):Int),.int ((v.toNat:Nat):Int)]);rw[hv0,Nat.add_comm]
     ·intro b hb;rcases mem_append.mp hb with z|z
      ·exact h3 b z
      ·simp at z;rw[z];exact nD.symm
     ·intro c o q;rw[aj (aB q hD),aj (aB (s2 _ _ (s1 _ _ q)) ht)];exact s2 _ _ (s1 _ _ q)
    ·have h6:v=-6:=by simpa using hc2
     rw[if_pos h6,append_nil]at hsn;exact⟨as,s2 _ _ h1,by rw[hsn];exact h2.same s2,h3,s1.trans s2⟩
  rintro H1 ⟨as,h1,h2,h3,s1⟩;rw[dZ,take_length]at h2;have has:as.length≤600:=by
   rw[h2.1];have:∀(l:List Int)(x:Nat),(bD l x).length≤l.length:=fun l=>by
    induction l with
    |nil=>intro x;exact le_refl _
    |cons a l ih=>
     intro x;rw[bD];split
     ·exact le_succ_of_le (ih _)
     ·exact Nat.succ_le_succ (ih _)
   exact le_trans (this _ _) hz
  refine⟨_,rfl,_,_,rfl,.inl (bJ.of h1),_,rfl,_,_,rfl,rfl,_,rfl,bY (fun hc2=>?_) fun hc2=>?_⟩
  ·have hlt:=of_decide_eq_true hc2;rw[length_map,h2.1]at hlt;have e:gK p k vals=-6:=by unfold gK;rw[if_neg h4,if_pos (by omega)]
   have:=kq H1 s1;rw[e]at this;exact this
  have hge:¬(bD vals 1).length<k:=fun z=>hc2 (decide_eq_true (by rw[length_map,h2.1];omega));refine⟨_,rfl,_,rfl,_,rfl,D,_,rfl,bJ.of h1,fun F1 hF1=>?_⟩;rw[Vz,←map_take];have s2:Same H1 (upd H1 F1 (.lst ((as.take k).map V.ref))):=fun c o q=>by rw[aj (aB q hF1)];exact q
  have hF:(upd H1 F1 (.lst ((as.take k).map V.ref))) F1=some (.lst ((as.take k).map V.ref)):=ao;generalize upd H1 F1 (.lst ((as.take k).map V.ref))=H2 at s2 hF;have P1:=hP.take k;have hat:=(h2.take k).same s2;have htl:(as.take k).length≤600:=by rw[length_take];omega
  refine⟨_,rfl,_,rfl,_,rfl,D,_,rfl,bJ.of (s2 _ _ h1),fun F2 hF2=>?_⟩;rw[Jo,←map_drop];have s3:Same H2 (upd H2 F2 (.lst ((as.drop k).map V.ref))):=fun c o q=>by rw[aj (aB q hF2)];exact q
  have hG:(upd H2 F2 (.lst ((as.drop k).map V.ref))) F2=some (.lst ((as.drop k).map V.ref)):=ao;refine⟨F2,rfl,⟨_,bJ.of hG⟩,fun D3 hD3=>?_⟩;generalize upd H2 F2 (.lst ((as.drop k).map V.ref))=H3 at s3 hG hD3;have hdr:=((h2.drop k).same s2).same s3;refine gZ (xs:=(as.drop k).map V.ref) (fun j H'=>H' D3=some (.lst (((((bD vals 1).drop k).take j).map fun q=>!decide (pC p ((bD vals 1).take k) (q.1:Int)%(p:Int)=(q.2:Int))).map V.bl))∧Same H3 H') ⟨ao,fun c o q=>by rw[aj (aB q hD3)];exact q⟩ ?_ ?_ ?_
  ·rintro j H' _ ⟨_,s4⟩;exact bJ.of (s4 _ _ hG)
  ·rintro j y H' hy ⟨hl,s4⟩;rw[getElem?_map]at hy;cases hk:(as.drop k)[j]? with
   |none=>rw[hk]at hy;cases hy
   |some a=>
    rw[hk]at hy;cases hy;obtain⟨q,hq,ha⟩:=hdr.get hk;have hj:=(List.getElem?_eq_some_iff.mp hk).1;rw[length_drop]at hj;refine⟨a,_,rfl,tL.of (s4 _ _ ha),rfl,_,_,rfl,_,_,rfl,rfl,rfl,?_⟩;refine⟨_,rfl,_,rfl,_,rfl,F1,as.take k,(bD vals 1).take k,(q.1:Int),p,rfl,s4 _ _ (s3 _ _ hF),(hat.same s3).same s4,P1,hp,hp2,htl,fun H5 s5=>?_⟩;refine⟨_,rfl,rfl,_,s5 _ _ hl,?_,?_,fun c o z=>?_⟩
    ·rw[length_map,length_map,length_take];exact lt_of_le_of_lt (min_le_left _ _) (lt_trans (show j<601 by omega) (by decide))
    ·rw[ao,take_succ,hq,toList_some,map_append,map_append];show some (HO.lst (_++[V.bl (!decide (V.int _=V.int _))]))=_;rw[iI];rfl
    ·rw[aj (aB z hD3)];exact s5 _ _ (s4 _ _ z)
  ·rintro H' ⟨hl,s4⟩;have el:((bD vals 1).drop k).take ((as.drop k).map V.ref).length=(bD vals 1).drop k:=take_of_length_le (by rw[length_map,hdr.1];exact le_refl _);rw[el]at hl;have s5:Same H H':=s1.trans (s2.trans (s3.trans s4));refine⟨D3,_,rfl,bJ.of hl,_,rfl,bY (fun hc3=>?_) fun hc3=>?_⟩
   ·have ha:((bD vals 1).drop k).any (fun q=>!decide (pC p ((bD vals 1).take k) (q.1:Int)%(p:Int)=(q.2:Int)))=true:=by
     obtain⟨b,hb,hb2⟩:=any_eq_true.mp hc3;obtain⟨q,hq,rfl⟩:=mem_map.mp hb;exact any_eq_true.mpr ⟨q,hq,hb2⟩
    have e:gK p k vals=-4:=by unfold gK;rw[if_neg h4,if_neg hge,if_pos ha]
    have:=kq H' s5;rw[e]at this;exact this
   ·have ha:¬((bD vals 1).drop k).any (fun q=>!decide (pC p ((bD vals 1).take k) (q.1:Int)%(p:Int)=(q.2:Int)))=true:=fun z=>by
     obtain⟨q,hq,hq2⟩:=any_eq_true.mp z;exact hc3 (any_eq_true.mpr ⟨_,mem_map.mpr ⟨q,hq,rfl⟩,hq2⟩)
    have e:gK p k vals=pC p ((bD vals 1).take k) 0%(p:Int):=by unfold gK;rw[if_neg h4,if_neg hge,if_neg ha]
    refine⟨_,rfl,_,rfl,F1,as.take k,(bD vals 1).take k,0,p,rfl,s4 _ _ (s3 _ _ hF),(hat.same s3).same s4,P1,hp,hp2,htl,fun H6 s6=>?_⟩;have:=kq H6 (s5.trans s6);rw[e]at this;exact this
end
end Pg
namespace Sp
open Rb35
def Jp:Form→Nat
 | .one _=>1
 | .some_ _ l=>1+Ox l
where Ox:Forms→Nat
 | .nil=>0
 | .cons f l=>Jp f+Ox l
theorem rA:∀l:List Form,Jp.Ox (jG l)=(l.map Jp).sum
 | []=>rfl
 |f::l=>by rw[jG,Jp.Ox,rA l];rfl
theorem tD{P:Nat}(ns:List aG)(ok:Good P ns):∀i,i<P+ns.length→1≤(leaves (den P ns i)).length:=by
 induction ns using snocInd with
 |h0=>
  intro i hi;rw[eU [] (by simpa using hi)];exact le_refl _
 |h1 l a ih=>
  obtain⟨g1,g2,g3,g4⟩:=ok.init;intro i hi;by_cases hl:i<P+l.length
  ·rw[ig [a] hl];exact ih g1 i hl
  ·have e:i=P+l.length:=by rw[length_append]at hi;simp at hi;omega
   subst e;rw[oK];show 1≤(leavesIn (jG _)).length;rw[cW,map_map];cases h:a.2 with
   |nil=>rw[h]at g4;simp at g4;omega
   |cons x t=>
    rw[map_cons,sum_cons];have:=ih g1 x (g2 x (by rw[h];simp));show 1≤(leaves (den P l x)).length+_;omega
theorem Jq{α:Type}(f g:α→Nat):∀l:List α,(∀x∈l,f x≤g x)→(l.map f).sum≤(l.map g).sum
 | [],_=>le_refl _
 |a::l,h=>by
  rw[map_cons,map_cons,sum_cons,sum_cons];have h1:=h a (by simp);have h2:=Jq f g l fun x hx=>h x (by simp[hx]);omega
theorem Oz{α:Type}(f g:α→Nat)(a b:Nat):∀l:List α,(l.map fun x=>a*f x+b*g x).sum=a*(l.map f).sum+b*(l.map g).sum
 | []=>by simp
 |x::l=>by
  rw[map_cons,map_cons,map_cons,sum_cons,sum_cons,sum_cons,Oz f g a b l,Nat.mul_add,Nat.mul_add];omega
section
variable{P:Nat}(names:List Bytes)(tu:Bool)
theorem aaY(ns:List aG)(ok:Good P ns):∀i,i<P+ns.length→Jp (den P ns i)≤(leaves (den P ns i)).length*(ns.length+1):=by
 induction ns using snocInd with
 |h0=>
  intro i hi;rw[eU [] (by simpa using hi)];exact le_refl _
 |h1 l a ih=>
  obtain⟨g1,g2,g3,g4⟩:=ok.init;intro i hi;have hle:(l++[a]).length+1=(l.length+1)+1:=by simp
  by_cases hl:i<P+l.length
  ·rw[ig [a] hl,hle];exact le_trans (ih g1 i hl) (Nat.mul_le_mul_left _ (le_succ _))
  ·have e:i=P+l.length:=by rw[length_append]at hi;simp at hi;omega
   subst e;have hp:=tD _ ok (P+l.length) hi;rw[hle,Nat.mul_succ];rw[oK]at hp ⊢;have e1:Jp (.some_ a.1 (jG (a.2.map (den P l))))=1+((a.2.map (den P l)).map Jp).sum:=by rw[Jp,rA]
   have e2:(leaves (.some_ a.1 (jG (a.2.map (den P l))))).length=((a.2.map (den P l)).map fun f=>(leaves f).length).sum:=cW _;have h1:=Jq Jp (fun f=>(l.length+1)*(leaves f).length+0*0) (a.2.map (den P l)) fun f hf=>by
    obtain⟨j,hj,rfl⟩:=mem_map.mp hf;have:=ih g1 j (g2 j hj);rw[mul_comm]at this;show _≤(l.length+1)*(leaves (den P l j)).length+0*0;omega
   rw[Oz (fun f=>(leaves f).length) (fun _=>0) (l.length+1) 0,Nat.zero_mul,add_zero]at h1;rw[e2]at hp;rw[e1,e2,mul_comm];omega
end
def Rh(P:Nat)(ns:List aG):List (List Nat):=ns.foldl (fun d n=>d++[n.2.flatMap (fun i=>d.getD i [])++[d.length]]) ((List.range P).map fun i=>[i])
def so(P:Nat)(ns:List aG)(i:Nat):List Nat:=(Rh P ns).getD i []
theorem fmc{α β:Type}{f g:α→List β}:∀{l:List α},(∀x∈l,f x=g x)→l.flatMap f=l.flatMap g
 | [],_=>rfl
 |a::l,h=>by rw[flatMap_cons,flatMap_cons,h a (by simp),fmc fun x hx=>h x (by simp[hx])]
theorem Ae(P:Nat)(ns:List aG)(n:aG):Rh P (ns++[n])=Rh P ns++[n.2.flatMap (so P ns)++[(Rh P ns).length]]:=by
 unfold Rh;rw[foldl_append];rfl
theorem Af(P:Nat)(ns:List aG):(Rh P ns).length=P+ns.length:=by
 induction ns using snocInd with
 |h0=>simp[Rh]
 |h1 l a ih=>rw[Ae,length_append,ih,length_append];simp;omega
theorem Yp(P:Nat)(ns more:List aG):∃e,Rh P (ns++more)=Rh P ns++e:=by
 induction more using snocInd with
 |h0=>exact⟨[],by simp⟩
 |h1 l a ih=>
  obtain⟨e,he⟩:=ih;refine⟨e++[a.2.flatMap (so P (ns++l))++[(Rh P (ns++l)).length]],?_⟩;rw[←append_assoc,Ae,he,append_assoc]
theorem Lz{P:Nat}{ns:List aG}(more:List aG){i:Nat}(hi:i<P+ns.length):so P (ns++more) i=so P ns i:=by
 obtain⟨e,he⟩:=Yp P ns more;unfold so;rw[he,getD_eq_getElem?_getD,getD_eq_getElem?_getD,getElem?_append_left (by rw[Af];exact hi)]
theorem nZ{P:Nat}(ns:List aG){i:Nat}(hi:i<P):so P ns i=[i]:=by
 have h:=Lz (P:=P) (ns:=[]) ns (i:=i) (by simpa using hi);rw[nil_append]at h;rw[h];unfold so Rh;rw[foldl_nil,getD_eq_getElem?_getD,getElem?_map,List.getElem?_range hi];rfl
theorem uL{P:Nat}{ns:List aG}(ok:Good P ns){j:Nat}{n:aG}(h:ns[j]?=some n):so P ns (P+j)=n.2.flatMap (so P ns)++[P+j]:=by
 obtain⟨hj,e⟩:=List.getElem?_eq_some_iff.mp h;have hs:ns=(ns.take j++[n])++ns.drop (j+1):=by
  rw[←e,append_assoc,List.singleton_append,List.getElem_cons_drop,take_append_drop]
 have hl:(ns.take j).length=j:=by rw[length_take,min_eq_left (le_of_lt hj)]
 have g:=(ok j n h).1;have h1:so P ((ns.take j++[n])++ns.drop (j+1)) (P+j)=so P (ns.take j++[n]) (P+j):=Lz _ (by rw[length_append,hl];simp);rw[←hs]at h1;rw[h1];have h2:so P (ns.take j++[n]) (P+j)=n.2.flatMap (so P (ns.take j))++[P+j]:=by
  have hz:(Rh P (ns.take j)).length=P+j:=by rw[Af,hl]
  show (Rh P (ns.take j++[n])).getD (P+j) []=_;rw[Ae,getD_eq_getElem?_getD,getElem?_append_right (by omega),hz,sub_self];rfl
 rw[h2];congr 1;refine fmc fun i hi=>?_;have:=Lz (P:=P) (ns:=ns.take j) ([n]++ns.drop (j+1)) (i:=i) (by rw[hl];exact g i hi);rw[←append_assoc,←hs]at this;exact this.symm
theorem rO:∀l:List Form,leavesIn (jG l)=l.flatMap leaves
 | []=>rfl
 |f::l=>by rw[jG,leavesIn,rO l,flatMap_cons]
theorem wG{α β:Type}(q:β→Bool)(f:α→List β):∀l:List α,(l.flatMap f).filter q=l.flatMap fun x=>(f x).filter q
 | []=>rfl
 |a::l=>by rw[flatMap_cons,filter_append,wG q f l,flatMap_cons]
section
variable{P:Nat}{ns:List aG}(ok:Good P ns)
include ok
theorem xP{Pr:Nat→Prop}(h1:∀i,i<P→Pr i)(h2:∀j n,ns[j]?=some n→(∀i∈n.2,Pr i)→Pr (P+j)):∀i,i<P+ns.length→Pr i:=by
 intro i
 induction i using Nat.strongRecOn with
 |_ i ih=>
  intro hi;by_cases hp:i<P
  ·exact h1 i hp
  ·obtain⟨j,rfl⟩:∃j,i=P+j:=⟨i-P,by omega⟩;have hj:j<ns.length:=by omega
   have hn:ns[j]?=some ns[j]:=getElem?_eq_getElem hj;refine h2 j _ hn fun k hk=>?_;have:=(ok j _ hn).1 k hk;exact ih k this (by omega)
theorem CQ:∀i,i<P+ns.length→(so P ns i).filter (fun t=>decide (t<P))=leaves (den P ns i):=by
 refine xP ok (fun i hi=>?_) fun j n hn ih=>?_
 ·rw[nZ ns hi,eU ns hi,filter_cons_of_pos (by simpa using hi)];rfl
 ·rw[uL ok hn,jx ok hn,filter_append,filter_cons_of_neg (by simp),wG];show _++[]=leavesIn _;rw[append_nil,rO,List.flatMap_map];exact fmc fun i hi=>ih i hi
def stp(P:Nat)(ns:List aG)(p:Nat)(x:List Int×List Int)(t:Nat):List Int×List Int:=
 if t<P then (x.1++[x.2.headD (-6)],x.2.tail) else (x.1.take (x.1.length-(ns.getD (t-P) (0,[])).2.length)++[gK p (ns.getD (t-P) (0,[])).1 (x.1.drop (x.1.length-(ns.getD (t-P) (0,[])).2.length))],x.2)
omit ok in
theorem CV(p:Nat):∀(l:List Form)(h:List Int),(gV p (jG l) h).length=l.length
 | [],h=>rfl
 |f::l,h=>by rw[jG,gV,length_cons,CV p l,length_cons]
omit ok in
theorem Ag(p:Nat):∀(l:List Form)(h:List Int),gV p (jG l) (h.take (l.map fun f=>(leaves f).length).sum)=gV p (jG l) h
 | [],h=>rfl
 |f::l,h=>by
  rw[jG,gV,gV,map_cons,sum_cons,List.take_take,min_eq_left (le_add_right _ _),List.drop_take,Nat.add_sub_cancel_left,Ag p l]
theorem Jr(p:Nat):∀(l:List Nat),(∀i∈l,∀st h,(so P ns i).foldl (stp P ns p) (st,h)=(st++[CP p (den P ns i) (h.take (leaves (den P ns i)).length)],h.drop (leaves (den P ns i)).length)) →
  ∀st h,(l.flatMap (so P ns)).foldl (stp P ns p) (st,h)=(st++gV p (jG (l.map (den P ns))) h,h.drop (l.map fun i=>(leaves (den P ns i)).length).sum)
 | [],_,st,h=>by simp[gV,jG]
 |i::l,hl,st,h=>by
  rw[flatMap_cons,foldl_append,hl i (by simp),Jr p l (fun k hk=>hl k (by simp[hk])),map_cons,jG,gV,map_cons,sum_cons,List.drop_drop,append_assoc];rfl
theorem aaZ(p:Nat):∀i,i<P+ns.length→∀st h,(so P ns i).foldl (stp P ns p) (st,h)=(st++[CP p (den P ns i) (h.take (leaves (den P ns i)).length)],h.drop (leaves (den P ns i)).length):=by
 refine xP ok (fun i hi st h=>?_) fun j n hn ih st h=>?_
 ·rw[nZ ns hi,eU ns hi];show stp P ns p (st,h) i=_;unfold stp;rw[if_pos hi];show (st++[h.headD (-6)],h.tail)=(st++[(h.take 1).headD (-6)],h.drop 1);cases h<;>rfl
 ·rw[uL ok hn,foldl_append,Jr ok p n.2 ih,jx ok hn];show stp P ns p _ (P+j)=_;have hd:ns.getD (P+j-P) (0,[])=n:=by rw[Nat.add_sub_cancel_left,getD_eq_getElem?_getD,hn];rfl
  have hl:(gV p (jG (n.2.map (den P ns))) h).length=n.2.length:=by rw[CV,length_map]
  have e2:(leaves (.some_ n.1 (jG (n.2.map (den P ns))))).length=(n.2.map fun i=>(leaves (den P ns i)).length).sum:=by
   show (leavesIn _).length=_;rw[cW,map_map];rfl
  unfold stp;rw[if_neg (by omega),hd,e2];have e3:(st++gV p (jG (n.2.map (den P ns))) h).length-n.2.length=st.length:=by rw[length_append,hl];omega
  dsimp only;rw[e3,List.take_left,List.drop_left];congr 3;show gK p n.1 _=gK p n.1 _;have e4:(n.2.map fun i=>(leaves (den P ns i)).length).sum=((n.2.map (den P ns)).map fun f=>(leaves f).length).sum:=by rw[map_map];rfl
  rw[e4,Ag]
def Sf(P:Nat)(ns:List aG):List Nat→Nat→Nat→Prop
 | [],_,_=>True
 |t::r,a,b=>if t<P then 1≤b∧Sf P ns r (a+1) (b-1) else t<P+ns.length∧(ns.getD (t-P) (0,[])).2.length≤a∧Sf P ns r (a-(ns.getD (t-P) (0,[])).2.length+1) b
theorem OD:∀(l:List Nat),(∀i∈l,∀r a b,(leaves (den P ns i)).length≤b→Sf P ns r (a+1) (b-(leaves (den P ns i)).length)→Sf P ns (so P ns i++r) a b) →
  ∀r a b,(l.map fun i=>(leaves (den P ns i)).length).sum≤b→Sf P ns r (a+l.length) (b-(l.map fun i=>(leaves (den P ns i)).length).sum)→Sf P ns (l.flatMap (so P ns)++r) a b
 | [],_,r,a,b,_,h=>h
 |i::l,hl,r,a,b,hb,h=>by
  rw[map_cons,sum_cons]at hb h;rw[flatMap_cons,append_assoc];refine hl i (by simp) _ a b (by omega) (OD l (fun k hk=>hl k (by simp[hk])) r (a+1) _ (by omega) ?_);have e1:a+1+l.length=a+(i::l).length:=by rw[length_cons];omega
  have e2:b-(leaves (den P ns i)).length-(l.map fun i=>(leaves (den P ns i)).length).sum=b-((leaves (den P ns i)).length+(l.map fun i=>(leaves (den P ns i)).length).sum):=by omega
  rw[e1,e2];exact h
theorem adv:∀i,i<P+ns.length→∀r a b,(leaves (den P ns i)).length≤b→Sf P ns r (a+1) (b-(leaves (den P ns i)).length)→Sf P ns (so P ns i++r) a b:=by
 refine xP ok (fun i hi r a b hb h=>?_) fun j n hn ih r a b hb h=>?_
 ·rw[eU ns hi]at hb h;rw[nZ ns hi];show Sf P ns (i::r) a b;rw[Sf,if_pos hi];exact⟨hb,h⟩
 ·have e2:(leaves (den P ns (P+j))).length=(n.2.map fun i=>(leaves (den P ns i)).length).sum:=by
   rw[jx ok hn];show (leavesIn _).length=_;rw[cW,map_map];rfl
  rw[e2]at hb h;rw[uL ok hn,append_assoc];refine OD ok n.2 ih _ a b hb ?_;show Sf P ns ((P+j)::r) _ _;have hj:=(List.getElem?_eq_some_iff.mp hn).1;have hd:ns.getD (P+j-P) (0,[])=n:=by rw[Nat.add_sub_cancel_left,getD_eq_getElem?_getD,hn];rfl
  rw[Sf,if_neg (by omega),hd,Nat.add_sub_cancel];exact⟨by omega,by omega,h⟩
end
end Sp
namespace Pg
open PySem PySem.Spec PyProof.Rows L2 Xc Sp
theorem aa0{P:Nat}{ns:List aG}(ok:Good P ns):∀i,i<P+ns.length→(so P ns i).length=Jp (den P ns i):=by
 refine xP ok (fun i hi=>?_) fun j n hn ih=>?_
 ·rw[nZ ns hi,eU ns hi];rfl
 ·rw[uL ok hn,jx ok hn,length_append,Jp,rA,List.length_flatMap,map_map,Nat.add_comm];congr 1;exact congrArg List.sum (map_congr_left fun i hi=>ih i hi)
theorem LC{B:Bk}(good:Good B.P B.ns)(sz:Sz B){i:Nat}(hi:i<B.P+B.ns.length)(hl:(Rb35.leaves (den B.P B.ns i)).length≤24):(so B.P B.ns i).length≤1200000:=by
 rw[aa0 good i hi];have h1:=aaY B.ns good i hi;have h3:=sz.nd;have h4:(Rb35.leaves (den B.P B.ns i)).length*(B.ns.length+1)≤24*50000:=Nat.mul_le_mul hl (by omega);omega
def LK(P:Nat)(ns:List aG)(W:List Nat):Nat:=(W.map fun i=>(Rb35.leaves (den P ns i)).length).sum
def Yq(P:Nat)(ns:List aG)(W:List Nat):Nat:=(W.map fun i=>Jp (den P ns i)).sum
theorem xQ{P:Nat}{ns:List aG}(good:Good P ns):∀W:List Nat,(∀y∈W,y<P+ns.length)→W.length≤LK P ns W
 | [],_=>le_refl _
 |y::t,h=>by
  have h1:=xQ good t fun z hz=>h z (by simp[hz]);have h2:=tD ns good y (h y (by simp));unfold LK at h1 ⊢;rw[map_cons,sum_cons,length_cons];omega
def Ey(cs:Cs):Sp:=fun vs H Q _=>∃(b:Addr)(A:d8)(p:Nat)(B:Bk)(k:Nat),vs=[.ref b,.int (k:Int)]∧aV cs H b A p B∧Good B.P B.ns∧Sz B∧k<B.P+B.ns.length∧(Rb35.leaves (den B.P B.ns k)).length≤24 ∧
 ∀(D:Addr)(H':Hp),H' D=some (.lst (nV (so B.P B.ns k)))→H D=none→Same H H'→Q (.ref D) H'
def Js(cs:Cs):Sp:=fun vs H Q _=>∃(b:Addr)(A:d8)(p:Nat)(B:Bk)(k:Nat),vs=[.ref b,.int (k:Int)]∧aV cs H b A p B∧Good B.P B.ns∧Sz B∧k<B.P+B.ns.length∧(Rb35.leaves (den B.P B.ns k)).length≤24 ∧
 ∀(D:Addr)(H':Hp),H' D=some (.lst (nV (Rb35.leaves (den B.P B.ns k))))→Same H H'→Q (.ref D) H'
def StW(H:Hp)(b sl wl:Addr)(k:Nat)(B:Bk)(m:Nat)(σ:L2.St)(H':Hp):Prop:=
 ∃(W st:List Nat)(x4:Option V),σ=[some (.ref b),some (.int (k:Int)),some (.ref sl),some (.ref wl),x4]∧H' sl=some (.lst (nV st))∧H' wl=some (.lst (nV W))∧Same H H'∧(∀y∈W,y<B.P+B.ns.length)∧W.flatMap (so B.P B.ns)++st.reverse=so B.P B.ns k∧LK B.P B.ns W≤24∧m=Yq B.P B.ns W
section
variable{P:Program}{w:World}{K:PySem.W.Frag}{mg:Str→Option Value}{base:Heap}{cs:Cs}
theorem uM:aH ["book","formula","steps","waiting","step"] ["book","formula"] (au mC):=⟨rfl,rfl,rfl,by decide +kernel,rfl,by decide +kernel,by decide +kernel⟩
theorem VF(T:bL K mg "steps_of" mC)(gR:Cls K cs.boo)(naB:cG K cs.boo ["prime","people","nodes","lets","names"])(UW:Cls K cs.jm)(U0:cG K cs.jm ["asked","within"])(hlen:mg "len"=none)(IP:bw P w K mg base 1 cs.boo "is_person" ["self","formula"] (Om cs))(NO:bw P w K mg base 1 cs.boo "node_of" ["self","formula"] (zX cs)):aX P w K mg base 2 "steps_of" ["book","formula"] (Ey cs):=by
 obtain⟨f,fd,F,hm⟩:=T.ex;refine⟨f,fd,hm,F.kp,F.binds (fun _ _ _ _ _ _ us hl=>match us,hl with | [_,_],_=>rfl),okN F uM (fun vs H Q E h=>?_) (fun cdv A outer s0 H vs Q E hr h=>?_)⟩
 ·obtain⟨b,A,p,B,k,rfl,_⟩:=h;rfl
 ·obtain⟨b,Ad,p,B,k,rfl,R,good,sz,hk,vO,kq⟩:=h;obtain⟨dx,ob⟩:=R.ob;have hsf:=LC good sz hk vO;refine⟨_,aq (aY (i:=2) uM.nd rfl (Or.inl rfl) (gw aA))
   (aq (aY (i:=3) uM.nd rfl (Or.inl rfl) (gw (ak (pv 1) aA)))
   (aq (gG PassesOwn.never (aU tZ (aQ aO (by rfl) hlen PySem.boot_len (ak (pv 3) aA)) aR (bf _))
    (aq (aY (i:=4) uM.nd rfl (Or.inl rfl) (J3 plainAttrs_list slot_list_pop type_list_pop S8 (pv 3)))
    (aq (aN (kY plainAttrs_list PySem.F.slot_list_append PySem.F.type_list_append cZ (pv 2) (ak (pv 4) aA)))
    (aC (dW (JM (mL (bK (pv 0) gR IP hr aF (ak (pv 4) aA)))) (aC (aN (kY plainAttrs_list PySem.F.slot_list_extend PySem.F.type_list_extend Qe (pv 3) (ak (aM (bK (pv 0) gR NO hr aF (ak (pv 4) aA)) rfl) aA)))) bW)))))
   (aq (aN (J3 plainAttrs_list PySem.F.slot_list_reverse PySem.F.type_list_reverse J6 (pv 2))) (aC (aZ (pv 2)))))),?_⟩
  refine⟨by show 0≤sizeLine;decide,fun sl hsl=>?_⟩;refine⟨_,rfl,by show 1≤sizeLine;decide,fun wl hwl=>?_⟩;have nsw:sl≠wl:=fun z=>by rw[←z,ao]at hwl;cases hwl
  have owl:H wl=none:=by rw[aj nsw.symm]at hwl;exact hwl
  refine⟨StW H b sl wl k B,⟨_,[k],[],none,rfl,?_,?_,?_,?_,?_,?_,rfl⟩,?_⟩
  ·rw[aj nsw,ao];rfl
  ·rw[ao];rfl
  ·intro c o q;rw[aj (aB q owl),aj (aB q hsl)];exact q
  ·intro y hy;simp at hy;subst hy;exact hk
  ·rw[flatMap_cons,List.flatMap_nil,append_nil];simp
  ·show (Rb35.leaves (den B.P B.ns k)).length+0≤24;omega
  rintro m σ H1 ⟨W,st,x4,rfl,h1,h2,s1,hv,hf,hz,rfl⟩;refine⟨_,rfl,_,_,rfl,.inl (bJ.of h2),_,_,rfl,rfl,_,rfl,bY (fun hc0=>?_) fun hc0=>?_⟩
  rotate_left
  ·have hW:W=[]:=by
    cases W with
    |nil=>rfl
    |cons y t=>
     refine absurd (decide_eq_true ?_) hc0;rw[aK,length_cons];omega
   subst hW;have e:st.reverse=so B.P B.ns k:=hf;refine⟨_,rfl,.inl ⟨rfl,_,bJ.of h1⟩,sl,_,rfl,rfl,h1,_,rfl,kq sl _ ?_ hsl fun c o q=>?_⟩
   ·rw[ao,←e];unfold nV;rw[List.map_reverse]
   ·rw[aj (aB q hsl)];exact s1 _ _ q
  ·have hW:W≠[]:=fun z=>by
    rw[z]at hc0;exact absurd (of_decide_eq_true hc0) (by show ¬(0:Int)<0;decide)
   obtain⟨W',t,rfl⟩:∃W' t,W=W'++[t]:=⟨W.dropLast,W.getLast hW,(List.dropLast_concat_getLast hW).symm⟩;refine⟨fun σ' H'=>∃m',m'<Yq B.P B.ns (W'++[t])∧StW H b sl wl k B m' σ' H',fun _ _ z=>z,?_⟩;rw[iG]at h2;refine⟨_,rfl,.inl ⟨rfl,_,bJ.of h2⟩,wl,_,V.int ((t:Nat):Int),rfl,rfl,h2,?_,?_⟩
   ·rw[length_append,length_singleton,Nat.add_sub_cancel,getElem?_append_right (le_refl _),sub_self];rfl
   rw[List.dropLast_concat];have g1:(upd H1 wl (.lst (nV W'))) sl=some (.lst (nV st)):=by rw[aj nsw];exact h1
   have htv:=hv t (by simp);have hlen2:st.length+(W'++[t]).length≤1200024:=by
    have e:=congrArg List.length hf;rw[length_append,length_reverse]at e;have:=xQ good (W'++[t]) hv;omega
   refine⟨_,rfl,.inl ⟨rfl,_,bJ.of g1⟩,_,rfl,sl,_,_,rfl,rfl,g1,?_,?_⟩
   ·rw[aK];rw[length_append,length_singleton]at hlen2;exact lt_of_le_of_lt (show st.length≤1200024 by omega) (by decide)
   have q1:(upd (upd H1 wl (.lst (nV W'))) sl (.lst (nV st++[V.int ((t:Nat):Int)]))) sl=some (.lst (nV (st++[t]))):=by rw[ao,iG]
   have q2:(upd (upd H1 wl (.lst (nV W'))) sl (.lst (nV st++[V.int ((t:Nat):Int)]))) wl=some (.lst (nV W')):=by rw[aj nsw.symm,ao]
   have s2:Same H (upd (upd H1 wl (.lst (nV W'))) sl (.lst (nV st++[V.int ((t:Nat):Int)]))):=fun c o q=>by
    rw[aj (aB q hsl),aj (aB q owl)];exact s1 c o q
   generalize upd (upd H1 wl (.lst (nV W'))) sl (.lst (nV st++[V.int ((t:Nat):Int)]))=H2 at q1 q2 s2;have R2:=R.keep (Kp.same s2 []) (fun x hx=>by simp at hx);have hvt:∀z∈W',z<B.P+B.ns.length:=fun z hz=>hv z (by simp[hz]);have hf':W'.flatMap (so B.P B.ns)++(so B.P B.ns t++st.reverse)=so B.P B.ns k:=by
    rw[List.flatMap_append,flatMap_cons,List.flatMap_nil,append_nil,append_assoc]at hf;exact hf
   have hfz:Yq B.P B.ns (W'++[t])=Yq B.P B.ns W'+Jp (den B.P B.ns t):=by
    unfold Yq;rw[map_append,sum_append];show _+(Jp _+0)=_;omega
   have hlv:LK B.P B.ns (W'++[t])=LK B.P B.ns W'+(Rb35.leaves (den B.P B.ns t)).length:=by
    unfold LK;rw[map_append,sum_append];show _+((Rb35.leaves _).length+0)=_;omega
   rw[hlv]at hz;rw[hfz];refine⟨_,rfl,b,dx,_,rfl,s2 _ _ ob,oO _ _ _ _ _ (by decide +kernel) (by decide +kernel) (by decide +kernel) (by decide +kernel) (by decide +kernel),_,rfl,b,Ad,p,B,t,rfl,R2,_,rfl,?_⟩;refine bY (fun hc=>?_) fun hc=>?_
   ·have ht:¬t<B.P:=by simpa using hc
    obtain⟨j,hj⟩:∃j,t=B.P+j:=⟨t-B.P,by omega⟩;have hjl:j<B.ns.length:=by omega
    have OJ:B.ns[j]?=some B.ns[j]:=getElem?_eq_getElem hjl;have hdj:Ad.oA[j]?=some (Ad.oA[j]'(by rw[R.len];exact hjl)):=getElem?_eq_getElem _;generalize Ad.oA[j]'(by rw[R.len];exact hjl)=nd at hdj;generalize B.ns[j]=nn at OJ;obtain⟨⟨dn,n1⟩,n2⟩:=R2.at_ j nd nn hdj OJ;obtain⟨hg,hg1,hg2⟩:=good j _ OJ;have hln:(Rb35.leaves (den B.P B.ns t)).length=LK B.P B.ns nn.2:=by
     rw[hj,jx good OJ];show (Rb35.leavesIn _).length=_;rw[cW,map_map];rfl
    have hfn:Jp (den B.P B.ns t)=1+Yq B.P B.ns nn.2:=by
     rw[hj,jx good OJ,Jp,rA,map_map];rfl
    have hv2:∀y∈W'++nn.2,y<B.P+B.ns.length:=fun y hy=>by
     rcases mem_append.mp hy with z|z
     ·exact hvt y z
     ·exact lt_of_lt_of_le (hg y z) (by omega)
    have hlw:(W'++nn.2).length≤24:=by
     have:=xQ good (W'++nn.2) hv2;have e:LK B.P B.ns (W'++nn.2)=LK B.P B.ns W'+LK B.P B.ns nn.2:=by unfold LK;rw[map_append,sum_append]
     omega
    refine⟨_,rfl,.inl ⟨rfl,_,bJ.of q2⟩,_,rfl,b,dx,_,rfl,s2 _ _ ob,oO _ _ _ _ _ (by decide +kernel) (by decide +kernel) (by decide +kernel) (by decide +kernel) (by decide +kernel),_,rfl,b,Ad,p,B,j,nd,by rw[hj];rfl,R2,hdj,?_⟩;refine⟨nd.1,cs.jm,dn,_,_,rfl,n1,UW,U0 _ (by simp),oN _ _,wl,nd.2,_,_,rfl,rfl,q2,n2,?_,Yq B.P B.ns (W'++nn.2),?_,W'++nn.2,st++[t],_,rfl,?_,?_,?_,hv2,?_,?_,rfl⟩
    ·rw[aK,aK];rw[length_append]at hlw;exact le_trans hlw (by decide)
    ·unfold Yq at hfn ⊢;rw[map_append,sum_append];omega
    ·rw[aj nsw];exact q1
    ·rw[ao];unfold nV;rw[map_append]
    ·intro c o q;rw[aj (aB q owl)];exact s2 _ _ q
    ·rw[←hf',List.flatMap_append,List.reverse_append];have:so B.P B.ns t=nn.2.flatMap (so B.P B.ns)++[t]:=by rw[hj];exact uL good OJ
     rw[this];simp
    ·have e:LK B.P B.ns (W'++nn.2)=LK B.P B.ns W'+LK B.P B.ns nn.2:=by unfold LK;rw[map_append,sum_append]
     omega
   ·have ht:t<B.P:=by simpa using hc
    have hft:Jp (den B.P B.ns t)=1:=by rw[eU B.ns ht];rfl
    refine⟨Yq B.P B.ns W',by omega,W',st++[t],_,rfl,q1,q2,s2,hvt,?_,by omega,rfl⟩;rw[←hf',nZ B.ns ht,List.reverse_append];simp
theorem vP:aH ["book","formula","step"] ["book","formula"] (au iz):=⟨rfl,rfl,rfl,by decide +kernel,rfl,by decide +kernel,by decide +kernel⟩
theorem Ri(T:bL K mg "owners_of" iz)(gR:Cls K cs.boo)(ST:aX P w K mg base 2 "steps_of" ["book","formula"] (Ey cs))(IP:bw P w K mg base 1 cs.boo "is_person" ["self","formula"] (Om cs)):aX P w K mg base 3 "owners_of" ["book","formula"] (Js cs):=by
 obtain⟨f,fd,F,hm⟩:=T.ex;refine⟨f,fd,hm,F.kp,F.binds (fun _ _ _ _ _ _ us hl=>match us,hl with | [_,_],_=>rfl),okN F vP (fun vs H Q E h=>?_) (fun cdv A outer s0 H vs Q E hr h=>?_)⟩
 ·obtain⟨b,A,p,B,k,rfl,_⟩:=h;rfl
 ·obtain⟨b,Ad,p,B,k,rfl,R,good,sz,hk,vO,kq⟩:=h;obtain⟨dx,ob⟩:=R.ob;have hsf:=LC good sz hk vO;refine⟨_,aC (aZ (lY rfl vP.nd (eG (bN ST hr rfl aF (ak (pv 0) (ak (pv 1) aA)))) (cU (own:=[("step",2)]) (by show pN ["book","formula","step"] (au iz) _ [("step",2)]=true;decide +kernel))
   (fun _ _ _ _ _=>bU (i:=2) vP.nd rfl (Or.inl rfl)) (fun _ _ _ _ _=>Dr (mL (bK (k:=2) (pv 0) gR (IP.mono (by decide:1≤2)) hr aF (ak (pv 2) aA)))) (fun _ _ _ _ _=>pv 2))),?_⟩
  refine⟨_,rfl,_,rfl,b,Ad,p,B,k,rfl,R,good,sz,hk,vO,fun D1 H1 hD1 _ s1=>?_⟩;refine⟨D1,rfl,⟨_,bJ.of hD1⟩,fun D2 hD2=>?_⟩;refine gZ (xs:=nV (so B.P B.ns k)) (fun j H'=>H'=upd H1 D2 (.lst (nV (((so B.P B.ns k).take j).filter fun t=>decide (t<B.P))))) rfl ?_ ?_ ?_
  ·rintro j H' _ rfl;exact bJ.of (by rw[aj (aB hD1 hD2)];exact hD1)
  ·rintro j y H' hy rfl;unfold nV at hy;rw[getElem?_map]at hy;cases hq:(so B.P B.ns k)[j]? with
   |none=>rw[hq]at hy;cases hy
   |some t=>
    rw[hq]at hy;cases hy;have hj:=(List.getElem?_eq_some_iff.mp hq).1;have s2:Same H (upd H1 D2 (.lst (nV (((so B.P B.ns k).take j).filter fun t=>decide (t<B.P))))):=fun c o q=>by rw[aj (aB (s1 _ _ q) hD2)];exact s1 _ _ q
    have R2:=R.keep (Kp.same s2 []) (fun x hx=>by simp at hx);refine⟨rfl,_,rfl,b,dx,_,rfl,s2 _ _ ob,oO _ _ _ _ _ (by decide +kernel) (by decide +kernel) (by decide +kernel) (by decide +kernel) (by decide +kernel),_,rfl,b,Ad,p,B,t,rfl,R2,_,rfl,bY (fun hc=>?_) fun hc=>?_⟩
    ·refine⟨_,rfl,_,ao,?_,?_⟩
     ·rw[aK];refine lt_of_le_of_lt (length_filter_le _ _) ?_;rw[length_take];exact lt_of_le_of_lt (min_le_left _ _) (lt_of_lt_of_le hj (le_trans hsf (by decide)))
     ·rw[gM,take_succ,hq,toList_some,filter_append,filter_cons_of_pos (p:=fun t=>decide (t<B.P)) hc,List.filter_nil,iG]
    ·show _=_;rw[take_succ,hq,toList_some,filter_append,filter_cons_of_neg (p:=fun t=>decide (t<B.P)) hc,List.filter_nil,append_nil]
  ·rintro H' rfl;rw[aK,take_length,CQ good k hk];exact kq D2 _ ao fun c o q=>by rw[aj (aB (s1 _ _ q) hD2)];exact s1 _ _ q
end
def O1(cs:Cs):Sp:=fun vs H Q _=>∃(b:Addr)(A:d8)(p:Nat)(B:Bk)(k:Nat)(hl:Addr)(held:List Int),vs=[.ref b,.int (k:Int),.ref hl]∧aV cs H b A p B∧Good B.P B.ns∧Sz B∧k<B.P+B.ns.length∧(Rb35.leaves (den B.P B.ns k)).length≤24 ∧
 Narrow p B.ns∧(∀n∈B.ns,n.2.length≤24)∧Rb35.prime p=true∧p≤1000∧H hl=some (.lst (zV held))∧held.length=(Rb35.leaves (den B.P B.ns k)).length∧(∀h∈held,Hd p h)∧∀H',Same H H'→Q (.int (CP p (den B.P B.ns k) held)) H'
theorem Ez(l:List Int)(a:Int):zV (l++[a])=zV l++[V.int a]:=by unfold zV;rw[map_append];rfl
section
variable{P:Program}{w:World}{K:PySem.W.Frag}{mg:Str→Option Value}{base:Heap}{cs:Cs}
theorem jF:aH ["book","formula","held","found","taken","step","node","first"] ["book","formula","held"] (au mD):=⟨rfl,rfl,rfl,by decide +kernel,rfl,by decide +kernel,by decide +kernel⟩
theorem VG(T:bL K mg "found_of" mD)(gR:Cls K cs.boo)(naB:cG K cs.boo ["prime","people","nodes","lets","names"])(UW:Cls K cs.jm)(U0:cG K cs.jm ["asked","within"])(hlen:mg "len"=none)(ST:aX P w K mg base 2 "steps_of" ["book","formula"] (Ey cs))(IP:bw P w K mg base 1 cs.boo "is_person" ["self","formula"] (Om cs))(NO:bw P w K mg base 1 cs.boo "node_of" ["self","formula"] (zX cs))(FN:aX P w K mg base 3 "found_of_node" ["found","asked","prime"] Ow):aX P w K mg base 4 "found_of" ["book","formula","held"] (O1 cs):=by
 obtain⟨f,fd,F,hm⟩:=T.ex;refine⟨f,fd,hm,F.kp,F.binds (fun _ _ _ _ _ _ us hl=>match us,hl with | [_,_,_],_=>rfl),okN F jF (fun vs H Q E h=>?_) (fun cdv A outer s0 H vs Q E hr h=>?_)⟩
 ·obtain⟨b,A,p,B,k,hl,held,rfl,_⟩:=h;rfl
 ·obtain⟨b,Ad,p,B,k,hl,held,rfl,R,good,sz,hk,vO,af3,hwid,hp,hp2,hhl,hheld,hhd,kq⟩:=h;obtain⟨dx,ob⟩:=R.ob;have hp3:=cM hp;have hsf:=LC good sz hk vO;refine⟨_,aq (aY (i:=3) jF.nd rfl (Or.inl rfl) (gw aA))
   (aq (aY (i:=4) jF.nd rfl (Or.inl rfl) aR)
   (aq (xZ PassesOwn.never rfl (eG (bN (ST.mono (by decide:2≤3)) hr rfl aF (ak (pv 0) (ak (pv 1) aA)))) (bU (i:=5) jF.nd rfl (Or.inl rfl))
    (aC (dW (mL (bK (pv 0) gR (IP.mono (by decide:1≤3)) hr aF (ak (pv 5) aA)))
     (aq (aN (kY plainAttrs_list PySem.F.slot_list_append PySem.F.type_list_append cZ (pv 3) (ak (fK dR (pv 2) (pv 4) (fun _ _=>rfl)) aA))) (aC (Dg (i:=4) jF.nd rfl (Or.inl rfl) aR Dh)))
     (aq (aY (i:=6) jF.nd rfl (Or.inl rfl) (bK (pv 0) gR (NO.mono (by decide:1≤3)) hr aF (ak (pv 5) aA)))
     (aq (aY (i:=7) jF.nd rfl (Or.inl rfl) (fj rW (aQ aO (by rfl) hlen PySem.boot_len (ak (pv 3) aA)) (aQ aO (by rfl) hlen PySem.boot_len (ak (aM (pv 6) rfl) aA))))
     (aC (aY (i:=3) jF.nd rfl (Or.inl rfl) (fj ZK (pR xr (pv 3) xq (qK (pv 7))) (gw (ak (bN FN hr rfl aF (ak (pR xr (pv 3) (qK (pv 7)) xq) (ak (aM (pv 6) rfl) (ak (aM (pv 0) rfl) aA)))) aA))))))))))
   (aC (aZ (fK dR (pv 3) aR (fun _ _=>rfl)))))),?_⟩
  refine⟨by show 0≤sizeLine;decide,fun f0 hf0=>?_⟩;have s0:Same H (upd H f0 (.lst [])):=fun c o q=>by rw[aj (aB q hf0)];exact q
  have R0:=R.keep (Kp.same s0 []) (fun x hx=>by simp at hx);refine⟨_,rfl,_,rfl,b,Ad,p,B,k,rfl,R0,good,sz,hk,vO,fun D1 H1 hD1 nD1 s1=>?_⟩;have nDf:f0≠D1:=fun z=>by rw[←z,ao]at nD1;cases nD1
  refine⟨D1,rfl,⟨_,bJ.of hD1⟩,?_⟩;have af4:H1 f0=some (.lst []):=s1 _ _ ao;refine tY (xs:=nV (so B.P B.ns k)) (fun i σ H'=>∃(fl:Addr)(st:List Int)(tk:Nat)(x5 x6 x7:Option V),σ=[some (.ref b),some (.int (k:Int)),some (.ref hl),some (.ref fl),some (.int (tk:Int)),x5,x6,x7]∧H' fl=some (.lst (zV st))∧H fl=none∧fl≠D1 ∧
    ((so B.P B.ns k).take i).foldl (stp B.P B.ns p) ([],held)=(st,held.drop tk)∧tk≤held.length∧Sf B.P B.ns ((so B.P B.ns k).drop i) st.length (held.length-tk)∧(∀v∈st,Vd p v)∧st.length≤i∧Same H H'∧H' D1=some (.lst (nV (so B.P B.ns k))))
   ⟨f0,[],0,none,none,none,rfl,af4,hf0,nDf,rfl,zero_le _,?_,fun v hv=>by simp at hv,le_refl _,s0.trans s1,hD1⟩ ?_ ?_ ?_
  ·have:=adv good k hk [] 0 held.length (by omega) trivial;rw[append_nil]at this;exact this
  ·rintro i σ H' _ ⟨fl,st,tk,x5,x6,x7,_,_,_,_,_,_,_,_,_,_,hD⟩;exact bJ.of hD
  ·rintro i y σ H' hy ⟨fl,st,tk,x5,x6,x7,rfl,h1,NT,nfD,hrun,htk,Rj,hvd,hsl,s2,hDD⟩;unfold nV at hy;rw[getElem?_map]at hy;cases hq:(so B.P B.ns k)[i]? with
   |none=>rw[hq]at hy;cases hy
   |some t=>
    rw[hq]at hy;cases hy;have hi:=(List.getElem?_eq_some_iff.mp hq).1;have hdr:(so B.P B.ns k).drop i=t::(so B.P B.ns k).drop (i+1):=by
     rw[drop_eq_getElem_cons hi];congr 1;exact(List.getElem?_eq_some_iff.mp hq).2
    have hfo:((so B.P B.ns k).take (i+1)).foldl (stp B.P B.ns p) ([],held)=stp B.P B.ns p (st,held.drop tk) t:=by
     rw[take_succ,hq,toList_some,foldl_append,hrun];rfl
    rw[hdr,Sf]at Rj;have R2:=R.keep (Kp.same s2 []) (fun x hx=>by simp at hx);refine⟨_,rfl,b,dx,_,rfl,s2 _ _ ob,oO _ _ _ _ _ (by decide +kernel) (by decide +kernel) (by decide +kernel) (by decide +kernel) (by decide +kernel),_,rfl,b,Ad,p,B,t,rfl,R2,_,rfl,bY (fun hc=>?_) fun hc=>?_⟩
    ·have ht:t<B.P:=of_decide_eq_true hc;rw[if_pos ht]at Rj;have htl:tk<held.length:=by omega
     have hat:held[tk]?=some held[tk]:=getElem?_eq_getElem htl;have hh:=hhd _ (getElem_mem htl);generalize held[tk]=hv at hat hh;have af6:(zV held)[tk]?=some (V.int hv):=by unfold zV;rw[getElem?_map,hat];rfl
     refine⟨_,rfl,.inl ⟨rfl,_,bJ.of h1⟩,_,rfl,_,rfl,hl,_,_,_,rfl,rfl,bJ.of (s2 _ _ hhl),at_of (j:=tk) rfl af6,fl,_,_,rfl,rfl,h1,?_,_,rfl,_,_,rfl,rfl,fl,st++[hv],tk+1,some (V.int ((t:Nat):Int)),x6,x7,?_,?_,NT,nfD,?_,by omega,?_,?_,?_,?_,?_⟩
     ·rw[dZ];exact lt_of_le_of_lt (show st.length≤1200000 by omega) (by decide)
     ·show _=[_,_,_,_,some (V.int ((tk+1:Nat):Int)),_,_,_];rw[natCast_add];rfl
     ·rw[ao,Ez]
     ·rw[hfo];unfold stp;rw[if_pos ht];have hd2:held.drop tk=hv::held.drop (tk+1):=by
       rw[drop_eq_getElem_cons htl];congr 1;exact(List.getElem?_eq_some_iff.mp hat).2
      rw[hd2];rfl
     ·rw[length_append,length_singleton];have e:held.length-(tk+1)=held.length-tk-1:=by omega
      rw[e];exact Rj.2
     ·intro v hv';rcases mem_append.mp hv' with z|z
      ·exact hvd v z
      ·simp at z;rw[z];rcases hh with y|y
       ·exact .inr (.inl y)
       ·exact .inr (.inr y)
     ·rw[length_append,length_singleton];omega
     ·intro c o q;rw[aj (aB q NT)];exact s2 _ _ q
     ·rw[aj nfD.symm];exact hDD
    ·have ht:¬t<B.P:=fun z=>hc (decide_eq_true z);rw[if_neg ht]at Rj;obtain⟨Bb,hwd,adx⟩:=Rj;obtain⟨j,hj⟩:∃j,t=B.P+j:=⟨t-B.P,by omega⟩;have hjl:j<B.ns.length:=by omega
     have OJ:B.ns[j]?=some B.ns[j]:=getElem?_eq_getElem hjl;have hnm:=getElem_mem hjl;have hdj:Ad.oA[j]?=some (Ad.oA[j]'(by rw[R.len];exact hjl)):=getElem?_eq_getElem _;generalize Ad.oA[j]'(by rw[R.len];exact hjl)=nd at hdj;generalize B.ns[j]=nn at OJ hnm;have hgd:B.ns.getD (t-B.P) (0,[])=nn:=by rw[hj,Nat.add_sub_cancel_left,getD_eq_getElem?_getD,OJ];rfl
     rw[hgd]at hwd adx;obtain⟨⟨dn,n1⟩,n2⟩:=R2.at_ j nd nn hdj OJ;have hn1:=af3 nn hnm;have hn2:=hwid nn hnm;refine⟨_,rfl,b,dx,_,rfl,s2 _ _ ob,oO _ _ _ _ _ (by decide +kernel) (by decide +kernel) (by decide +kernel) (by decide +kernel) (by decide +kernel),_,rfl,b,Ad,p,B,j,nd,by rw[hj];rfl,R2,hdj,?_⟩;refine⟨_,rfl,_,_,rfl,.inl (bJ.of h1),_,rfl,nd.1,cs.jm,dn,_,_,rfl,n1,UW,U0 _ (by simp),oN _ _,_,_,rfl,.inl (bJ.of n2),_,_,rfl,rfl,?_⟩;have af7:(((zV st).length:Nat):Int)-(((nV nn.2).length:Nat):Int)=((st.length-nn.2.length:Nat):Int):=by rw[dZ,aK];omega
     dsimp only;rw[af7];refine⟨_,rfl,_,rfl,_,rfl,fl,_,rfl,bJ.of h1,fun c1 hc1=>?_⟩;rw[Vz];have e1:(zV st).take (st.length-nn.2.length)=zV (st.take (st.length-nn.2.length)):=by unfold zV;rw[map_take]
     rw[e1];have s3:Same H' (upd H' c1 (.lst (zV (st.take (st.length-nn.2.length))))):=fun c o q=>by rw[aj (aB q hc1)];exact q
     have hC1:(upd H' c1 (.lst (zV (st.take (st.length-nn.2.length))))) c1=some (.lst (zV (st.take (st.length-nn.2.length)))):=ao;generalize upd H' c1 (.lst (zV (st.take (st.length-nn.2.length))))=H3 at s3 hC1;refine⟨_,rfl,_,rfl,_,rfl,fl,_,rfl,bJ.of (s3 _ _ h1),fun c2 hc2=>?_⟩;rw[Jo];have e2:(zV st).drop (st.length-nn.2.length)=zV (st.drop (st.length-nn.2.length)):=by unfold zV;rw[map_drop]
     rw[e2];have s4:Same H3 (upd H3 c2 (.lst (zV (st.drop (st.length-nn.2.length))))):=fun c o q=>by rw[aj (aB q hc2)];exact q
     have Yr:(upd H3 c2 (.lst (zV (st.drop (st.length-nn.2.length))))) c2=some (.lst (zV (st.drop (st.length-nn.2.length)))):=ao;generalize upd H3 c2 (.lst (zV (st.drop (st.length-nn.2.length))))=H4 at s4 Yr;have hvl:(st.drop (st.length-nn.2.length)).length=nn.2.length:=by rw[length_drop];omega
     refine⟨_,rfl,nd.1,cs.jm,dn,_,_,rfl,s4 _ _ (s3 _ _ n1),UW,U0 _ (by simp),Qs _ _,_,rfl,b,cs.boo,dx,_,_,rfl,s4 _ _ (s3 _ _ (s2 _ _ ob)),gR,naB _ (by simp),vq _ _ _ _ _,c2,_,nn.1,p,rfl,Yr,hp,hp2,fun v hv=>hvd v (mem_of_mem_drop hv),by omega,by omega,fun H5 s5=>?_⟩;refine⟨by show 1≤sizeLine;decide,fun c3 hc3=>?_⟩;have ady:H5 c1=some (.lst (zV (st.take (st.length-nn.2.length)))):=s5 _ _ (s4 _ _ hC1);have n13:c1≠c3:=aB ady hc3;refine⟨c1,c3,_,_,rfl,rfl,by rw[aj n13];exact ady,ao,?_,fun c4 hc4=>?_⟩
     ·rw[dZ,length_take];exact le_trans (show _+1≤1200001 by omega) (by decide)
     have s6:Same H5 (upd (upd H5 c3 (.lst [V.int (gK p nn.1 (st.drop (st.length-nn.2.length)))])) c4 (.lst (zV (st.take (st.length-nn.2.length))++[V.int (gK p nn.1 (st.drop (st.length-nn.2.length)))]))):=fun c o q=>by
      have z1:=aB q hc3;have z2:c≠c4:=fun z=>by rw[←z,aj z1,q]at hc4;cases hc4
      rw[aj z2,aj z1];exact q
     have s7:Same H H5:=s2.trans (s3.trans (s4.trans s5));refine⟨c4,st.take (st.length-nn.2.length)++[gK p nn.1 (st.drop (st.length-nn.2.length))],tk,_,_,_,rfl,?_,?_,?_,?_,htk,?_,?_,?_,s7.trans s6,?_⟩
     ·rw[ao,Ez]
     ·cases hH:H c4 with
      |none=>rfl
      |some o=>
       have q:=s7 _ _ hH;have z1:=aB q hc3;rw[aj z1,q]at hc4;cases hc4
     ·intro z;have q:=s5 _ _ (s4 _ _ (s3 _ _ hDD));have z1:=aB q hc3;rw[z,aj z1,q]at hc4;cases hc4
     ·rw[hfo];unfold stp;rw[if_neg ht,hgd]
     ·rw[length_append,length_singleton,length_take];have e:min (st.length-nn.2.length) st.length+1=st.length-nn.2.length+1:=by omega
      rw[e];exact adx
     ·intro v hv';rcases mem_append.mp hv' with z|z
      ·exact hvd v (mem_of_mem_take z)
      ·simp at z;rw[z];exact Jk (by omega)
     ·rw[length_append,length_singleton,length_take];have:=(good j nn OJ).2;omega
     ·exact s6 _ _ (s5 _ _ (s4 _ _ (s3 _ _ hDD)))
  ·rintro σ H' ⟨fl,st,tk,x5,x6,x7,rfl,h1,NT,nfD,hrun,htk,Rj,hvd,hsl,s2,hDD⟩;rw[aK,take_length,aaZ good p k hk,nil_append]at hrun;have e1:st=[CP p (den B.P B.ns k) (held.take (Rb35.leaves (den B.P B.ns k)).length)]:=(congrArg Prod.fst hrun).symm;rw[←hheld,take_length]at e1;subst e1;exact⟨_,rfl,fl,_,_,_,rfl,rfl,bJ.of h1,at_of (j:=0) rfl rfl,kq H' s2⟩
end
end Pg
namespace Pg
open Sp
theorem Ys{G:Rb35.Prog}{B:Bk}{i:Int}{k:Nat}(h:G.lets=B.known.lets)(h0:0≤i)(hk:(B.ls.map (·.2))[i.toNat]?=some k):Rb35.formAt G i=some (den B.P B.ns k):=by
 unfold Rb35.formAt;rw[if_neg (by omega),h];show ((B.ls.map fun x=>(x.1,den B.P B.ns x.2))[i.toNat]?).map _=_;rw[getElem?_map]at hk ⊢;cases q:B.ls[i.toNat]? with
 |none=>rw[q]at hk;cases hk
 |some x=>rw[q]at hk;cases hk;rfl
theorem Yt{G:Rb35.Prog}{B:Bk}{i:Int}(h:G.lets=B.known.lets)(hn:¬(0≤i∧i.toNat<B.ls.length)):Rb35.formAt G i=none:=by
 unfold Rb35.formAt;by_cases h0:i<0
 ·rw[if_pos h0]
 ·rw[if_neg h0,h];show ((B.ls.map fun x=>(x.1,den B.P B.ns x.2))[i.toNat]?).map _=_;rw[List.getElem?_eq_none (by rw[length_map];exact Nat.le_of_not_lt fun z=>hn ⟨by omega,z⟩)];rfl
theorem LQ{text:List Int}(h:Rb35Neutral.text (text.length:Int) text=true):(∀b∈text.map Int.toNat,b<256)∧text.length≤600∧(∀x∈text,0≤x)∧Rb35.inRange 0 (text.length:Int) 65536=true:=by
 unfold Rb35Neutral.text at h;simp only[and_eq_true,decide_eq_true_eq,all_eq_true]at h;obtain⟨_,h2,_,h3,_⟩:=h;have nat:∀x∈text,0≤x∧x<256:=fun x hx=>by
  have:=h2 x hx;unfold Rb35Neutral.natural at this;simp only[and_eq_true,decide_eq_true_eq]at this;exact⟨this.1,by have:=this.2;omega⟩
 refine⟨fun b hb=>?_,h3,fun x hx=>(nat x hx).1,?_⟩
 ·obtain⟨x,hx,rfl⟩:=mem_map.mp hb;have:=nat x hx;omega
 ·unfold Rb35.inRange;simp only[and_eq_true,decide_eq_true_eq];omega
end Pg
namespace Sp
open Rb35
end Sp
namespace Pg
open PySem PySem.Spec PyProof.Rows L2 Xc Sp
theorem adz(m i:Nat):Builtin.bitAnd ((m:Int) / 2^((i:Nat):Int).toNat) 1=(((if m.testBit i=true then 1 else 0:Nat)):Int):=by
 rw[toNat_natCast,PyProof.Rows.bitAnd_m1,Nat.testBit_eq_decide_div_mod_eq];have e:((m:Int) / 2^i)%2=((m / 2^i%2:Nat):Int):=by norm_cast
 rw[e];by_cases h:m / 2^i%2=1
 ·rw[decide_eq_true h,if_pos rfl,h]
 ·rw[decide_eq_false h,if_neg (by decide)];have:=Nat.mod_two_eq_zero_or_one (m / 2^i);omega
theorem Yu(m i:Nat):decide (V.int (Builtin.bitAnd ((m:Int) / 2^((i:Nat):Int).toNat) 1)=V.int 1)=m.testBit i:=by
 rw[iI,adz];cases m.testBit i<;>rfl
theorem Jt{p n:Nat}{r:List Nat}(h:Rb35.fits p n r=true):r.length=n∧∀c∈r,c<p:=by
 unfold Rb35.fits at h;rw[and_eq_true,decide_eq_true_iff,all_eq_true]at h;exact⟨h.1,fun c hc=>of_decide_eq_true (h.2 c hc)⟩
theorem adA{P:Nat}{ns:List aG}(good:Good P ns)(h:∀j,j<ns.length→(Rb35.leaves (den P ns (P+j))).length≤24):∀n∈ns,n.2.length≤24:=fun n hn=>by
 obtain⟨j,hj,e⟩:=List.mem_iff_getElem.mp hn;have OJ:ns[j]?=some n:=by rw[getElem?_eq_getElem hj,e]
 have h1:=h j hj;rw[jx good OJ]at h1;have h2:(Rb35.leavesIn (jG (n.2.map (den P ns)))).length≤24:=h1;rw[cW,map_map]at h2;have h3:=xQ good n.2 fun y hy=>by
  have:=(good j n OJ).1 y hy;omega
 exact le_trans h3 h2
theorem Ju{bs:List Nat}{G:Rb35.Prog}(h:Rb35.taken bs=.good G):Rb35.small G=true:=by
 unfold Rb35.taken at h;cases q:Rb35.program (Rb35.toks bs) with
 |error k=>rw[q]at h;cases h
 |ok P=>
  rw[q]at h;dsimp only at h;split at h
  ·rename_i hs;cases h;exact hs
  ·cases h
theorem LR{bs:List Nat}{G:Rb35.Prog}(h:Rb35.taken bs=.good G){i:Int}{f:Rb35.Form}(hf:Rb35.formAt G i=some f):Rb35.sound G.p f=true∧(Rb35.leaves f).length≤24:=by
 have hs:=Ju h;unfold Rb35.small at hs;rw[and_eq_true,and_eq_true,all_eq_true]at hs;unfold Rb35.formAt at hf;split at hf
 ·cases hf
 ·obtain⟨x,hx,rfl⟩:=map_eq_some_iff.mp hf;have:=hs.2.2 x (mem_of_getElem? hx);rw[and_eq_true,decide_eq_true_iff]at this;exact⟨this.2,this.1⟩
structure aa2(p:Nat)(B:Bk):Prop where
 ok:B.Ok
 sz:Sz B
 pr:Rb35.prime p=true
 le:p≤1000
 nar:Narrow p B.ns
 wid:∀n∈B.ns,n.2.length≤24
 lv:∀x∈B.ls,(Rb35.leaves (den B.P B.ns x.2)).length≤24
theorem Rk{l:List Int}(h:Rb35Neutral.few (l.length:Int) l=true):(∀x∈l,0≤x)∧l.length≤64:=by
 unfold Rb35Neutral.few at h;simp only[and_eq_true,decide_eq_true_eq,all_eq_true]at h;obtain⟨_,h2,h3⟩:=h;refine⟨fun x hx=>?_,?_⟩
 ·have:=h2 x hx;unfold Rb35Neutral.natural at this;simp only[and_eq_true,decide_eq_true_eq]at this;exact this.1
 ·split at h3<;>omega
end Pg
namespace Sp
open Rb35
def heldW(t:Nat):List Nat→List Nat→List Int
 |o::os,a::w=>(if t.testBit o=true then -6 else (a:Int))::heldW t os w
 |_,_=>[]
theorem rB(t:Nat):∀(os w:List Nat),os.length=w.length→(heldW t os w).length=os.length
 | [],[],_=>rfl
 | [],_::_,h=>by simp at h
 |_::_,[],h=>by simp at h
 |o::os,a::w,h=>by rw[heldW,length_cons,rB t os w (by simpa using h),length_cons]
theorem Ah(t p:Nat):∀(os w:List Nat),(∀c∈w,c<p)→∀h∈heldW t os w,Hd p h
 | [],w,_=>fun h hh=>by simp[heldW]at hh
 |_::_,[],_=>fun h hh=>by simp[heldW]at hh
 |o::os,a::w,hc=>fun h hh=>by
  rw[heldW]at hh;rcases mem_cons.mp hh with e|hh
  ·rw[e];have:=hc a (by simp);split
   ·exact .inl rfl
   ·exact .inr ⟨by omega,by omega⟩
  ·exact Ah t p os w (fun c z=>hc c (by simp[z])) h hh
theorem Ma{n t i:Nat}(ht:t<2^n)(hi:i<n):(others n t).testBit i=!t.testBit i:=by
 unfold others;have e:2^n-1-t=2^n-(t+1):=by omega
 rw[e,Nat.testBit_two_pow_sub_succ ht,decide_eq_true hi,Bool.true_and]
theorem vQ{n t:Nat}(ht:t<2^n):∀(os w:List Nat),os.length=w.length→(∀o∈os,o<n)→eE (others n t) os (nY (others n t) os w)=heldW t os w
 | [],[],_,_=>rfl
 | [],_::_,h,_=>by simp at h
 |_::_,[],h,_=>by simp at h
 |o::os,a::w,h,ho=>by
  have ih:=vQ ht os w (by simpa using h) fun x hx=>ho x (by simp[hx]);have hb:=Ma ht (ho o (by simp));unfold nY at ih ⊢;rw[zip_cons_cons,filterMap_cons,heldW];by_cases c:t.testBit o=true
  ·have c':¬(others n t).testBit o=true:=by rw[hb,c];decide
   simp only[if_neg c',if_pos c];rw[eE,if_neg c',ih]
  ·have c':(others n t).testBit o=true:=by rw[hb];simpa using c
   simp only[if_pos c',if_neg c];rw[eE,if_pos c'];show ((a:Nat):Int)::eE (others n t) os _=_;rw[←ih];rfl
theorem qG(m:Nat):∀(os w:List Nat),os.length=w.length→(nY m os w).length=(theirs m os).length
 | [],[],_=>rfl
 | [],_::_,h=>by simp at h
 |_::_,[],h=>by simp at h
 |o::os,a::w,h=>by
  have ih:=qG m os w (by simpa using h);unfold nY theirs at ih ⊢;rw[zip_cons_cons,filterMap_cons];by_cases c:m.testBit o=true
  ·simp only[if_pos c];rw[filter_cons_of_pos (p:=fun o=>m.testBit o) c,length_cons,length_cons,ih]
  ·simp only[if_neg c];rw[filter_cons_of_neg (p:=fun o=>m.testBit o) c,ih]
theorem O2(m p:Nat)(os w:List Nat)(hc:∀c∈w,c<p):∀c∈nY m os w,c<p:=fun c h=>by
 unfold nY at h;obtain⟨x,hx,e⟩:=mem_filterMap.mp h;split at e
 ·cases e;exact hc _ (of_mem_zip hx).2
 ·cases e
def Bd(n:Nat):List Nat:=(List.range (n+1)).flatMap fun k=>(List.range (2^n)).filter fun d=>many n d==k
section
variable{p n:Nat}(hP:prime p=true){f:Form}(hs:sound p f=true){w:List Nat}(hw:w.length=(leaves f).length)(hc:∀c∈w,c<p)(ho:∀o∈leaves f,o<n)
include hP hs hw hc ho
theorem Jv{t:Nat}(ht:t<2^n):secretOf (secrets p f (others n t) (seen (others n t) f w)) (-4)=CP p f (heldW t (leaves f) w):=by
 have e:seen (others n t) f w=nY (others n t) (leaves f) w:=rfl;rw[e,Et hP hs (qG _ _ _ hw.symm) (O2 _ p _ _ hc),vQ ht _ _ hw.symm ho]
theorem Rm{t:Nat}(ht:t<2^n):(secrets p f (others n t) (seen (others n t) f w)).isEmpty=decide (CP p f (heldW t (leaves f) w)=-4):=by
 have e:seen (others n t) f w=nY (others n t) (leaves f) w:=rfl;rw[Bool.eq_iff_iff,decide_eq_true_iff,e,Eu hP hs (qG _ _ _ hw.symm) (O2 _ p _ _ hc),vQ ht _ _ hw.symm ho]
theorem Mf:fewest p n f w=(Bd n).find? fun d=>!decide (CP p f (heldW d (leaves f) w)=-4):=by
 unfold fewest Bd;rw[List.find?_flatMap];congr 1;funext k;rw[List.find?_filter];have key:∀l:List Nat,(∀d∈l,d<2^n)→l.find? (fun d=>many n d==k&&!(secrets p f (others n d) (seen (others n d) f w)).isEmpty)=l.find? (fun d=>decide ((many n d==k)=true∧(!decide (CP p f (heldW d (leaves f) w)=-4))=true)):=fun l=>by
  induction l with
  |nil=>intro _;rfl
  |cons d l ih=>
   intro hl;have e:(many n d==k&&!(secrets p f (others n d) (seen (others n d) f w)).isEmpty)=decide ((many n d==k)=true∧(!decide (CP p f (heldW d (leaves f) w)=-4))=true):=by
    rw[Rm hP hs hw hc ho (hl d (by simp)),Bool.eq_iff_iff,and_eq_true,decide_eq_true_iff]
   rw[find?_cons,find?_cons,e,ih fun x hx=>hl x (by simp[hx])]
 exact key _ fun d hd=>mem_range.mp hd
omit hs in
theorem O4:∀(h:List Int)(v:List Nat),h.length=v.length→(∀x∈h,x=-6)→Fi h v
 | [],[],_,_=>trivial
 | [],_::_,e,_=>by simp at e
 |_::_,[],e,_=>by simp at e
 |a::h,b::v,e,hh=>⟨.inl (hh a (by simp)),O4 h v (by simpa using e) fun x hx=>hh x (by simp[hx])⟩
theorem Rn:CP p f (heldW (2^n-1) (leaves f) w)≠-4:=by
 have h2:=cM hP;have hl:(heldW (2^n-1) (leaves f) w).length=(leaves f).length:=rB _ _ _ hw.symm;have hall:∀x∈heldW (2^n-1) (leaves f) w,x=-6:=by
  have:∀(os w:List Nat),(∀o∈os,o<n)→∀x∈heldW (2^n-1) os w,x=-6:=fun os=>by
   induction os with
   |nil=>intro w _ x hx;simp[heldW]at hx
   |cons o os ih=>
    intro w ho x hx;cases w with
    |nil=>simp[heldW]at hx
    |cons a w=>
     rw[heldW,if_pos (by rw[Nat.testBit_two_pow_sub_one];exact decide_eq_true (ho o (by simp)))]at hx;rcases mem_cons.mp hx with e|hx
     ·exact e
     ·exact ih w (fun y hy=>ho y (by simp[hy])) x hx
  exact this _ _ ho
 have hf:=(Aa hP f _ hs hl (Ah _ p _ _ hc)).2 0 (by omega);have:=hf.mp ⟨List.replicate (needs f) 0,length_replicate,fun c hc'=>by rw[List.mem_replicate]at hc';omega,by
  refine O4 hP hw hc ho _ _ ?_ hall;rw[hl,z9]⟩
 exact this.1
end
theorem Yv(n d:Nat):many n d≤n:=by
 unfold many;exact le_trans (length_filter_le _ _) (by rw[length_range];exact le_refl _)
theorem EY{n d:Nat}:d∈Bd n↔d<2^n:=by
 unfold Bd;rw[mem_flatMap];constructor
 ·rintro⟨k,_,h⟩;exact mem_range.mp (mem_filter.mp h).1
 ·intro h;exact⟨many n d,mem_range.mpr (by have:=Yv n d;omega),mem_filter.mpr ⟨mem_range.mpr h,by simp⟩⟩
def Bef(n a b:Nat):Prop:=many n a<many n b∨(many n a=many n b∧a<b)
theorem Yw(n:Nat):(Bd n).Pairwise (Bef n):=by
 unfold Bd;rw[List.flatMap_def,List.pairwise_flatten];refine⟨fun l hl=>?_,?_⟩
 ·obtain⟨k,_,rfl⟩:=mem_map.mp hl;refine List.Pairwise.imp_of_mem (fun {a b} ha hb h=>?_) (List.pairwise_lt_range.filter _);have h1:=(mem_filter.mp ha).2;have h2:=(mem_filter.mp hb).2;simp at h1 h2;exact .inr ⟨by omega,h⟩
 ·rw[pairwise_map];refine List.pairwise_lt_range.imp fun {j k} hjk a ha b hb=>?_;have h1:=(mem_filter.mp ha).2;have h2:=(mem_filter.mp hb).2;simp at h1 h2;exact .inl (by omega)
theorem Ai{n:Nat}:∀{xs ys:List Nat},xs.Pairwise (Bef n)→ys.Pairwise (Bef n)→(∀d,d∈xs↔d∈ys)→xs=ys
 | [],[],_,_,_=>rfl
 | [],y::ys,_,_,h=>by have:=(h y).mpr (by simp);simp at this
 |x::xs,[],_,_,h=>by have:=(h x).mp (by simp);simp at this
 |x::xs,y::ys,hx,hy,h=>by
  rw[List.pairwise_cons]at hx hy;have irr:∀a b,Bef n a b→Bef n b a→False:=fun a b h1 h2=>by
   unfold Bef at h1 h2;omega
  have e:x=y:=by
   rcases mem_cons.mp ((h x).mp (by simp)) with z|z
   ·exact z
   ·rcases mem_cons.mp ((h y).mpr (by simp)) with z2|z2
    ·exact z2.symm
    ·exact(irr _ _ (hy.1 x z) (hx.1 y z2)).elim
  subst e;congr 1;refine Ai hx.2 hy.2 fun d=>⟨fun hd=>?_,fun hd=>?_⟩
  ·rcases mem_cons.mp ((h d).mp (by simp[hd])) with z|z
   ·rw[z]at hd;exact(irr _ _ (hx.1 x hd) (hx.1 x hd)).elim
   ·exact z
  ·rcases mem_cons.mp ((h d).mpr (by simp[hd])) with z|z
   ·rw[z]at hd;exact(irr _ _ (hy.1 x hd) (hy.1 x hd)).elim
   ·exact z
end Sp
namespace Pg
open PySem PySem.Spec PyProof.Rows L2 Xc Sp
theorem VH(n t:Nat):((List.range n).map fun j=>if t.testBit j=true then 1 else 0).sum=Rb35.many n t:=by
 unfold Rb35.many
 induction n with
 |zero=>rfl
 |succ n ih=>
  rw[range_succ,map_append,sum_append,filter_append,length_append,ih];congr 1;by_cases h:t.testBit n=true
  ·simp[h]
  ·simp[h]
theorem aa4{K:PySem.W.Frag}{a b:Addr}{xs ys:List V}{g:TG}{tt:TT}{te:TE}{vs:List Nat}{σ:L2.St}{H1:Hp}{D:Addr}{Qd:Hp→Prop}(Pv:Nat→Hp→Prop)(he:xs.length=ys.length)(h0:Pv 0 (upd H1 D (.lst [])))(hl:∀i H,i≤xs.length→Pv i H→bJ K H a xs∧bJ K H b ys)(hs:∀i x y T H,xs[i]?=some x→ys[i]?=some y→H T=none→Pv i H→g (.ref T) (wipe σ vs) (upd H T (.tup [x,y])) fun σ2 H2=>wipe σ2 vs=wipe σ vs∧tt σ2 H2 fun b H3=>
   if b=true then te σ2 H3 fun y H4=>∃acc,H4 D=some (.lst acc)∧acc.length<sizeLine∧Pv (i+1) (upd H4 D (.lst (acc++[y]))) else Pv (i+1) H3)(hd:∀H,Pv xs.length H→Qd H) :
  ∃W:Nat→Nat→Hp→Prop,(∃m,W 0 m (upd H1 D (.lst [])))∧∀i m H,W i m H →
   ((Itz K a b).stop i H∧Qd H)∨((Itz K a b).go i H∧∃Nx:Hp→Prop,(∀H',Nx H'→∃m',m'<m∧W (i+1) m' H')∧∀x H',(Itz K a b).Wq i H x H'→g x (wipe σ vs) H' fun σ2 H2=>wipe σ2 vs=wipe σ vs∧tt σ2 H2 fun b H3=>
    if b=true then te σ2 H3 fun y H4=>∃acc,H4 D=some (.lst acc)∧acc.length<sizeLine∧Nx (upd H4 D (.lst (acc++[y]))) else Nx H3):=by
 refine⟨fun i m H=>m=xs.length-i∧i≤xs.length∧Pv i H,⟨xs.length,by simp,zero_le _,h0⟩,?_⟩;rintro i m H ⟨rfl,hi,p⟩;obtain⟨q1,q2⟩:=hl i H hi p;by_cases hlt:i<xs.length
 ·refine .inr ⟨⟨xs,ys,xs[i],ys[i]'(by omega),q1,q2,getElem?_eq_getElem hlt,getElem?_eq_getElem (by omega)⟩,Pv (i+1),fun H' p'=>⟨xs.length-(i+1),by omega,rfl,hlt,p'⟩,fun x H' y=>?_⟩;obtain⟨T,u,v,e1,hT,e2,hu,hv⟩:=y;subst e1 e2;exact hs i u v T H (hu xs q1) (hv ys q2) hT p
 ·have e:i=xs.length:=by omega
  subst e;exact .inl ⟨⟨xs,ys,q1,q2,.inl (le_refl _)⟩,hd H p⟩
def Ze:Sp:=fun vs H Q _=>∃(t n:Nat),vs=[.int (t:Int),.int (n:Int)]∧n≤1000∧∀H',Same H H'→Q (.int (Rb35.many n t:Int)) H'
def CW(K:PySem.W.Frag):Sp:=fun vs H Q _=>∃(t:Nat)(ol:Addr)(os:List Nat)(pl:Addr)(w:List Nat),vs=[.int (t:Int),.ref ol,.ref pl]∧H ol=some (.lst (nV os))∧bJ K H pl (nV w)∧os.length=w.length∧os.length≤1000∧∀(D:Addr)(H':Hp),H' D=some (.lst (zV (heldW t os w)))→Same H H'→Q (.ref D) H'
theorem Aj(t:Nat):∀(os w:List Nat)(i o a:Nat),os[i]?=some o→w[i]?=some a→heldW t (os.take (i+1)) (w.take (i+1))=heldW t (os.take i) (w.take i)++[if t.testBit o=true then -6 else (a:Int)]
 | [],w,i,o,a,h,_=>by simp at h
 |_::_,[],i,o,a,_,h=>by simp at h
 |x::os,y::w,0,o,a,h,h'=>by
  cases h;cases h';rfl
 |x::os,y::w,i+1,o,a,h,h'=>by
  have ih:=Aj t os w i o a h h';show _::heldW t (os.take (i+1)) (w.take (i+1))=(_::heldW t (os.take i) (w.take i))++_;rw[ih];rfl
section
variable{P:Program}{w:World}{K:PySem.W.Frag}{mg:Str→Option Value}{base:Heap}{cs:Cs}
theorem Mg:aH ["who","people","person"] ["who","people"] (au jA):=⟨rfl,rfl,rfl,by decide +kernel,rfl,by decide +kernel,by decide +kernel⟩
theorem aa5(T:bL K mg "how_many" jA)(hsum:mg "sum"=none)(zH:mg "range"=none):aX P w K mg base 1 "how_many" ["who","people"] Ze:=by
 obtain⟨f,fd,F,hm⟩:=T.ex;refine⟨f,fd,hm,F.kp,F.binds (fun _ _ _ _ _ _ us hl=>match us,hl with | [_,_],_=>rfl),okN F Mg (fun vs H Q E h=>?_) (fun cdv A outer s H vs Q E hr h=>?_)⟩
 ·obtain⟨t,n,rfl,_⟩:=h;rfl
 ·obtain⟨t,n,rfl,hn,kq⟩:=h;refine⟨_,aC (aZ (aQ (Tc rfl) (by rfl) hsum PyProof.Rows.boot_sum (ak (lY rfl Mg.nd (PL rfl zH (ak (pv 1) aA)) (cU (own:=[("person",2)]) (by show pN ["who","people","person"] (au jA) _ [("person",2)]=true;decide +kernel))
   (fun _ _ _ _ _=>bU (i:=2) Mg.nd rfl (Or.inl rfl)) (fun _ _ _ _ _=>gb) (fun _ _ _ _ _=>fj R9 (fj R8 (pv 0) (pv 2)) aR)) aA))),?_⟩
  refine⟨_,rfl,_,rfl,by omega,by omega,fun D hD=>?_⟩;rw[toNat_natCast];refine Gi (fun i H'=>H'=upd H D (.lst (nV ((List.range i).map fun j=>if t.testBit j=true then 1 else 0)))) rfl ?_ ?_
  ·rintro i H' hi rfl;refine⟨rfl,_,rfl,_,rfl,_,_,rfl,rfl,by omega,_,_,rfl,rfl,_,ao,?_,?_⟩
   ·rw[aK,length_map,length_range];exact lt_of_lt_of_le hi (le_trans hn (by decide))
   ·rw[gM,range_succ,map_append];show _=upd H D (.lst (nV (_++[_])));rw[iG];show upd H D (.lst (_++[V.int (Builtin.bitAnd ((t:Int) / 2^(0+(i:Int)).toNat) 1)]))=_;rw[Int.zero_add,adz]
  ·rintro H' rfl;refine⟨D,((List.range n).map fun j=>if t.testBit j=true then 1 else 0).map fun (i:Nat)=>(i:Int),rfl,bJ.of (by
    rw[ao];unfold nV;simp only[map_map];rfl),?_⟩
   have:=kq (upd H D (.lst (nV ((List.range n).map fun j=>if t.testBit j=true then 1 else 0)))) fun c o q=>by rw[aj (aB q hD)];exact q
   rw[←VH,←ac5]at this;exact this
theorem pD:aH ["left_out","owners","parts","owner","part"] ["left_out","owners","parts"] (au fB):=⟨rfl,rfl,rfl,by decide +kernel,rfl,by decide +kernel,by decide +kernel⟩
theorem Mh(T:bL K mg "held_without" fB)(VD:∃t,mg "MANY_SECRETS"=some (.int (-6) t))(aa6:mg "zip"=none):aX P w K mg base 1 "held_without" ["left_out","owners","parts"] (CW K):=by
 obtain⟨f,fd,F,hm⟩:=T.ex;obtain⟨tM,VD⟩:=VD;refine⟨f,fd,hm,F.kp,F.binds (fun _ _ _ _ _ _ us hl=>match us,hl with | [_,_,_],_=>rfl),okN F pD (fun vs H Q E h=>?_) (fun cdv A outer s0 H vs Q E hr h=>?_)⟩
 ·obtain⟨t,ol,os,pl,w,rfl,_⟩:=h;rfl
 ·obtain⟨t,ol,os,pl,w,rfl,hol,hpl,hle,hz,kq⟩:=h;refine⟨_,aC (aZ (lY rfl pD.nd (Z1 rfl aa6 (ak (pv 1) (ak (pv 2) aA))) (cU (own:=[("owner",3),("part",4)]) (by show pN ["left_out","owners","parts","owner","part"] (au fB) _ [("owner",3),("part",4)]=true;decide +kernel))
   (fun _ _ _ _ _=>Ew (K:=K) (n:=2) rfl rfl (jt (bU (i:=3) pD.nd rfl (Or.inl rfl)) (jt (bU (i:=4) pD.nd rfl (Or.inl rfl)) w6))) (fun _ _ _ _ _=>gb)
   (fun _ _ _ _ _=>Fx (aU gY (fj R9 (fj R8 (pv 0) (pv 3)) aR) aR (bf _)) (bh (v:=.int (-6)) (by rfl) VD ⟨tM,rfl⟩) (pv 4)))),?_⟩
  refine⟨_,rfl,_,rfl,ol,pl,_,_,rfl,bJ.of hol,hpl,fun D hD=>?_⟩;have s0:∀xs,Same H (upd H D (.lst xs)):=fun xs c o q=>by rw[aj (aB q hD)];exact q
  refine aa4 (xs:=nV os) (ys:=nV w) (fun i H'=>H' D=some (.lst (zV (heldW t (os.take i) (w.take i))))∧Same H H') (by rw[aK,aK];exact hle) ⟨by rw[ao];rfl,s0 _⟩ ?_ ?_ ?_
  ·rintro i H' _ ⟨_,s1⟩;exact⟨bJ.of (s1 _ _ hol),vL s1 hpl⟩
  ·rintro i x y T H' hx hy hT ⟨h1,s1⟩;unfold nV at hx hy;rw[getElem?_map]at hx hy;cases hk:os[i]? with
   |none=>rw[hk]at hx;cases hx
   |some o=>
    cases hk2:w[i]? with
    |none=>rw[hk2]at hy;cases hy
    |some a=>
     rw[hk]at hx;rw[hk2]at hy;cases hx;cases hy;have hi:=(List.getElem?_eq_some_iff.mp hk).1;have s2:Same H' (upd H' T (.tup [.int (o:Int),.int (a:Int)])):=fun c ob q=>by rw[aj (aB q hT)];exact q
     refine⟨T,_,rfl,tL.of ao,rfl,_,_,rfl,_,_,rfl,rfl,rfl,_,rfl,_,rfl,_,_,rfl,rfl,by omega,_,_,rfl,rfl,rfl,_,rfl,?_⟩;generalize upd H' T (.tup [.int (o:Int),.int (a:Int)])=H2 at s2;have hlz:(zV (heldW t (os.take i) (w.take i))).length<sizeLine:=by
      rw[dZ,rB t _ _ (by rw[length_take,length_take,hle]),length_take];exact lt_of_le_of_lt (min_le_left _ _) (lt_of_lt_of_le hi (le_trans hz (by decide)))
     have st:=Aj t os w i o a hk hk2;have fin:∀v:Int,(if t.testBit o=true then -6 else (a:Int))=v→∃acc,H2 D=some (.lst acc)∧acc.length<sizeLine∧((upd H2 D (.lst (acc++[V.int v]))) D=some (.lst (zV (heldW t (os.take (i+1)) (w.take (i+1)))))∧Same H (upd H2 D (.lst (acc++[V.int v])))):=fun v hv=>
      ⟨_,s2 _ _ h1,hlz,by rw[ao,st,Ez,hv],fun c ob q=>by rw[aj (aB q hD)];exact s2 _ _ (s1 _ _ q)⟩
     show if decide (V.int (Builtin.bitAnd ((t:Int) / 2^((o:Nat):Int).toNat) 1)=V.int 1)=true then _ else _
     rw[Yu];refine bY (fun hc=>?_) fun hc=>?_
     ·exact fin (-6) (if_pos hc)
     ·exact⟨_,rfl,fin (a:Int) (if_neg hc)⟩
  ·rintro H' ⟨h1,s1⟩;rw[aK,take_length,hle,take_length]at h1;exact kq D H' h1 s1
end
end Pg
namespace Xc
open PySem PySem.Spec PyProof.Rows L2
section
variable{P:Program}{w:World}{A:Around}{E:Value→Shared→Prop}{s:Shared}
theorem Jw{r:Addr}{a b c:Int}{t u v:PySem.Tok}{n:Nat}{Q:List Value→Shared→Prop}(hh:A.handled=none)(hr:IsRange s.heap r a b c t u v)(hsmall:Builtin.Range.small a b c=true)(hn:Builtin.Range.rangeSize a b c=n)(hlen:n≤2^24)(hQ:∀h' tk acc,s.heap.objs.size≤h'.objs.size→(∀b o,s.heap.get? b=some o→h'.get? b=some o)→ItemsOf (fun i v=>∃t,v=.int (a+i*c) t) acc n→Q acc.toList { s with heap:=h',toks:=tk }):wpAny (model P w) A (collect (.ref r)) Q E s:=by
 unfold collect;refine wpAny_bind (wpAny_runValue (codeAny_builtin F.entry_proto_collect ?_));rw[Around.under_plainId F.plain_proto_collect _];show wpAny _ A.in1 (newList [] >>= fun l=>again (.builtin "list.__iadd__" ⟨[l,.ref r],[]⟩)) _ _ s;refine wpAny_bind (wpAny_newObj_type (wpAny_pure ⟨plainId_quiet F.plain_list_iadd _,codeAny_builtin F.entry_list_iadd ?_⟩));rw[Around.under_plainId F.plain_list_iadd _];show wpAny _ A.in1 (Builtin.List.listExtendWith (.ref s.heap.objs.size) (.ref r) (.ref s.heap.objs.size)) _ _ _;refine wpAny_extend_range (R:=fun rr s'=>match rr with | .ok (.ret v)=>wpAny (model P w) A (match v with | .ref a=>(do let o ←load a;match o.data with | .seq xs _=>pure xs.toList|_=>unsupported "internal:collect")|_=>unsupported "internal:collect") Q E s' | .ok _=>False | .error e=>E e s') (s:={ s with heap:=s.heap.push { cls:=.type "list",data:=.seq #[] } }) hh (get?_push_of_some _ hr) hsmall hn hlen s.heap.objs.size (.ref s.heap.objs.size) 0 (get?_push_size _ rfl) fun h' tk acc c' hk hS hacc=>?_;show wpAny _ A (load s.heap.objs.size >>= _) _ _ _;refine wpAny_bind (wpAny_load hS (wpAny_pure (hQ h' tk acc (le_of_lt (lt_size hS)) (fun b o e=>hk b o (ne_of_lt (lt_size e)) (get?_push_of_some _ e)) hacc)))
end
structure Ct(outer:List Env)(P:Program)(w:World)(H:Hp)(s:Shared)(H':Hp)(s':Shared):Prop where
 os:s'.os=s.os
 bare:AllBare s'.gens
 un:Un (frs outer) [] H H' s.heap s'.heap
 hok:oF P w H' s'.heap
section
variable{outer:List Env}{P:Program}{w:World}{K:PySem.W.Frag}{mg:Str→Option Value}{base:Heap}{A A':Around}{H H':Hp}{s s':Shared}
theorem Ct.env(e0:uc P w K mg base A outer s H)(C:Ct outer P w H s H' s')(hA:A'.frames=A.frames){D:Addr}{o:Obj}(hD:s'.heap.get? D=some o)(hDs:s.heap.objs.size≤D):uc P w K mg base A' outer s' H':=by
 have all:∀(l:List Env),(∀b∈frs l,b∈frs outer)→s.heap.FunFrames base l→s'.heap.FunFrames base l:=by
  intro l
  induction l with
  |nil=>intro _ _;trivial
  |cons env r ih=>
   intro hs hl;obtain⟨hk,⟨L,o,hf,hn,ho,hd⟩,hr⟩:=hl;have hL:L∈frs outer:=hs L (by unfold frs;rw[filterMap_cons,hf];exact mem_cons_self);obtain⟨sl,e⟩:=C.un.slot L o ho (e0.RP L hL) hL (by simp);exact⟨hk,⟨L,_,hf,hn,e,hd⟩,ih (fun b hb=>hs b (by unfold frs;rw[filterMap_cons,hf];exact mem_cons_of_mem _ hb)) hr⟩
 refine⟨hA.trans e0.frames,e0.mod,fun b o e=>?_,le_trans e0.Px (le_trans hDs (le_of_lt (lt_size hD))),all outer (fun _ h=>h) e0.oG,fun b hb=>?_,C.hok,C.bare⟩
 ·obtain⟨e1,n1⟩:=e0.bs b o e;refine⟨C.un.keep b o e1 n1 (fun z=>?_) (by simp),C.un.free b o e1 n1 (by simp)⟩;have:=(e0.oG.mem z).1;rw[e]at this;cases this
 ·obtain⟨_,ob,hb2,_⟩:=e0.oG.mem hb;exact C.un.free b ob hb2 (e0.RP b hb) (by simp)
theorem Ct.kept(C:Ct outer P w H s H' s'){h':Heap}{tk:Nat}(k:∀b u,s'.heap.get? b=some u→h'.get? b=some u):Ct outer P w H s H' { s' with heap:=h',toks:=tk }:=
 ⟨C.os,C.bare,C.un.trans (Un.kept k),C.hok.kept k⟩
theorem Ct.turn(C:Ct outer P w H s H' s'){h':Heap}{tk:Nat}{it:Addr}(hit:s.heap.objs.size≤it)(hn:H' it=none)(k:∀b o,b≠it→s'.heap.get? b=some o→h'.get? b=some o):Ct outer P w H s H' { s' with heap:=h',toks:=tk }:=by
 have ne:∀{b:Addr}{o:Obj},s.heap.get? b=some o→b≠it:=fun e=>ne_of_lt (lt_of_lt_of_le (lt_size e) hit);refine⟨C.os,C.bare,⟨fun b o e n f x=>k b o (ne e) (C.un.keep b o e n f x),fun b o e n f x=>?_,C.un.free,fun b o e x=>?_,C.un.tups,C.un.kO,C.un.kW⟩,fun b u e=>?_⟩
 ·obtain⟨sl,e'⟩:=C.un.slot b o e n f x;exact⟨sl,k b _ (ne e) e'⟩
 ·obtain⟨o',e'⟩:=C.un.there b o e x;exact⟨o',k b o' (ne e) e'⟩
 ·have RQ:∀{b:Addr}{u:HO},H' b=some u→b≠it:=fun e z=>by rw[z,hn]at e;cases e
  refine(C.hok b u e).stay (fun c v hc q=>k c v ?_ q) (fun _ q=>q) fun _ _ q=>q;rcases hc with z|z
  ·rw[z];exact RQ e
  ·exact RQ z
theorem Ct.refl(hok:oF P w H s.heap)(hb:AllBare s.gens):Ct outer P w H s H s:=⟨rfl,hb,Un.refl,hok⟩
theorem Ct.ask{k:Nat}{f D:Addr}{o:Obj}{sp:Sp}{u:Value}{v:V}{Q:VK}{E:Value→Shared→Prop}(e0:uc P w K mg base A outer s H)(C:Ct outer P w H s H' s')(F:wC P w K mg base k f sp)(hA:A'.frames=A.frames)(hr:cY k A')(hD:s'.heap.get? D=some o)(hDs:s.heap.objs.size≤D)(rv:RelV v u)(h:sp [v] H' Q E0) :
  wpAny (model P w) A' (call (.ref f) [u]) (fun u2 s2=>∃v2 H2,Ct outer P w H s H2 s2∧Un (frs outer) [] H' H2 s'.heap s2.heap∧RelV v2 u2∧Q v2 H2) E s':=by
 refine wpAny_call (codeAny_mono (F.2 A' outer s' H' u v Q E0 hr (C.env e0 hA hD hDs) rv h) fun rr s2 hq=>?_);cases rr with
 |error e=>
  obtain⟨_,_,_,_,_,_,_,f⟩:=hq;exact f.wish.elim
 |ok fl=>
  cases fl with
  |next=>exact False.elim hq
  |brk=>exact False.elim hq
  |cont=>exact False.elim hq
  |ret u2=>
   obtain⟨v2,H2,os,bare,un,hok,r2,q2⟩:=hq;exact⟨v2,H2,⟨os.trans C.os,bare,C.un.trans un,hok⟩,un,r2,q2⟩
end
def rP(h:Heap)(v:Value)(x y:Int):Prop:=∃a t u,v=.ref a∧IsTup h a #[.int x t,.int y u]
abbrev Zf:Nat→Bool:=fun _=>false
theorem rP.tup{h:Heap}{v:Value}{x y:Int}(k:rP h v x y):∃f,TupOf h Zf v f:=by
 obtain⟨a,t,u,e,o,ho,hc,n,hd⟩:=k;exact⟨.int x t,a,o,_,n,e,ho,hc,hd,rfl,fun _=>⟨x,t,rfl⟩,fun z=>by cases z⟩
theorem rP.adB{h:Heap}{v:Value}{x y:Int}(k:rP h v x y):G.tupKeyC h Zf v=some [.inl x,.inl y]:=by
 obtain⟨a,t,u,rfl,o,ho,hc,n,hd⟩:=k;simp[G.tupKeyC,G.isTupObj,ho,hc,hd,tupKey,tupItems]
theorem CZ{h:Heap}:∀{vs:List Value},(∀v∈vs,∃x y,rP h v x y)→∃fs,TupsOf h Zf vs fs
 | [],_=>⟨[],.nil⟩
 |v::vs,hv=>by
  obtain⟨x,y,k⟩:=hv v (by simp);obtain⟨f,tf⟩:=k.tup;obtain⟨fs,r⟩:=CZ (vs:=vs) fun u hu=>hv u (by simp[hu]);exact⟨f::fs,.cons tf r⟩
theorem aa7{h:Heap}{g:Nat→Int}{n:Nat}{keys items:Array Value}{xs:Array Keyed}(hk:keys.size=n)(hi:items.size=n)(key:∀(i:Nat) v,keys[i]?=some v→rP h v (g i) (i:Int))(it:∀(i:Nat) v,items[i]?=some v→∃t,v=.int (i:Int) t)(hp:xs.Perm (keys.zip items))(hs:SortedToK (G.tupKindC h Zf) xs xs.size) :
  ∃ys:List Nat,Vals (ys.map fun y:Nat=>V.int (y:Int)) (xs.map (·.2)).toList∧ys.Perm (List.range n)∧ys.Pairwise fun a b=>g a<g b∨(g a=g b∧a≤b):=by
 have hl:xs.toList.Perm (keys.zip items).toList:=Array.perm_iff_toList_perm.mp hp;have hz:∀(i:Nat) p,(keys.zip items).toList[i]?=some p→∃t,p.2=.int (i:Int) t∧rP h p.1 (g i) (i:Int):=fun i p e=>by
  rw[Array.toList_zip,List.getElem?_zip_eq_some]at e;obtain⟨e1,e2⟩:=e;rw[Array.getElem?_toList]at e1 e2;obtain⟨t,ht⟩:=it i _ e2;exact⟨t,ht,key i _ e1⟩
 have hm:∀p∈xs.toList,∃(i:Nat)(t:PySem.Tok),p.2=.int (i:Int) t∧rP h p.1 (g i) (i:Int):=fun p e=>by
  obtain⟨i,hi'⟩:=List.mem_iff_getElem?.mp (hl.mem_iff.mp e);exact⟨i,hz i p hi'⟩
 have nn:∀(i:Nat) t,(numOf (.int (i:Int) t)).toNat=i:=fun i t=>by show ((i:Int)).toNat=i;omega
 refine⟨xs.toList.map fun p=>(numOf p.2).toNat,?_,?_,?_⟩
 ·rw[Array.toList_map,map_map];have:∀l:List Keyed,(∀p∈l,∃(i:Nat)(t:PySem.Tok),p.2=Value.int (i:Int) t)→Vals (l.map ((fun y:Nat=>V.int (y:Int)) ∘ fun p=>(numOf p.2).toNat)) (l.map (·.2)):=fun l=>by
   induction l with
   |nil=>intro _;exact .nil
   |cons p l ih=>
    intro hh;obtain⟨i,t,e⟩:=hh p (by simp);refine .cons ?_ (ih fun q hq=>hh q (by simp[hq]));show RelV (V.int (((numOf p.2).toNat:Nat):Int)) p.2;rw[e,nn];exact⟨t,rfl⟩
  exact this _ fun p hp=>by obtain⟨i,t,e,_⟩:=hm p hp;exact⟨i,t,e⟩
 ·have e:((keys.zip items).toList.map fun p=>(numOf p.2).toNat)=List.range n:=by
   refine List.ext_getElem? fun i=>?_;rw[getElem?_map];cases q:(keys.zip items).toList[i]? with
   |none=>
    have:(keys.zip items).toList.length≤i:=List.getElem?_eq_none_iff.mp q;rw[Array.toList_zip,List.length_zip,Array.length_toList,Array.length_toList,hk,hi,min_self]at this;rw[List.getElem?_eq_none_iff.mpr (by rw[length_range];exact this)];rfl
   |some p=>
    obtain⟨t,e,_⟩:=hz i p q;have:i<(keys.zip items).toList.length:=(List.getElem?_eq_some_iff.mp q).1;rw[Array.toList_zip,List.length_zip,Array.length_toList,Array.length_toList,hk,hi,min_self]at this;rw[List.getElem?_range this];show some (numOf p.2).toNat=_;rw[e,nn]
  rw[←e];exact hl.map _
 ·rw[pairwise_map,List.pairwise_iff_getElem];intro i j h1 h2 hij;have h1':i<xs.size:=by simpa using h1
  have h2':j<xs.size:=by simpa using h2
  have q:=hs i j (le_of_lt hij) h2';have kk:∀(i:Nat)(hh:i<xs.toList.length),KK (G.tupKindC h Zf) xs i=[.inl (g (numOf (xs.toList[i]).2).toNat),.inl (((numOf (xs.toList[i]).2).toNat:Nat):Int)]:=fun i hh=>by
   obtain⟨y,t,e,ka⟩:=hm _ (getElem_mem hh);have hx:xs[i]?=some (xs.toList[i]):=by rw[←Array.getElem?_toList,getElem?_eq_getElem hh]
   unfold KK;rw[hx,e,nn];show (G.tupKeyC h Zf (xs.toList[i]).1).getD []=_;rw[ka.adB];rfl
  rw[kk i h1,kk j h2]at q;generalize (numOf (xs.toList[i]).2).toNat=a at q ⊢;generalize (numOf (xs.toList[j]).2).toNat=b at q ⊢;have q':lexLt itemOrd [.inl (g b),.inl (b:Int)] [.inl (g a),.inl (a:Int)]=false:=q;obtain⟨q1,q2⟩:=lex_false.mp q';have q1':decide (g b<g a)=false:=q1;rcases q2 with q2|q2
  ·have q2':decide (g a<g b)=true:=q2;exact .inl (of_decide_eq_true q2')
  ·obtain⟨q3,_⟩:=lex_false.mp q2;have q3':decide ((b:Int)<(a:Int))=false:=q3;have z1:=of_decide_eq_false q1';have z3:=of_decide_eq_false q3';by_cases c:g a<g b
   ·exact .inl c
   ·exact .inr ⟨by omega,by omega⟩
def Kst(outer:List Env)(P:Program)(w:World)(H:Hp)(s:Shared)(g:Nat→Int)(D kS:Addr)(e1:Nat)(j:Nat)(s':Shared):Prop:=
 ∃(H':Hp)(kA:Array Value)(e:Nat),Ct outer P w H s H' s'∧Same H H'∧s'.heap.get? kS=some (seqObj "list" kA e)∧H' kS=none∧s'.heap.get? D=some (seqObj "list" #[] e1)∧H' D=none∧kA.size=j ∧
  ∀(i:Nat) v,kA[i]?=some v→∃a,v=.ref a∧H' a=some (.tup [.int (g i),.int (i:Int)])
def Srt(outer:List Env)(P:Program)(w:World)(H:Hp)(s:Shared)(g:Nat→Int)(n:Nat)(D:Addr)(s':Shared):Prop:=
 ∃(H':Hp)(out:Array Value)(c:Nat)(ys:List Nat),Ct outer P w H s H' s'∧Same H H'∧s'.heap.get? D=some (seqObj "list" out c)∧H' D=none∧Vals (ys.map fun y:Nat=>V.int (y:Int)) out.toList∧ys.Perm (List.range n)∧ys.Pairwise fun a b=>g a<g b∨(g a=g b∧a≤b)
theorem n8{h:Heap}{a:Addr}{f:Obj→Obj}:∀b o,b≠a→h.get? b=some o→(h.update a f).get? b=some o:=fun b o hb e=>((Heap.SameBut.update h a f).2 b hb).trans e
section
variable{outer:List Env}{P:Program}{w:World}{K:PySem.W.Frag}{mg:Str→Option Value}{base:Heap}{A A':Around}{H:Hp}{s s':Shared}{E:Value→Shared→Prop}{k n e1:Nat}{f D kS:Addr}{sp:Sp}{g:Nat→Int}{items keys:Array Value}{Q:PySem.Fin→Shared→Prop}
theorem Yx{H':Hp}{e:Nat}(hD:s.heap.objs.size≤D)(hK:s.heap.objs.size≤kS)(hne:kS≠D)(hil:items.size=n)(it:∀(i:Nat) v,items[i]?=some v→∃t,v=.int (i:Int) t)(h2:2≤n)(hn:n≤2^24)(C:Ct outer P w H s H' s')(sm:Same H H')(hk:s'.heap.get? kS=some (seqObj "list" keys e))(nk:H' kS=none)(hd:s'.heap.get? D=some (seqObj "list" #[] e1))(nd:H' D=none)(hz:keys.size=n)(hkey:∀(i:Nat) v,keys[i]?=some v→∃a,v=.ref a∧H' a=some (.tup [.int (g i),.int (i:Int)]))(h:∀s2,Srt outer P w H s g n D s2→Q (.done (.ret .none)) s2):wpAny (model P w) A' (ksk_end D false items e1 (.ref kS) keys) Q E s':=by
 have key:∀(i:Nat) v,keys[i]?=some v→rP s'.heap v (g i) (i:Int):=fun i v q=>by
  obtain⟨a,rfl,ha⟩:=hkey i v q;obtain⟨_,its,hv,ht⟩:=C.hok a _ ha;obtain⟨t,u,rfl⟩:∃t u,its=[Value.int (g i) t,Value.int (i:Int) u]:=by
   cases hv with
   |cons r1 hv=>
    cases hv with
    |cons r2 hv=>
     cases hv;obtain⟨t,rfl⟩:=r1;obtain⟨u,rfl⟩:=r2;exact⟨t,u,rfl⟩
  exact⟨a,t,u,rfl,ht⟩
 have hall:∀v∈keys.toList,∃x y,rP s'.heap v x y:=fun v hv=>by
  obtain⟨i,q⟩:=List.mem_iff_getElem?.mp hv;rw[Array.getElem?_toList]at q;exact⟨_,_,key i v q⟩
 obtain⟨fs,ht⟩:=CZ hall;have hzz:(keys.zip items).size=n:=by rw[Array.size_zip,hz,hil,min_self]
 have h2':¬items.size<2:=by omega
 have hf:fs.length=n:=by rw[G.TupsOf.length ht,Array.length_toList,hz]
 unfold ksk_end
 try dsimp only
 simp only[false_eq_true,if_false];rw[if_neg h2',if_neg h2'];refine wpAny_bind ?_;rw[←Array.toArray_toList (xs:=keys)];refine tup_kind (by omega) ht ?_;rw[Array.toArray_toList];refine wpAny_bind (wpAny_mono (G.wpS_sortRunsSt (κ:=G.tupKindC s'.heap Zf) (kd:=tuples' true) (a₀:=keys.zip items) (st:=SortSt.mk' (tuples' true) (keys.zip items) #[] 7 none)
  (Q:=fun _ st'=>(arrOf st').Perm (keys.zip items)∧failedOf st'=none∧SortedToK (G.tupKindC s'.heap Zf) (arrOf st') (arrOf st').size)
  (G.tupC_ltAt true (G.KeepsTups.refl _)) (fun p hp=>?_) ⟨Array.Perm.refl _,rfl,rfl⟩ rfl (Stable.refl _) (by rw[hzz];exact h2) fun st' a1 a2 a3 _=>⟨a1,a2,by rw[a1.size_eq];exact a3⟩) ?_ fun _ _ z=>z)
 ·rw[Array.toList_zip]at hp;obtain⟨x,y⟩:=p;obtain⟨x1,y1,ka⟩:=hall _ (of_mem_zip hp).1;exact⟨_,ka.adB⟩
 ·rintro⟨⟨⟩,st'⟩ s2 ⟨es,hp,hfl,hs⟩;rw[es]
  try dsimp only
  obtain⟨ys,y1,y2,y3⟩:=aa7 hz hil key it hp hs;have hsz2:(arrOf st').size=n:=by rw[hp.size_eq,hzz]
  have C1:=C.turn (h':=s'.heap.update kS (Obj.mapSeq fun _=>(#[]:Array Value))) (tk:=s'.toks) hK nk n8;have hd1:(s'.heap.update kS (Obj.mapSeq fun _=>(#[]:Array Value))).get? D=some (seqObj "list" #[] e1):=n8 D _ (Ne.symm hne) hd;obtain⟨c2,hc2⟩:∃c2,((s'.heap.update kS (Obj.mapSeq fun _=>(#[]:Array Value))).update D (Obj.mapSeq fun _=>(arrOf st').map (·.2))).get? D=some (seqObj "list" ((arrOf st').map (·.2)) c2):=⟨_,get?_update_seq hd1 fun _=>(arrOf st').map (·.2)⟩;have C2:=C1.turn (h':=(s'.heap.update kS (Obj.mapSeq fun _=>(#[]:Array Value))).update D (Obj.mapSeq fun _=>(arrOf st').map (·.2))) (tk:=s'.toks) hD nd n8;unfold ksk_tail
  try dsimp only
  refine wpAny_bind (listUpdate_at hk rfl ?_ (by rw[hz,sizeLine_eq];omega) (zero_le _));refine wpAny_bind (wpAny_letGo ?_);refine wpAny_bind (seqEpoch_at hd1 rfl ?_);refine wpAny_bind (listUpdate_at hd1 rfl ?_ (zero_le _) (by simp only[false_eq_true,if_false];rw[Array.size_map,hsz2,sizeLine_eq];omega));rw[hfl];simp only[bne_self_eq_false,false_eq_true,if_false];exact wpAny_pure (h _ ⟨H',_,c2,ys,C2,sm,hc2,nd,y1,y2,y3⟩)
theorem VJ(e0:uc P w K mg base A outer s H)(hA:A'.frames=A.frames)(F:wC P w K mg base k f sp)(hr:cY k A')(hD:s.heap.objs.size≤D)(hK:s.heap.objs.size≤kS)(hne:kS≠D)(hil:items.size=n)(it:∀(i:Nat) v,items[i]?=some v→∃t,v=.int (i:Int) t)(h2:2≤n)(hn:n≤2^24)(hsp:∀(j:Nat)(H1:Hp)(R:VK),j<n→(∀a H2,H2 a=some (.tup [.int (g j),.int (j:Int)])→Same H1 H2→R (.ref a) H2)→sp [.int (j:Int)] H1 R E0)(I0:Kst outer P w H s g D kS e1 0 s')(h:∀s2,Srt outer P w H s g n D s2→Q (.done (.ret .none)) s2):wpAny (model P w) A' (ksk_rest D (.ref f) false items e1 (.ref kS)) Q E s':=by
 have nf:∀b,s.heap.objs.size≤b→b∉frs outer:=fun b hb z=>by
  obtain⟨_,ob,ho,_⟩:=e0.oG.mem z;exact absurd (lt_of_lt_of_le (lt_size ho) hb) (lt_irrefl _)
 unfold ksk_rest;refine wpAny_bind (wpAny_rule ?_)
 first
  |rw[List.forIn_toArray]
  | (rw[←Array.forIn_toList];simp only[toList_toArray])
  |rw[←Array.forIn_toList]
 refine wpAny_bind (ksk_fold (fun j s1=>Kst outer P w H s g D kS e1 j s1) items.toList 0 s' I0 ?step ?done)
 case step=>
  rintro j x s1 hx ⟨H1,kA,e,C,sm,hk,nk,hd,nd,hz,hkey⟩;rw[Array.getElem?_toList]at hx;simp only[zero_add]at hz ⊢;have hj:j<n:=by rw[←hil];exact(Array.getElem?_eq_some_iff.mp hx).1
  obtain⟨t,rfl⟩:=it j x hx;refine wpAny_bind (wpAny_attempt (wpAny_mono (Ct.ask (A':=A') (v:=.int (j:Int)) (Q:=fun v H2=>∃a,v=.ref a∧H2 a=some (.tup [.int (g j),.int (j:Int)])∧Same H1 H2) e0 C F hA hr hk hK ⟨t,rfl⟩ (hsp j H1 _ hj fun a H2 ha s2=>⟨a,rfl,ha,s2⟩)) (fun u2 s2 hq=>?_) fun _ _ z=>z));obtain⟨v2,H2,C2,un,rv,a,rfl,ha,s12⟩:=hq;have rv':u2=.ref a:=rv;subst rv'
  try dsimp only
  have hk2:=un.keep kS _ hk nk (nf kS hK) (by simp);have nk2:=un.free kS _ hk nk (by simp);have hd2:=un.keep D _ hd nd (nf D hD) (by simp);have nd2:=un.free D _ hd nd (by simp);obtain⟨c2,hc2⟩:∃c2,(s2.heap.update kS (Obj.mapSeq (·.push (.ref a)))).get? kS=some (seqObj "list" (kA.push (.ref a)) c2):=⟨_,get?_update_seq hk2 (·.push (.ref a))⟩;refine wpAny_bind (listUpdate_at hk2 rfl ?_ (by rw[sizeLine_eq];omega) (le_trans (le_of_eq (Array.size_push ..)) (by rw[sizeLine_eq];omega)));refine wpAny_pure ⟨rfl,H2,kA.push (.ref a),c2,C2.turn (tk:=s2.toks) hK nk2 n8,fun b o q=>s12 _ _ (sm b o q),hc2,nk2,n8 D _ (Ne.symm hne) hd2,nd2,by rw[Array.size_push,hz],fun i v q=>?_⟩;rw[Array.getElem?_push]at q;by_cases c:i=kA.size
  ·rw[if_pos c]at q;cases q;rw[c,hz];exact⟨a,rfl,ha⟩
  ·rw[if_neg c]at q;obtain⟨a',e',q'⟩:=hkey i v q;exact⟨a',e',un.tups _ _ q'⟩
 case done=>
  rintro s1 ⟨H1,kA,e,C,sm,hk,nk,hd,nd,hz,hkey⟩;rw[zero_add,Array.length_toList,hil]at hz
  try dsimp only
  refine wpAny_bind (listItems_at hk rfl ?_);exact Yx hD hK hne hil it h2 hn C sm hk nk hd nd hz hkey h
end
section
variable{outer:List Env}{P:Program}{w:World}{K:PySem.W.Frag}{mg:Str→Option Value}{base:Heap}{A A':Around}{H:Hp}{s s':Shared}{E:Value→Shared→Prop}{k n:Nat}{f r:Addr}{sp:Sp}{g:Nat→Int}{Q:Value→Shared→Prop}
theorem VL(e0:uc P w K mg base A outer s H)(F:wC P w K mg base k f sp)(hr:cY (k+2) A)(hg:H r=some (.rng 0 (n:Int)))(h2:2≤n)(hn:n≤2^24)(hsp:∀(j:Nat)(H1:Hp)(R:VK),j<n→(∀a H2,H2 a=some (.tup [.int (g j),.int (j:Int)])→Same H1 H2→R (.ref a) H2)→sp [.int (j:Int)] H1 R E0)(h:∀D s2,s.heap.objs.size≤D→Srt outer P w H s g n D s2→Q (.ref D) s2):wpAny (model P w) A (call (.builtin "sorted") [.ref r] [(Str.ofString "key",.ref f)]) Q E s:=by
 obtain⟨t,u,v,hrg⟩:=e0.hok r _ hg;have hsm:Builtin.Range.small 0 (n:Int) 1=true:=by
  exact small_one (by decide) (by decide) (by omega) (by omega)
 have hsz:Builtin.Range.rangeSize 0 (n:Int) 1=n:=by
  rw[rangeSize_one];split<;>omega
 refine call_function_entry_kw kind_sorted plain_sorted entry_sorted (ksk_s1 _ _) ?_;unfold Builtin.«sorted»;refine wpAny_bind (m:=checkCount "sorted" 1 1 _) (wpAny_pure ?_);refine wpAny_bind (Jw hr.hd hrg hsm hsz hn fun h' tk acc hle keep hacc=>?_);obtain⟨ha1,ha2⟩:=hacc;have it:∀(i:Nat) v,acc[i]?=some v→∃t,v=.int (i:Int) t:=fun i v q=>by
  obtain⟨t,e⟩:=ha2 i v q;have z:(0:Int)+(i:Int)*1=i:=by omega
  exact⟨t,by rw[e,z]⟩
 refine wpAny_bind (wpAny_newList ?_ (by rw[Array.length_toList,ha1,sizeLine_eq];omega));have hoL:(h'.push (seqObj "list" acc.toList.toArray 0)).get? h'.objs.size=some (seqObj "list" acc.toList.toArray 0):=get?_push_size _ rfl;refine wpAny_bind (wpAny_holding (wpAny_call_entry_kw slot_list_sort ⟨_,hoL,rfl⟩ entry_list_sort ?body (ksk_l1 _ _)))
 case body=>
  show wpAny (model P w) A.in1.in1 (Builtin.«list.sort» ⟨[.ref h'.objs.size],[(Str.ofString "key",.ref f)]⟩) _ _ _;rw[ksk_t1];have C0:Ct outer P w H s H { s with heap:=h',toks:=tk }:=(Ct.refl e0.hok e0.bare).kept keep;have C1:Ct outer P w H s H { s with heap:=h'.push (seqObj "list" acc.toList.toArray 0),toks:=tk }:=C0.kept fun b u q=>get?_push_of_some _ q;have nD:H h'.objs.size=none:=C0.hok.fresh (le_refl _);obtain⟨e1,ho1⟩:∃e1,((h'.push (seqObj "list" acc.toList.toArray 0)).update h'.objs.size (Obj.mapSeq fun _=>(#[]:Array Value))).get? h'.objs.size=some (seqObj "list" #[] e1):=⟨_,get?_update_seq hoL fun _=>#[]⟩;have C2:Ct outer P w H s H { s with heap:=(h'.push (seqObj "list" acc.toList.toArray 0)).update h'.objs.size (Obj.mapSeq fun _=>(#[]:Array Value)),toks:=tk }:=C1.turn hle nD n8;have C3:Ct outer P w H s H { s with heap:=((h'.push (seqObj "list" acc.toList.toArray 0)).update h'.objs.size (Obj.mapSeq fun _=>(#[]:Array Value))).push (seqObj "tuple" acc.toList.toArray 0),toks:=tk }:=C2.kept fun b u q=>get?_push_of_some _ q;have C4:Ct outer P w H s H { s with heap:=(((h'.push (seqObj "list" acc.toList.toArray 0)).update h'.objs.size (Obj.mapSeq fun _=>(#[]:Array Value))).push (seqObj "tuple" acc.toList.toArray 0)).push (seqObj "list" #[] 0),toks:=tk }:=C3.kept fun b u q=>get?_push_of_some _ q;have hkS:(((h'.push (seqObj "list" acc.toList.toArray 0)).update h'.objs.size (Obj.mapSeq fun _=>(#[]:Array Value))).push (seqObj "tuple" acc.toList.toArray 0)).objs.size=h'.objs.size+2:=by rw[size_push',Heap.size_update,size_push']
  unfold ksk_tree;refine wpAny_bind (listItems_at hoL rfl ?_);refine wpAny_bind (listUpdate_at hoL rfl ?_ (by rw[size_toArray,Array.length_toList,ha1,sizeLine_eq];omega) (zero_le _));refine wpAny_bind (seqEpoch_at ho1 rfl ?_);refine wpAny_bind (wpAny_newTuple ?_ (by rw[toList_toArray,Array.length_toList,ha1,sizeLine_eq];omega));refine wpAny_bind (wpAny_newList ?_ (zero_le _));refine wpAny_holding ?_;have hr':cY k A.in1.in1:=hr.in1.in1;refine VJ (s:=s) (H:=H) (A:=A) (g:=g) (n:=n) (kS:=(((h'.push (seqObj "list" acc.toList.toArray 0)).update h'.objs.size (Obj.mapSeq fun _=>(#[]:Array Value))).push (seqObj "tuple" acc.toList.toArray 0)).objs.size) e0 rfl F hr' hle (by rw[hkS];exact le_trans hle (le_add_right _ 2)) (by rw[hkS];exact ne_of_gt (Nat.lt_add_of_pos_right (by decide))) (by rw[size_toArray,Array.length_toList,ha1]) (fun i v q=>it i v (by simpa using q)) h2 hn hsp
   ⟨H,#[],0,C4,fun _ _ q=>q,get?_push_size _ rfl,C3.hok.fresh (le_refl _),get?_push_of_some _ (get?_push_of_some _ ho1),nD,rfl,fun i v q=>by simp at q⟩ fun s2 hs=>⟨_,rfl,?_⟩
  exact wpAny_pure ⟨_,rfl,h _ s2 hle hs⟩
end
theorem VN{X:Cx}:pK X (.type "range") fun vs H Q=>∃j:Int,vs=[.int j]∧∀p,H p=none→Q (.ref p) (upd H p (.rng 0 j)):=by
 intro pins s σ H xs us Q I rv ⟨j,e,q⟩;subst e;cases rv with
 |cons r rr=>
  cases rr;obtain⟨t,rfl⟩:=r;refine call_range_1 ?_;have hf:H s.heap.objs.size=none:=I.hok.fresh (le_refl _);exact⟨.ref s.heap.objs.size,upd H s.heap.objs.size (.rng 0 j),I.laid (t':=s.toks+1+1) (fun b u e=>get?_push_of_some _ e) (le_refl _) ⟨_,_,_,get?_push_size _ rfl⟩,rfl,q _ hf⟩
theorem Srt.ce{outer:List Env}{P:Program}{w:World}{H:Hp}{s s':Shared}{g:Nat→Int}{n:Nat}{D:Addr}{Q:VK}(hn:n≤2^24)(hD:s.heap.objs.size≤D)(S:Srt outer P w H s g n D s')(q:∀(D:Addr)(H':Hp)(ys:List Nat),H' D=some (.lst (ys.map fun y:Nat=>V.int (y:Int)))→ys.Perm (List.range n)→(ys.Pairwise fun a b=>g a<g b∨(g a=g b∧a≤b))→Same H H'→Q (.ref D) H'):CE outer P w H s Q (.ref D) s':=by
 obtain⟨H',out,c,ys,C,sm,hd,nd,rv,pm,pw⟩:=S;have ne:∀{b:Addr}{u:HO},H' b=some u→b≠D:=fun e z=>by rw[z,nd]at e;cases e
 have old:∀{b:Addr}{o:Obj},s.heap.get? b=some o→b≠D:=fun e=>ne_of_lt (lt_of_lt_of_le (lt_size e) hD);refine⟨.ref D,upd H' D (.lst (ys.map fun y:Nat=>V.int (y:Int))),C.os,C.bare,⟨C.un.keep,C.un.slot,fun b o e n x=>?_,C.un.there,fun b xs e=>?_,fun b o u e=>?_,fun b ps e=>?_⟩,fun b u e=>?_,rfl,q D _ ys ao pm pw fun b o e=>?_⟩
 ·rw[aj (old e)];exact C.un.free b o e n x
 ·have:=C.un.tups b xs e;rw[aj (ne this)];exact this
 ·have:=C.un.kO b o u e;rw[aj (ne this)];exact this
 ·obtain⟨more,this⟩:=C.un.kW b ps e;exact⟨more,by rw[aj (ne this)];exact this⟩
 ·by_cases hb:b=D
  ·subst hb;rw[ao]at e;cases e;refine⟨?_,out.toList,c,rv,by rw[Array.toArray_toList];exact hd⟩;rw[length_map,pm.length_eq,length_range,sizeLine_eq];omega
  ·rw[aj hb]at e;refine(C.hok b u e).stay (fun c v _ q=>q) (fun _ q=>by rw[aj (ne q)];exact q) fun _ _ q=>by rw[aj (ne q)];exact q
 ·have:=sm b o e;rw[aj (ne this)];exact this
def aa8(X:Cx)(k:Nat)(qual:Str)(params:Arguments)(body:Expr)(scope:Scope)(clos:List (Str×Addr))(tE:Pos)(T:Addr)(t1:TE):TE:=fun σ H Q=>t1 σ H fun v1 H1=>
 ∃(r:Addr)(n:Nat)(ps:Array Value),v1=.ref r∧H1 r=some (.rng 0 (n:Int))∧2≤n∧n≤2^24∧H1 T=some (.pJ ps)∧TriplesOk ps.toList∧codeAmong tE ps.toList=none∧∃g:Nat→Int,∀more base' f,Iz base' f qual params body scope clos→xM X.env X.N σ base' →
  ∃sp:Sp,wC X.prog X.w X.K X.mg base' k f sp∧(∀(j:Nat)(H1:Hp)(R:VK),j<n→(∀a H2,H2 a=some (.tup [.int (g j),.int (j:Int)])→Same H1 H2→R (.ref a) H2)→sp [.int (j:Int)] H1 R E0) ∧
   ∀(D:Addr)(H':Hp)(ys:List Nat),H' D=some (.lst (ys.map fun y:Nat=>V.int (y:Int)))→ys.Perm (List.range n)→(ys.Pairwise fun a b=>g a<g b∨(g a=g b∧a≤b))→Same (upd H1 T (.pJ (ps++more))) H'→Q (.ref D) H'
theorem VP{X:Cx}{k:Nat}{c T:Addr}{e1:Expr}{t1:TE}{params:Arguments}{body:Expr}{scope:Scope}{clos:List (Str×Addr)}{p pos tE kp:Pos}(hr:cY (k+2) X.A)(hg:Gl X "sorted")(hm:X.mg "sorted"=none)(h1:PE X e1 t1)(hfn:∀x,X.fn x=true)(hcode:X.env.code=.ref c)(C:CodeHd X.base c T)(hbm:BMain X.mg X.base)(hcl:closureFor scope X.env=pure clos)(hdef:defaultsOf params X.env=([],[]))(he1:starEach [e1] X.env=[(false,eval e1 X.env)]:=by rfl) :
  PE X (.Call (.Name "sorted" p) [e1] [⟨some "key",.Lambda params body scope tE,kp⟩] pos) (aa8 X k (X.env.qual++"<lambda>") params body scope clos tE T t1):=by
 intro pins s σ H Q I h;refine wpAny_Call_Name_kw (rR I hg hm PyProof.Rows.boot_sorted ?_);refine callWith_kw (rest:=[]) ?_ (by rw[he1];rfl) (by rw[he1];rfl);rw[he1];refine Calls.spliced_cons (dH (h1 pins s σ H _ I h) fun u1 s1 ⟨v1,H1,I1,r1,q1⟩=>Calls.spliced_nil ?_);obtain⟨r,n,ps,rfl,hrg,h2,hn,hT,ht,hnf,g,q⟩:=q1;have r1':u1=.ref r:=r1;subst r1';refine kws_cons (IW I1 hcode C hT ht hnf hbm hcl hdef fun f s3 more I3 L=>kws_nil ?_);obtain⟨sp,F,hsp,kq⟩:=q more _ f L (IK I3 hfn);show wpAny (model X.prog X.w) X.A (call (.builtin "sorted") [.ref r] [(Str.ofString "key",.ref f)]) _ _ s3;refine VL (Za I3) F hr (by rw[aj (iW hrg hT (by simp))];exact hrg) h2 hn hsp fun D s2 hD S=>I3.after (S.ce hn hD kq)
def aa9(base0:Heap)(sp:Heap→Sp)(qual:Str)(env:Env)(N:List Str)(params:Arguments)(body:Expr)(scope:Scope)(clos:List (Str×Addr))(tE:Pos)(P:Addr)(t1 t2:TE):TE:=fun σ H Q=>t1 σ H fun v1 H1=>t2 σ H1 fun v2 H2=>
 ∃ps,H2 P=some (.pJ ps)∧TriplesOk ps.toList∧codeAmong tE ps.toList=none∧∀more base' f,(∀b o,base0.get? b=some o→base'.get? b=some o)→Iz base' f qual params body scope clos→xM env N σ base'→sp base' [v1,v2,.ref f] (upd H2 P (.pJ (ps++more))) Q E0
theorem VR{X:Cx}{k:Nat}{x:Str}{ps:List Str}{sp:Heap→Sp}{c P:Addr}{e1 e2:Expr}{t1 t2:TE}{params:Arguments}{body:Expr}{scope:Scope}{clos:List (Str×Addr)}{p pos tE:Pos}{g:Addr}{fd:FuncData}(F:∀base:Heap,iT X.prog X.w X.K X.mg base (bI X.prog X.w) k g fd ps (sp base))(hb:Binds X.K fd ps [])(hr:cY k X.A)(hg:Gl X x)(hm:X.mg x=some (.ref g))(hk:keepIn X.K (.ref g)=true)(h1:PE X e1 t1)(h2:PE X e2 t2)(hfn:∀x,X.fn x=true)(hcode:X.env.code=.ref c)(C:CodeHd X.base c P)(hbm:BMain X.mg X.base)(hcl:closureFor scope X.env=pure clos)(hdef:defaultsOf params X.env=([],[]))(hdb:(x==("__debug__":Str))=false:=by decide)(he1:starEach [e1,e2,.Lambda params body scope tE] X.env=(false,eval e1 X.env)::starEach [e2,.Lambda params body scope tE] X.env:=by rfl)(he2:starEach [e2,.Lambda params body scope tE] X.env=(false,eval e2 X.env)::starEach [.Lambda params body scope tE] X.env:=by rfl)(he3:starEach [.Lambda params body scope tE] X.env=[(false,eval (.Lambda params body scope tE) X.env)]:=by rfl) :
  PE X (.Call (.Name x p) [e1,e2,.Lambda params body scope tE] [] pos) (aa9 X.base sp (X.env.qual++"<lambda>") X.env X.N params body scope clos tE P t1 t2):=by
 intro pins s σ H Q I h;refine wpAny_Call_Name_kw (jT I hg hm ?_ hdb);refine callWith_K (K:=X.K) (h₀:=X.base) I.ok.mod.Wo hk ?_ he1 (by rw[he2,he3];rfl);rw[he1,he2,he3];refine Calls.spliced_cons (dH (h1 pins s σ H _ I h) fun u1 s1 ⟨v1,H1,I1,r1,q1⟩=>?_);refine Calls.spliced_cons (dH (h2 pins s1 σ H1 _ I1 q1) fun u2 s2 ⟨v2,H2,I2,r2,q2⟩=>?_);obtain⟨qs,hP,ht,hnf,q2⟩:=q2;refine Calls.spliced_cons (IW I2 hcode C hP ht hnf hbm hcl hdef fun f s3 more I3 L=>?_);refine Calls.spliced_nil ⟨I3.rQ,?_⟩;have F':=F (wR s3.heap (upd H2 P (.pJ (qs++more))) (frs X.stack));have hsp:=q2 more _ f (CG I3) L (IK I3 hfn);have rv:Vals [v1,v2,.ref f] [u1,u2,.ref f]:=.cons r1 (.cons r2 (.cons rfl .nil));have hl:([u1,u2,Value.ref f]++[]).length=ps.length:=by
  rw[append_nil,←rv.length];exact F'.len _ _ _ _ hsp
 have hbd:=hb s3 [u1,u2,.ref f] I3.rQ hl;rw[append_nil]at hbd;refine wpAny_call (codeAny_mono (F'.run X.A X.stack s3 _ ⟨[u1,u2,.ref f],[]⟩ [u1,u2,.ref f] [v1,v2,.ref f] Q E0 hr (Za I3) hbd rv hsp) fun r s' hq=>?_);cases r with
 |error e=>exact aF pins σ _ s3 e s' I3 hq
 |ok fl=>
  cases fl with
  |ret u=>exact I3.after hq
  |next=>exact False.elim hq
  |brk=>exact False.elim hq
  |cont=>exact False.elim hq
theorem BMain.keeps{mg:Str→Option Value}{base base':Heap}(h:BMain mg base)(k:∀b o,base.get? b=some o→base'.get? b=some o):BMain mg base':=
 let ⟨bm,ob,h1,h2,h3,h4⟩:=h;⟨bm,ob,h1,h2,k _ _ h3,h4⟩
end Xc
namespace Pg
open PySem PySem.Spec PyProof.Rows L2 Xc Sp
section
variable{K:PySem.W.Frag}{h:Heap}{mg:Str→Option Value}{x m qual:Str}{st:Stmt}{C f:Addr}{oc kV doc pm cdv ct:Value}{od an:Option Addr}{sl:Array (Option Value)}
theorem eY(X:K.In h)(G:h.Ns mainGlobals mg)(m:nsIn K mainGlobals x=some (some (.ref f)))(l:K.lookup f=some ⟨oc,od,.func (fnOf x x (dD st) (cu st) (au st) .none kV doc pm an cdv ct),sl⟩)(c:codeIn K cdv x=true)(k:keepIn K (.ref f)=true):bL K mg x st:=⟨⟨_,_,yF l c k,mg_of X G m⟩⟩
theorem uN(i:PySem.W.findIn K (.ref C) m=some (some (.ref f)))(n:isFn K (.ref f)=true)(l:K.lookup f=some ⟨oc,od,.func (fnOf m qual (dD st) (cu st) (au st) .none kV doc pm an cdv ct),sl⟩)(c:codeIn K cdv qual=true)(k:keepIn K (.ref f)=true):gB K C m qual st:=⟨⟨_,_,yF l c k,⟨i,n,k⟩⟩⟩
theorem uO(X:K.In h)(G:h.Ns mainGlobals mg)(m:nsIn K mainGlobals x=some (some (.ref C)))(t:makesIn K C=true)(i:PySem.W.findIn K (.ref C) "__init__"=some (some (.ref f)))(n:isFn K (.ref f)=true)(u:keepIn K (.ref C)=true)(l:K.lookup f=some ⟨oc,od,.func (fnOf "__init__" qual (dD st) (cu st) (au st) .none kV doc pm an cdv ct),sl⟩)(c:codeIn K cdv qual=true)(k:keepIn K (.ref f)=true):zj K mg x C qual st:=
 ⟨⟨_,_,yF l c k,⟨t,i,n,u⟩,mg_of X G m⟩⟩
theorem xR{nm q:Str}{N:Addr}{bs bm sub:List Value}{hdc ab:Bool}{sn:List Str}{col:Option Bool}{dd:Option Addr}{s0 s1 s2 s3 s5:Option Value}(X:K.In h)(G:h.Ns mainGlobals mg)(m:nsIn K mainGlobals x=some (some (.ref C)))(t:K.lookup C=some (excClassObj nm q C N bs bm hdc sn sub ab col dd s0 s1 s2 s3 s5 "Exception.__new__"))(i:PySem.W.findIn K (.ref C) "__init__"=some (some (.ref f)))(l:K.lookup f=some ⟨.type "function",od,.func (fnOf "__init__" qual (dD st) (cu st) (au st) .none kV doc pm an cdv ct),sl⟩)(c:codeIn K cdv qual=true)(k:keepIn K (.ref f)=true)(u:keepIn K (.ref C)=true)(a:PySem.W.findIn K (.ref C) "__setattr__"=some (some (.builtin "object.__setattr__")))(o:xu K C=true)(d:PySem.W.hasDictIn K C=true)(b:(bm.contains (.type "Exception")&&!bm.contains (.type "AttributeError")&&!bm.contains (.type "NameError")&&bm.contains (.type "BaseException"))=true):GZ K mg x C qual st:=by
 simp only[and_eq_true,not_eq_true']at b;exact⟨⟨_,_,yF l c k,⟨⟨_,_,_,_,_,_,_,_,_,_,_,_,_,_,_,_,t,b.1.1.1,b.1.1.2,b.1.2,b.2⟩,i,⟨_,l,rfl⟩,u⟩,mg_of X G m⟩,⟨a,o,d⟩⟩
theorem qH:cG K C []:=fun _ h=>by simp at h
theorem oh{f:Str}{l:List Str}(a:PySem.W.findIn K (.ref C) f=some none)(b:cG K C l):cG K C (f::l):=fun g hg=>by
 rcases mem_cons.mp hg with rfl|hg
 ·exact a
 ·exact b g hg
end
structure Base(K:PySem.W.Frag)(mg:Str→Option Value)(cs:Cs):Prop where
 co:ux cs
 UW:Cls K cs.jm
 U0:cG K cs.jm ["asked","within"]
 gR:Cls K cs.boo
 naB:cG K cs.boo ["prime","people","nodes","lets","names"]
 excs:wz K mg cs
 cat:aaQ K cs
 len:mg "len"=none
 any:mg "any"=none
 all:mg "all"=none
 range:mg "range"=none
 sum:mg "sum"=none
 ord:mg "ord"=none
 aga:mg "Book"=some (.ref cs.boo)
 book:∀(P:Program)(w:World)(base:Heap),aX P w K mg base 10 "book_of" ["text"] (zP K cs)
theorem Base.met{K:PySem.W.Frag}{mg:Str→Option Value}{cs:Cs}{m q:Str}{st:Stmt}(B:Base K mg cs)(h:∃C,mg "Book"=some (.ref C)∧gB K C m q st):gB K cs.boo m q st:=by
 obtain⟨C,h1,h2⟩:=h;rw[B.aga]at h1;cases h1;exact h2
theorem Yy{K:PySem.W.Frag}{mg:Str→Option Value}{jm boo tok dJ cD ref pO pP cst fr adD adE:Addr}{oc kV doc pm cdv ct:Value}{od an adF adG:Option Addr}{sl adH adI:Array (Option Value)}{cd:ClassData}{t1 t2 t3 t4 t5 t6 t7:PySem.Tok}{agb agc:Nat}(V0:zj K mg "Node" jm "Node.__init__" oV)(vR:Cls K jm)(vU:cG K jm ["asked","within"])(O5:zj K mg "Book" boo "Book.__init__" oW)(iK:Cls K boo)(jP:cG K boo ["prime","people","nodes","lets","names"])(je:gB K boo "add_person" "Book.add_person" gQ)(lF:gB K boo "add_node" "Book.add_node" iZ)(mZ:gB K boo "add_let" "Book.add_let" jJ)(V1:zj K mg "Token" tok "Token.__init__" mR)(iM:Cls K tok)(iQ:cG K tok ["kind","word","place"])(V2:zj K mg "Bracket" dJ "Bracket.__init__" jL)(pF:Cls K dJ)(pG:cG K dJ ["asked","formulas","boths","parts"])(lG:gB K dJ "end_both" "Bracket.end_both" gD)(iR:gB K dJ "end_formula" "Bracket.end_formula" eV)(V3:zj K mg "Reader" cD "Reader.__init__" lu)(fH:Cls K cD)(Ak:cG K cD ["tokens","at"])(vV:gB K cD "now" "Reader.now" mU)(tG:gB K cD "take" "Reader.take" lA)(gU:gB K cD "take_written" "Reader.take_written" eX)(gF:gB K cD "take_new_name" "Reader.take_new_name" dX)(fJ:gB K cD "take_known_name" "Reader.take_known_name" dG)(jf:gB K cD "take_prime" "Reader.take_prime" fY)(jg:gB K cD "take_asked" "Reader.take_asked" fZ)(Al:bL K mg "joined" vA)(Am:bL K mg "closed" vB)(tH:bL K mg "is_field" mF)(lH:bL K mg "end_of_signs" jK)(vW:bL K mg "run_end" sO)(vX:bL K mg "kind_of" sS)(Ao:bL K mg "row_of" nM)(qI:bL K mg "tokens_of" oX)(pH:bL K mg "all_places" gH)(m5:bL K mg "keep_limits" fX)(jh:bL K mg "begin_brackets" iC)(ji:bL K mg "close_brackets" iD)(lJ:bL K mg "read_between" jN)(lK:bL K mg "read_formula" jM)(pI:bL K mg "read_field" mV)(m8:bL K mg "read_people" lB)(tK:bL K mg "read_let" qp)(vY:bL K mg "book_of" sU)(V4:mg "Refusal"=some (.ref ref))(Mi:findCls K (.ref ref) (.type "type") "__init__"=some (.val (.ref fr)))(V5:K.lookup fr=some ⟨oc,od,.func (fnOf "__init__" "Refusal.__init__" (dD cT) (cu cT) (au cT) .none kV doc pm an cdv ct),sl⟩)(V6:codeIn K cdv "Refusal.__init__"=true)(O6:keepIn K (.ref fr)=true)(Mj:readsIn K ref (.type "type")=true)(Ml:specialIn K (.ref ref) "__getattribute__"=some (some (.builtin "type.__getattribute__")))(Mp:PySem.W.instIn K (.ref ref) (.type "tuple")=some false)(Mq:PySem.W.clsIn K ref=some cd)(Mr:PySem.W.subIn K (.ref ref) (.type "BaseException")=some true)(V7:GZ K mg "OutOfRange" pO "OutOfRange.__init__" gP)(Ms:PySem.W.findIn K (.ref pO) "number"=some none)(Mt:PySem.W.subIn K (.ref pO) (.ref ref)=some true)(Mu:Bt K pO)(V8:GZ K mg "OverLimit" pP "OverLimit.__init__" iB)(Mv:PySem.W.findIn K (.ref pP) "number"=some none)(Mw:PySem.W.subIn K (.ref pP) (.ref ref)=some true)(Mx:Bt K pP)(V9:GZ K mg "CannotStand" cst "CannotStand.__init__" gC)(Mz:PySem.W.findIn K (.ref cst) "number"=some none)(MF:PySem.W.subIn K (.ref cst) (.ref ref)=some true)(MJ:Bt K cst)(lM:mg "len"=none)(O7:mg "int"=none)(O8:mg "all"=none)(O9:mg "any"=none)(xU:mg "range"=none)(Pa:mg "sum"=none)(z_ord:mg "ord"=none)(MK:mg "dict"=none)(Aq:∃t,mg "NAME"=some (.str "name" t))(ou:∃t,mg "NUMBER"=some (.str "number" t))(Fb:∃t,mg "OTHER"=some (.str "other" t))(Pb:∃t,mg "END"=some (.str "end" t))(rC:∃t,mg "LETTERS"=some (.str "abcdefghijklmnopqrstuvwxyz" t))(uP:∃t,mg "DIGITS"=some (.str "0123456789" t))(jZ:∃t,mg "WORD_SIGNS"=some (.str "abcdefghijklmnopqrstuvwxyz0123456789_" t))(m9:∃t,mg "OTHER_SIGNS"=some (.str "(),;=&|#\n" t))(lN:∃t,mg "LONGEST_WORD"=some (.int 15 t))(jj:∃t,mg "LONGEST_NUMBER"=some (.int 5 t))(jk:∃t,mg "GREATEST_PRIME"=some (.int 251 t))(ni:∃t,mg "MOST_PEOPLE"=some (.int 10 t))(qJ:∃t,mg "MOST_LETS"=some (.int 16 t))(nj:∃t,mg "MOST_PLACES"=some (.int 24 t))(lO:∃t,mg "LONGEST_TEXT"=some (.int 65536 t))(abb:mg "KEPT_WORDS"=some (.ref adD))(abd:K.lookup adD=some ⟨.type "tuple",adF,.seq #[.str "field" t1,.str "who" t2,.str "let" t3,.str "of" t4] agb,adH⟩)(abe:mg "BLANK_BYTES"=some (.ref adE))(abf:K.lookup adE=some ⟨.type "tuple",adG,.seq #[.int 9 t5,.int 13 t6,.int 32 t7] agc,adI⟩)(d1:jm≠boo)(d2:dJ≠jm)(d3:dJ≠boo)(d4:cD≠jm)(d5:cD≠boo)(d6:cD≠dJ)
  : Base K mg ⟨jm,boo,tok,dJ,cD,ref,pO,pP,cst⟩:=by
 have co:ux (⟨jm,boo,tok,dJ,cD,ref,pO,pP,cst⟩:Cs):=⟨d1,d2,d3,d4,d5,d6⟩;have EX:wz K mg ⟨jm,boo,tok,dJ,cD,ref,pO,pP,cst⟩:=⟨⟨_,_,yF V5 V6 O6,⟨Mj,Mi,Ml,O6⟩⟩,V4,V7,V8,V9,Ms,Mv,Mz⟩;have CT:aaQ K ⟨jm,boo,tok,dJ,cD,ref,pO,pP,cst⟩:=⟨⟨Mp,by rw[Mq];rfl,Mr⟩,Mt,Mw,MF,Mu,Mx,MJ⟩;have agd:∃a,mg "KEPT_WORDS"=some (.ref a)∧∀H,tL K H a [V.str "field",V.str "who",V.str "let",V.str "of"]:=⟨_,abb,fun H=>.inr ⟨_,_,_,abd,rfl,rfl,by show 4≤sizeLine;decide,.cons ⟨_,rfl⟩ (.cons ⟨_,rfl⟩ (.cons ⟨_,rfl⟩ (.cons ⟨_,rfl⟩ .nil)))⟩⟩;have agf:∃a,mg "BLANK_BYTES"=some (.ref a)∧∀H,tL K H a [V.int 9,V.int 13,V.int 32]:=⟨_,abe,fun H=>.inr ⟨_,_,_,abf,rfl,rfl,by show 3≤sizeLine;decide,.cons ⟨_,rfl⟩ (.cons ⟨_,rfl⟩ (.cons ⟨_,rfl⟩ .nil))⟩⟩;refine⟨co,vR,vU,iK,jP,EX,CT,lM,O9,O8,xU,Pa,z_ord,(let ⟨_,_,_,_,h⟩:=O5.ex;h),fun P w base=>?_⟩;have adJ:=Xq (P:=P) (w:=w) (base:=base) (cs:=⟨jm,boo,tok,dJ,cD,ref,pO,pP,cst⟩) V0 vR vU;have adK:=Xu (P:=P) (w:=w) (base:=base) (cs:=⟨jm,boo,tok,dJ,cD,ref,pO,pP,cst⟩) O5 iK jP;have abg:=T4 (P:=P) (w:=w) (base:=base) (cs:=⟨jm,boo,tok,dJ,cD,ref,pO,pP,cst⟩) V1 iM iQ;have Jx:=Ku (P:=P) (w:=w) (base:=base) (cs:=⟨jm,boo,tok,dJ,cD,ref,pO,pP,cst⟩) V2 pF pG;have Yz:=Qu (P:=P) (w:=w) (base:=base) (cs:=⟨jm,boo,tok,dJ,cD,ref,pO,pP,cst⟩) V3 fH Ak;have oAN:=Hj (P:=P) (w:=w) (base:=base) (cs:=⟨jm,boo,tok,dJ,cD,ref,pO,pP,cst⟩) lF iK jP lM adJ;have oJ:=Qw (cs:=⟨jm,boo,tok,dJ,cD,ref,pO,pP,cst⟩) Al iK lM oAN;have oEB:=Ho co lG pF pG lM oJ;have oEF:=zx co iR pF pG oJ oEB;have oCL:=Qy (cs:=⟨jm,boo,tok,dJ,cD,ref,pO,pP,cst⟩) Am pF pG iK oAN;have oOR:=mW (P:=P) (w:=w) (base:=base) EX;have oOV:=DY (P:=P) (w:=w) (base:=base) EX;have oCS:=zA (P:=P) (w:=w) (base:=base) EX;have Wa:=aal (mg:=mg) (P:=P) (w:=w) (base:=base) (cs:=⟨jm,boo,tok,dJ,cD,ref,pO,pP,cst⟩) vV fH Ak;have Zg:=Xv tG fH Ak iM iQ Wa oCS;have oTW:=KC gU fH iM iQ Wa Zg;have oNN:=aam gF fH iM iQ Aq Wa Zg;have oKN:=Ub fJ fH iM iQ Aq Wa Zg;have oFI:=Ul (P:=P) (w:=w) (base:=base) tH jk O8 xU;have oPR:=Uq jf fH iM iQ ou O7 Wa Zg oFI;have oTA:=Ur jg fH iM iQ ou O7 Wa Zg;have oAP:=Bp (P:=P) (w:=w) (base:=base) (cs:=⟨jm,boo,tok,dJ,cD,ref,pO,pP,cst⟩) je iK jP lM;have oAL:=KH (mg:=mg) (P:=P) (w:=w) (base:=base) (cs:=⟨jm,boo,tok,dJ,cD,ref,pO,pP,cst⟩) mZ iK jP;have oEO:=Uu (P:=P) (w:=w) (base:=base) lH lM;have oRE:=QG vW lM rC uP jZ oEO;have oKI:=XJ (P:=P) (w:=w) (base:=base) vX lM rC uP agd lN jj Aq ou Fb;have oRO:=aaH (P:=P) (w:=w) (base:=base) Ao z_ord MK jZ m9 agf;have oTO:=X8 qI lM Pb oRO oRE oKI abg;have oPL:=QV (P:=P) (w:=w) (base:=base) (cs:=⟨jm,boo,tok,dJ,cD,ref,pO,pP,cst⟩) pH iK jP vR vU Pa;have oLM:=QW m5 iK jP vR vU lM O9 ni qJ nj oPL oOV;have oBG:=Uy co jh fH iM iQ ou Wa oTA oTW Jx;have oSH:=XR co ji fH iM iQ pF pG lM Wa Zg oEF oCL;have oBW:=KZ co lJ fH iM iQ pF pG Wa oTW oEB oEF;have oFO:=K4 co lK fH iK jP pF pG lM Jx oBG oKN oSH oBW Zg oEF;have oFR:=QK pI fH oTW oPR;have oPE:=QM co m8 fH iM iQ iK jP Wa oTW oNN oAP;have oLE:=aaJ co tK fH iK jP oTW oNN oFO oAL;exact Q5 co vY fH iM iQ lM lO Pb oOR oTO Yz oFR adK oPE Wa oLE Zg oLM
def iV(l:List Int):List V:=l.map V.int
theorem Ar{R:PySem.W.WRecords}{cl:Str→Option Addr}{h:Heap}:∀{l:List Int}{its:List Value},Vals (iV l) its→ReadsAllW R cl h its (l.map PySem.W.WData.int) []
 | [],_,.nil=>.nil
 |i::l,_,.cons r t=>by
  obtain⟨k,rfl⟩:=r;exact ReadsAllW.cons (as:=[]) (bs:=[]) (.int i k) (Ar t)
theorem Dc{P:Params}{h:Heap}{v:Value}{ns:List Int}(x:Well P h v (.list (ns.map PySem.W.WData.int))):∃a vs,v=.ref a∧h.get? a=some { cls:=.type "list",data:=.seq vs.toArray }∧IntsAre vs ns:=by
 cases x with
 |list ho hall=>exact⟨_,_,rfl,ho,Att.wK ns _ hall⟩
theorem Wb{P:Params}{h:Heap}{v:Value}{i:Int}(x:Well P h v (.int i)):∃t,v=.int i t:=by
 cases x with
 |int _ t=>exact⟨t,rfl⟩
theorem Ro{r:PySem.W.OpenSpec}{cl:Str→Option Addr}{mean:ExcName→Option Value}{args:List PySem.W.WData}{s₁ s':Shared}{P:Program}{w:World}{H':Hp}{l:Addr}{res:List Int}(hok:oF P w H' s'.heap)(hl:H' l=some (.lst (iV res)))(hp:r.claim.post args (.list (res.map PySem.W.WData.int)) args=true)(h1:OldK s₁.heap s'.heap)(h2:s'.os=s₁.os)(h3:AllBare s'.gens):PySem.W.GoodWG r.claim cl mean args s₁ (.ok (.ret (.ref l))) s':=by
 obtain⟨_,its,n,rv,e⟩:=hok l _ hl;exact⟨.inl ⟨_,_,_,rfl,fun _=>rfl,.list e rfl rfl (by simpa using Ar rv),hp,fun z=>absurd (show false=true from z) Bool.false_ne_true⟩,h1,h2,h3⟩
theorem Wc{K:PySem.W.Frag}{H:Hp}{T la:Addr}{ps qs:Array Value}{xs:List V}(hT:H T=some (.pJ ps))(h:bJ K H la xs):bJ K (upd H T (.pJ qs)) la xs:=by
 rcases h with (h|⟨o,h⟩)|h
 ·exact .inl (.inl (by rw[aj (iW h hT (by intro z;cases z))];exact h))
 ·exact .inl (.inr ⟨o,by rw[aj (iW h hT (by intro z;cases z))];exact h⟩)
 ·exact .inr h
theorem Ph(l:List Int)(h:∀x∈l,0≤x):l.map V.int=nV (l.map Int.toNat):=by
 unfold nV;rw[map_map];refine map_congr_left fun x hx=>?_;show V.int x=V.int ((x.toNat:Nat):Int);rw[Int.toNat_of_nonneg (h x hx)]
section
variable{P:Program}{w:World}{K:PySem.W.Frag}{mg:Str→Option Value}{base:Heap}{cs:Cs}
theorem Zh{x:Str}{f c:Addr}{oc:Value}{od:Option Addr}{fd:FuncData}{sl:Array (Option Value)}(h1:nsIn K mainGlobals x=some (some (.ref f)))(h2:K.lookup f=some ⟨oc,od,.func fd,sl⟩)(h3:fd.code=.ref c)(h4:(tabIn K x).isSome=true):∃T,tabIn K x=some (c,T):=by
 obtain⟨⟨c',T⟩,e⟩:=isSome_iff_exists.mp h4;refine⟨T,?_⟩;rw[e];unfold tabIn at e;simp only[h1,h2,h3]at e;split at e
 ·split at e
  ·cases e;rfl
  ·cases e
 ·cases e
structure Av(K:PySem.W.Frag)(mg:Str→Option Value)(x:Str)(st:Stmt):Prop where
 ex:∃(f c:Addr)(oc kV doc pm ct:Value)(od an:Option Addr)(osl:Array (Option Value)),nsIn K mainGlobals x=some (some (.ref f))∧mg x=some (.ref f) ∧
  K.lookup f=some ⟨oc,od,.func (fnOf x x (dD st) (cu st) (au st) .none kV doc pm an (.ref c) ct),osl⟩∧codeIn K (.ref c) x=true
theorem Pj{h:Heap}{x:Str}{st:Stmt}(X:K.In h)(G:h.Ns mainGlobals mg){f c:Addr}{oc kV doc pm ct:Value}{od an:Option Addr}{osl:Array (Option Value)}(m:nsIn K mainGlobals x=some (some (.ref f)))(l:K.lookup f=some ⟨oc,od,.func (fnOf x x (dD st) (cu st) (au st) .none kV doc pm an (.ref c) ct),osl⟩)(k:codeIn K (.ref c) x=true):Av K mg x st:=
 ⟨f,c,oc,kV,doc,pm,ct,od,an,osl,m,mg_of X G m,l,k⟩
end
theorem MN{cl:List (Str×Addr)}(h:(cl.map (·.2)).Nodup){x y:Str}{c:Addr}(a:cl.lookup x=some c)(b:cl.lookup y=some c):x=y:=by
 have ha:=PySem.mem_of_lookup a;have hb:=PySem.mem_of_lookup b;clear a b
 induction cl with
 |nil=>simp at ha
 |cons p r ih=>
  rw[map_cons,nodup_cons]at h;have no:∀z:Str,(z,c)∈r→p.2≠c:=fun z hz e=>h.1 (mem_map.mpr ⟨_,hz,e.symm⟩);rcases mem_cons.mp ha with ha|ha<;>rcases mem_cons.mp hb with hb|hb
  ·rw[←ha]at hb;exact(Prod.mk.inj hb).1.symm
  ·exact absurd (by rw[←ha]) (no y hb)
  ·exact absurd (by rw[←hb]) (no x ha)
  ·exact ih h.2 ha hb
section
variable{P:Program}{w:World}{K:PySem.W.Frag}{mg:Str→Option Value}{base:Heap}{cs:Cs}
theorem Pk{k:Nat}{qual:Str}{scope:Scope}{f:Addr}{cl:List (Str×Addr)}{params:Arguments}{body:Expr}{x0:Str}{fr:List Str}{vals:List V}{sp:Sp}{env:Env}{N:List Str}{σ:L2.St}(L:Iz base f qual params body scope cl)(ci:xM env N σ base)(hco:scope.isCoroutine=false)(hgen:scope.isGenerator=false)(hk:scope.kind=.function)(hcell:∀x∈scope.names,x.2≠.cell)(hx0:scope.names.lookup x0=some .local)(hbind:∀(pm ctv u:Value)(c':Addr),bindArgs (kla_fn "<lambda>" qual params body scope cl pm (.ref c') ctv) ⟨[u],[]⟩=pure [(x0,u)])(hnd:(cl.map (·.2)).Nodup)(hin:∀p∈cl,env.cells.lookup p.1=some p.2)(hfree:∀x,scope.names.lookup x=some .free→∃c,cl.lookup x=some c)(hlen:fr.length=vals.length)(hfr:∀(i:Nat)(x:Str)(v:V),fr[i]?=some x→vals[i]?=some v→∃j:Nat,N[j]?=some x∧σ[j]?=some (some v)∧env.scope.names.lookup x=some .cell∧scope.names.lookup x=some .free)(hbody:∀(A:Around)(outer:List Env)(s:Shared)(H:Hp)(cd:Value)(v:V)(Q:VK)(E:XK),cY k (A.deeper (envX qual scope s.heap.objs.size f cd cl))→sp [v] H Q E →
   ∃t,PE (zT P w K mg base (x0::fr) qual scope f cd cl A outer s H E) body t∧t (some v::vals.map some) H Q):wC P w K mg base (k+1) f sp:=by
 refine aaO L hco hgen hk hcell hx0 hbind (fun x y c a b=>MN hnd a b) hfree (fun x c e=>ci.cell x c (hin _ (PySem.mem_of_lookup e))) hlen (fun i x v e e'=>?_) hbody;obtain⟨j,h1,h2,h3,h4⟩:=hfr i x v e e';obtain⟨c,u,hc,hz,r⟩:=ci.val j x v h1 h2 h3;obtain⟨c',hc'⟩:=hfree x h4;have:=hin _ (PySem.mem_of_lookup hc');rw[hc]at this;cases this;exact⟨h4,_,u,hc',hz,r⟩
end
def Wd(T:Addr)(H H':Hp):Prop:=∀b o,b≠T→H b=some o→H' b=some o
def Jy(T:Addr):Sp:=fun vs H Q _=>∃n:Nat,vs=[.int (n:Int)]∧1≤n∧n≤20∧H T=some (.pJ #[])∧∀(D:Addr)(H':Hp),H' D=some (.lst (nV (Bd n)))→Wd T H H'→Q (.ref D) H'
def adM(n:Nat):Sp:=fun vs H Q _=>∃t:Nat,vs=[.int (t:Int)]∧∀(a:Addr)(H':Hp),H' a=some (.tup [.int (Rb35.many n t:Int),.int (t:Int)])→Same H H'→Q (.ref a) H'
theorem abh{n:Nat}{ys:List Nat}(hp:ys.Perm (List.range (2^n)))(hw:ys.Pairwise fun a b=>(Rb35.many n a:Int)<(Rb35.many n b:Int)∨((Rb35.many n a:Int)=(Rb35.many n b:Int)∧a≤b)):ys=Bd n:=by
 have hd:ys.Nodup:=hp.nodup_iff.mpr List.nodup_range;refine Ai ?_ (Yw n) fun d=>?_
 ·refine(hw.and hd).imp fun {a b} ⟨h1,h2⟩=>?_;unfold Bef;omega
 ·rw[hp.mem_iff,mem_range,EY]
section
variable{P:Program}{w:World}{K:PySem.W.Frag}{mg:Str→Option Value}{base:Heap}{cs:Cs}
theorem Rp:aH ["people"] ["people"] (au cB):=⟨rfl,rfl,rfl,by decide +kernel,rfl,by decide +kernel,by decide +kernel⟩
theorem Rq{fa c T:Addr}{oc kV doc pm ct:Value}{od an:Option Addr}{osl:Array (Option Value)}(hm:mg "fewest_first"=some (.ref fa))(kp:keepIn K (.ref fa)=true)(lk:K.lookup fa=some ⟨oc,od,.func (fnOf "fewest_first" "fewest_first" (dD cB) (cu cB) (au cB) .none kV doc pm an (.ref c) ct),osl⟩)(hcd:codeIn K (.ref c) "fewest_first"=true)(HM:∀base',aX P w K mg base' 1 "how_many" ["who","people"] Ze)(YB:mg "sorted"=none)(zH:mg "range"=none)(C:CodeHd base c T)(hbm:BMain mg base):aX P w K mg base 5 "fewest_first" ["people"] (Jy T):=by
 refine⟨fa,_,hm,kp,.all (fun us hl=>match us,hl with | [_],_=>rfl),Nj lk hcd Rp (fun vs H Q E h=>?_) fun A outer s H vs Q E hr h=>?_⟩
 ·obtain⟨n,rfl,_⟩:=h;rfl
 ·obtain⟨n,rfl,h1,hn,hT,kq⟩:=h;refine⟨_,aC (aZ (VP (k:=2) hr rfl YB (j8 VN (by rfl) zH PyProof.Rows.boot_range (ak (fj Zz aR (pv 0)) aA)) (fun _=>rfl) rfl C hbm (by rfl) (by rfl))),?_⟩;have hlt:n<2^n:=Nat.lt_two_pow_self;have hle:2^n≤2^20:=Nat.pow_le_pow_right (by decide) hn;have ej:(1:Int)*2^((n:Int)).toNat=((2^n:Nat):Int):=by
   rw[toNat_natCast,Int.one_mul,Int.natCast_pow];rfl
  refine⟨_,rfl,_,_,rfl,rfl,⟨?_,?_,?_⟩,_,rfl,fun p hp=>⟨p,2^n,#[],rfl,by rw[ao,ej],by omega,by omega,by rw[aj (aB hT hp)];exact hT,trivial,rfl,fun j=>(Rb35.many n j:Int),fun more base' f L ci=>⟨adM n,?_,fun j H1 R _ k=>⟨j,rfl,fun a H' h=>k a H' h⟩,fun D H' ys hD pm pw sm=>kq D H' ?_ fun b o hb q=>sm b o ?_⟩⟩⟩
  ·exact Int.natCast_nonneg n
  ·omega
  ·decide
  ·refine Pk (x0:="who") (fr:=["people"]) (vals:=[.int (n:Int)]) L ci rfl rfl rfl (by decide +kernel) rfl (fun _ _ _ _=>rfl) (by simp) (fun p hp=>?_) (fun x hx=>?_) rfl (fun j x v e e'=>?_) fun A' abj s' H' cd v Q' E' hr' h'=>?_
   ·simp only[mem_cons,not_mem_nil,or_false]at hp;subst hp;rfl
   ·have:=PySem.mem_of_lookup hx;simp only[mem_cons,not_mem_nil,or_false,Prod.mk.injEq,reduceCtorEq,and_false,and_true,false_or]at this;subst this;exact⟨_,rfl⟩
   ·match j,e,e' with
    | 0,rfl,rfl=>exact⟨0,rfl,rfl,rfl,rfl⟩
    |j+1,e,_=>simp at e
   ·obtain⟨t,hv,k⟩:=h';cases hv;refine⟨_,J1 (ak (bN (HM base') hr' rfl zU (ak (pv 0) (ak (pv 1) aA))) (ak (pv 0) aA)),?_⟩;exact⟨_,rfl,_,rfl,t,n,rfl,by omega,fun H1 s1=>⟨_,rfl,by show 2≤sizeLine;decide,fun a ha=>k a _ ao fun b o q=>by rw[aj (aB (s1 b o q) ha)];exact s1 b o q⟩⟩
  ·rw[hD];rw[abh pm pw];rfl
  ·rw[aj hb,aj (aB q hp)];exact q
end
def fw(p:Nat)(B:Bk)(k:Nat)(w:List Nat)(d:Nat):Int:=CP p (den B.P B.ns k) (heldW d (Rb35.leaves (den B.P B.ns k)) w)
def Jz(K:PySem.W.Frag)(cs:Cs)(tm T:Addr):Sp:=fun vs H Q E=>∃(b:Addr)(A:d8)(p:Nat)(B:Bk)(k:Nat)(pl:Addr)(w:List Nat),vs=[.ref b,.int (k:Int),.ref pl]∧aV cs H b A p B∧aa2 p B∧k<B.P+B.ns.length∧(Rb35.leaves (den B.P B.ns k)).length≤24∧1≤B.P∧B.P≤20∧bJ K H pl (nV w)∧w.length≤600∧H T=some (.pJ #[]) ∧
 (Rb35.fits p (Rb35.leaves (den B.P B.ns k)).length w=true→(∃d∈Bd B.P,fw p B k w d≠-4)∧∀(d:Nat)(D:Addr)(H':Hp),(Bd B.P).find? (fun d=>!decide (fw p B k w d=-4))=some d→H' D=some (.lst [.int (fw p B k w d),.int (d:Int)])→Q (.ref D) H')∧(¬Rb35.fits p (Rb35.leaves (den B.P B.ns k)).length w=true→zB E tm (-3))
def MdW(H:Hp)(b ol pl tl:Addr)(k:Nat)(F:Nat→Int)(L:List Nat)(m:Nat)(σ:L2.St)(H':Hp):Prop:=
 ∃(pre rest:List Nat)(fv:Int)(n:Nat),σ=[some (.ref b),some (.int (k:Int)),some (.ref pl),some (.ref ol),some (.ref tl),some (.int fv),some (.int (n:Int))]∧L=pre++rest∧(∀x∈pre,F x=-4)∧m=L.length-n∧Same H H' ∧
  ((fv=-4∧n=pre.length)∨∃d r,rest=d::r∧fv=F d∧F d≠-4∧n=pre.length+1)
section
variable{P:Program}{w:World}{K:PySem.W.Frag}{mg:Str→Option Value}{base:Heap}{cs:Cs}{tm T:Addr}
theorem agh{H H':Hp}{la:Addr}{ps:Array Value}{xs:List V}(hT:H T=some (.pJ ps))(s:Wd T H H')(h:bJ K H la xs):bJ K H' la xs:=by
 rcases h with (h|⟨o,h⟩)|h
 ·exact .inl (.inl (s _ _ (iW h hT (by intro z;cases z)) h))
 ·exact .inl (.inr ⟨o,s _ _ (iW h hT (by intro z;cases z)) h⟩)
 ·exact .inr h
theorem abk{H H':Hp}{b:Addr}{A:d8}{p:Nat}{B:Bk}{ps:Array Value}(hT:H T=some (.pJ ps))(s:Wd T H H')(R:aV cs H b A p B):aV cs H' b A p B:=by
 refine R.Hh (F:=[T]) (fun c o q n=>s c o (by simpa using n) q) (fun x hx=>?_) fun x hx kvs e=>?_
 ·obtain rfl:=mem_singleton.mp hx;refine⟨fun z=>?_,fun C dx fs e=>?_⟩
  ·obtain⟨xs,q⟩:=R.zp z;rw[hT]at q;cases q
  ·rw[hT]at e;cases e
 ·obtain rfl:=mem_singleton.mp hx;rw[hT]at e;cases e
theorem jl:aH ["book","formula","parts","owners","tries","found","tried"] ["book","formula","parts"] (au qQ):=⟨rfl,rfl,rfl,by decide +kernel,rfl,by decide +kernel,by decide +kernel⟩
theorem Rr(G:bL K mg "mended" qQ)(gR:Cls K cs.boo)(naB:cG K cs.boo ["prime","people","nodes","lets","names"])(Rg:∃t,mg "NO_SECRET"=some (.int (-4) t))(hlen:mg "len"=none)(OW:aX P w K mg base 3 "owners_of" ["book","formula"] (Js cs))(KN:aX P w K mg base 4 "keep_numbers" ["book","numbers","count"] (Ol K cs tm))(FF:aX P w K mg base 5 "fewest_first" ["people"] (Jy T))(HW:aX P w K mg base 1 "held_without" ["left_out","owners","parts"] (CW K))(FO:aX P w K mg base 4 "found_of" ["book","formula","held"] (O1 cs)) :
  aX P w K mg base 6 "mended" ["book","formula","parts"] (Jz K cs tm T):=by
 obtain⟨f,fd,F,hm⟩:=G.ex;obtain⟨tN,Rg⟩:=Rg;refine⟨f,fd,hm,F.kp,F.binds (fun _ _ _ _ _ _ us hl=>match us,hl with | [_,_,_],_=>rfl),Fg F jl (fun vs H Q E h=>?_) (fun cdv A outer s0 H vs Q E hr h=>?_)⟩
 ·obtain⟨b,A,p,B,k,pl,w,rfl,_⟩:=h;rfl
 ·obtain⟨b,Ad,p,B,k,pl,w,rfl,R,rd,hk,vO,hP1,hP2,hpl,hw6,hT,kq,kx⟩:=h;refine⟨_,aq (aY (i:=3) jl.nd rfl (Or.inl rfl) (bN (OW.mono (by decide:3≤5)) hr rfl aF (ak (pv 0) (ak (pv 1) aA))))
   (aq (aN (bN (KN.mono (by decide:4≤5)) hr rfl bG (ak (pv 0) (ak (pv 2) (ak (aQ aO (by rfl) hlen PySem.boot_len (ak (pv 3) aA)) aA)))))
   (aq (aY (i:=4) jl.nd rfl (Or.inl rfl) (bN FF hr rfl aF (ak (aQ aO (by rfl) hlen PySem.boot_len (ak (aM (pv 0) rfl) aA)) aA)))
   (aq (aY (i:=5) jl.nd rfl (Or.inl rfl) (bh (v:=.int (-4)) (by rfl) Rg ⟨tN,rfl⟩))
   (aq (aY (i:=6) jl.nd rfl (Or.inl rfl) aR)
   (aq (gG PassesOwn.leaving (aU gY (pv 5) (bh (v:=.int (-4)) (by rfl) Rg ⟨tN,rfl⟩) (bf _))
    (aq (aY (i:=5) jl.nd rfl (Or.inl rfl) (bN (FO.mono (by decide:4≤5)) hr rfl aF (ak (pv 0) (ak (pv 1) (ak (bN (HW.mono (by decide:1≤5)) hr rfl aF (ak (fK dR (pv 4) (pv 6) (fun _ _=>rfl)) (ak (pv 3) (ak (pv 2) aA)))) aA)))))
    (aC (Dg (i:=6) jl.nd rfl (Or.inl rfl) aR Dh))))
   (aC (aZ (gw (ak (pv 5) (ak (fK dR (pv 4) (fj rW (pv 6) aR) (fun _ _=>rfl)) aA)))))))))),?_⟩
  obtain⟨dx,ob⟩:=R.ob;refine⟨_,rfl,_,rfl,b,Ad,p,B,k,rfl,R,rd.ok.good,rd.sz,hk,vO,fun ol H1 hol s1=>?_⟩;have R1:=R.keep (Kp.same s1 []) (fun x hx=>by simp at hx);refine⟨_,rfl,_,rfl,_,rfl,_,_,rfl,.inl (bJ.of hol),b,Ad,p,B,pl,w,(Rb35.leaves (den B.P B.ns k)).length,by rw[aK];rfl,R1,vL s1 hpl,hw6,fun hf H2 s2=>?_,fun hf=>kx hf⟩;obtain⟨f1,f2⟩:=Jt hf;obtain⟨⟨d0,hd0,hg0⟩,kq⟩:=kq hf;have s3:=s1.trans s2;have R2:=R.keep (Kp.same s3 []) (fun x hx=>by simp at hx);obtain⟨dx2,NQ⟩:=R2.ob;refine⟨_,rfl,b,cs.boo,dx2,_,_,rfl,NQ,gR,naB _ (by simp),fW _ _ _ _ _,_,_,rfl,.inl (bJ.of R2.people),B.P,by rw[length_map];rfl,hP1,hP2,s3 _ _ hT,fun tl H4 htl s4=>?_⟩;have hT2:=s3 _ _ hT;have R4:=abk hT2 s4 R2;have agj:bJ K H4 pl (nV w):=agh hT2 s4 (vL s3 hpl);have agk:H4 ol=some (.lst (nV (Rb35.leaves (den B.P B.ns k)))):=s4 _ _ (iW (s2 _ _ hol) hT2 (by intro z;cases z)) (s2 _ _ hol);clear NQ ob;refine⟨MdW H4 b ol pl tl k (fw p B k w) (Bd B.P),⟨_,[],Bd B.P,-4,0,rfl,rfl,fun x hx=>by simp at hx,rfl,fun _ _ q=>q,.inl ⟨rfl,rfl⟩⟩,?_⟩;rintro m σ H5 ⟨pre,rest,fv,n,rfl,hL,hpre,rfl,s5,st⟩;refine⟨_,rfl,rfl,_,rfl,bY (fun hc=>?_) fun hc=>?_⟩
  ·have hv:fv=-4:=by
    have:=of_decide_eq_true hc;injection this
   obtain⟨_,rfl⟩:fv=-4∧n=pre.length:=by
    rcases st with z|⟨d,r,_,e1,e2,_⟩
    ·exact z
    ·exact absurd (e1.symm.trans hv) e2
   subst hv;obtain⟨d,r,rfl⟩:∃d r,rest=d::r:=by
    cases rest with
    |cons d r=>exact⟨d,r,rfl⟩
    |nil=>
     rw[hL,append_nil]at hd0;exact absurd (hpre d0 hd0) hg0
   have hlL:(Bd B.P).length=pre.length+(r.length+1):=by rw[hL,length_append,length_cons]
   have hat:(nV (Bd B.P))[pre.length]?=some (V.int ((d:Nat):Int)):=by
    unfold nV;rw[getElem?_map,hL,getElem?_append_right (le_refl _),sub_self];rfl
   refine⟨fun σ' H'=>∃m',m'<(Bd B.P).length-pre.length∧MdW H4 b ol pl tl k (fw p B k w) (Bd B.P) m' σ' H',fun _ _ z=>z,?_⟩;refine⟨_,rfl,_,rfl,_,rfl,_,rfl,tl,_,_,_,rfl,rfl,bJ.of (s5 _ _ htl),at_of (j:=pre.length) rfl hat,_,rfl,_,rfl,d,ol,_,pl,w,rfl,s5 _ _ agk,vL s5 agj,f1.symm,le_trans vO (by decide),fun hl H6 h6 s6=>?_⟩;have s7:=s5.trans s6;refine⟨b,Ad,p,B,k,hl,_,rfl,R4.keep (Kp.same s7 []) (fun x hx=>by simp at hx),rd.ok.good,rd.sz,hk,vO,rd.nar,rd.wid,rd.pr,rd.le,h6,rB _ _ _ f1.symm,Ah _ _ _ _ f2,fun H8 s8=>?_⟩;have s9:=s7.trans s8;have ep:((pre.length:Nat):Int)+1=((pre.length+1:Nat):Int):=by rw[natCast_add];rfl
   by_cases hF:fw p B k w d=-4
   ·refine⟨_,rfl,_,_,rfl,rfl,(Bd B.P).length-(pre.length+1),by omega,pre++[d],r,_,pre.length+1,?_,by rw[hL,append_assoc];rfl,fun x hx=>?_,rfl,s9,.inl ⟨hF,by rw[length_append];rfl⟩⟩
    ·rw[←ep];rfl
    ·rcases mem_append.mp hx with z|z
     ·exact hpre x z
     ·rw[mem_singleton.mp z];exact hF
   ·refine⟨_,rfl,_,_,rfl,rfl,(Bd B.P).length-(pre.length+1),by omega,pre,d::r,_,pre.length+1,?_,hL,hpre,rfl,s9,.inr ⟨d,r,rfl,rfl,hF,rfl⟩⟩;rw[←ep];rfl
  ·obtain⟨d,r,rfl,rfl,hF,rfl⟩:∃d r,rest=d::r∧fv=fw p B k w d∧fw p B k w d≠-4∧n=pre.length+1:=by
    rcases st with⟨z,_⟩|z
    ·exact absurd (decide_eq_true (by rw[z])) hc
    ·exact z
   have hat:(nV (Bd B.P))[pre.length]?=some (V.int ((d:Nat):Int)):=by
    unfold nV;rw[getElem?_map,hL,getElem?_append_right (le_refl _),sub_self];rfl
   have hfind:(Bd B.P).find? (fun d=>!decide (fw p B k w d=-4))=some d:=by
    rw[hL,List.find?_append,List.find?_eq_none.mpr fun x hx=>by rw[hpre x hx];decide,Option.none_or,List.find?_cons_of_pos (by rw[decide_eq_false hF];rfl)]
   refine⟨_,rfl,_,rfl,_,rfl,_,_,rfl,rfl,tl,_,_,_,rfl,rfl,bJ.of (s5 _ _ htl),at_of (j:=pre.length) (by omega) hat,by show 2≤sizeLine;decide,fun D hD=>kq d D _ hfind ao⟩
end
section
variable{P:Program}{w:World}{K:PySem.W.Frag}{mg mb:Str→Option Value}
structure Wf(P:Program)(w:World)(K:PySem.W.Frag)(mg:Str→Option Value)(c T c2 T2:Addr)(s₁:Shared)(H:Hp):Prop where
 hok:oF P w H s₁.heap
 only:∀b u,H b=some u→(∃o x,u=.Fp o x)∨((b=T∨b=T2)∧u=.pJ #[])
 tab:H T=some (.pJ #[])
 abl:H T2=some (.pJ #[])
 hd:CodeHd (uR s₁.heap H) c T
 hd2:CodeHd (uR s₁.heap H) c2 T2
 hdT:s₁.heap.TableAt c T #[]
 abm:s₁.heap.TableAt c2 T2 #[]
 mod:Mod K mg (uR s₁.heap H)
 bm:BMain mg (uR s₁.heap H)
theorem Rt{s₁:Shared}{c T c2 T2:Addr}{ls:List (Addr×List Value×List Int)}(KX:K.In s₁.heap)(hns:s₁.heap.Ns mainGlobals mg)(hb:s₁.heap.Ns builtinsNs mb)(hbb:∀x:Str,x≠"__name__"→mb x=bootBuiltins x)(hlim:s₁.heap.NoLimit)(hbm:∃bm ob,mg "__builtins__"=some (.ref bm)∧bm≠builtinsNs∧s₁.heap.get? bm=some ob∧ob.cls=.type "module"∧ob.dict=some builtinsNs∧ob.data=.plain)(hC:CodeHd s₁.heap c T)(hT:s₁.heap.get? T=some (tabObj #[]))(Yr:CodeHd s₁.heap c2 T2)(hT2:s₁.heap.get? T2=some (tabObj #[]))(hK:noTabs K=true)(hl:∀x∈ls,s₁.heap.get? x.1=some { cls:=.type "list",data:=.seq x.2.1.toArray }∧IntsAre x.2.1 x.2.2∧x.2.2.length≤sizeLine) :
  ∃H,Wf P w K mg c T c2 T2 s₁ H∧∀x∈ls,bJ K H x.1 (x.2.2.map V.int):=by
 have KT:∀T,s₁.heap.get? T=some (tabObj #[])→K.lookup T=none:=fun T hT=>by
  cases q:K.lookup T with
  |none=>rfl
  |some o=>
   have e:=KX _ _ q;rw[hT]at e;cases e;have h2:=all_eq_true.mp hK (T,_) (PySem.W.mem_of_lookupK q);exact absurd (show false=true from h2) Bool.false_ne_true
 let H:Hp:=fun b=>if b=T∨b=T2 then some (.pJ #[]) else if K.lookup b=none then (ls.find? fun x=>x.1==b).map fun x=>.Fp { cls:=.type "list",data:=.seq x.2.1.toArray } (.lst (x.2.2.map V.int)) else none
 have hH:∀b u,H b=some u→((b=T∨b=T2)∧u=.pJ #[])∨(¬(b=T∨b=T2)∧K.lookup b=none∧∃x∈ls,x.1=b∧u=.Fp { cls:=.type "list",data:=.seq x.2.1.toArray } (.lst (x.2.2.map V.int))):=fun b u e=>by
  by_cases hbT:b=T∨b=T2
  ·left;have:H b=some (.pJ #[]):=if_pos hbT;rw[this]at e;cases e;exact⟨hbT,rfl⟩
  ·right;have e1:H b=if K.lookup b=none then (ls.find? fun x=>x.1==b).map fun x=>.Fp { cls:=.type "list",data:=.seq x.2.1.toArray } (.lst (x.2.2.map V.int)) else none:=if_neg hbT
   rw[e1]at e;by_cases hk:K.lookup b=none
   ·rw[if_pos hk]at e;cases q:ls.find? fun x=>x.1==b with
    |none=>rw[q]at e;cases e
    |some x=>
     rw[q]at e;cases e;exact⟨hbT,hk,x,mem_of_find?_eq_some q,by simpa using find?_some q,rfl⟩
   ·rw[if_neg hk]at e;cases e
 have tT:∀{b:Addr},b=T∨b=T2→s₁.heap.get? b=some (tabObj #[]):=fun h=>by
  rcases h with rfl|rfl
  ·exact hT
  ·exact hT2
 have noD:∀{b:Addr}{o:Obj},s₁.heap.get? b=some o→(∀vs n,o.data≠.seq vs n)→(∀vs,o.data≠.fields vs)→H b=none:=fun {b o} e h1 h2=>by
  cases q:H b with
  |none=>rfl
  |some u=>
   rcases hH b u q with⟨z,_⟩|⟨_,_,x,hx,rfl,_⟩
   ·rw[tT z]at e;cases e;exact absurd rfl (h2 _)
   ·rw[(hl x hx).1]at e;cases e;exact absurd rfl (h1 _ _)
 have nsK:∀{b:Addr}{m:Str→Option Value},s₁.heap.Ns b m→(uR s₁.heap H).Ns b m:=fun {b m} ⟨o,es,ep,e,d,r⟩=>⟨o,es,ep,tQ e (noD e (fun vs n z=>by rw[d]at z;cases z) fun vs z=>by rw[d]at z;cases z),d,r⟩;have hKb:K.In (uR s₁.heap H):=fun b o e=>tQ (KX b o e) (by
  cases q:H b with
  |none=>rfl
  |some u=>
   rcases hH b u q with⟨z,_⟩|⟨_,hk,_⟩
   ·rw[KT _ (tT z)]at e;cases e
   ·rw[hk]at e;cases e)
 have cH:∀{c T:Addr},CodeHd s₁.heap c T→CodeHd (uR s₁.heap H) c T:=fun {c _} hC=>by
  obtain⟨o,vs,file,tf,flags,tg,inF,text,tt,e1,r1,r2,r3,r4,r5,r6,r7,r8,hne⟩:=hC;refine⟨o,vs,file,tf,flags,tg,inF,text,tt,tQ e1 ?_,r1,r2,r3,r4,r5,r6,r7,r8,hne⟩;cases q:H c with
  |none=>rfl
  |some u=>
   rcases hH c u q with⟨z,_⟩|⟨_,_,x,hx,z,_⟩
   ·have e2:=tT z;rw[e1]at e2;cases e2;cases r1
   ·have e2:=(hl x hx).1;rw[z,e1]at e2;cases e2;cases r2
 refine⟨H,⟨fun b u e=>?_,fun b u e=>?_,if_pos (.inl rfl),if_pos (.inr rfl),cH hC,cH Yr,hC.tab hT,Yr.tab hT2,⟨hKb,nsK hns,⟨mb,nsK hb,hbb⟩,let ⟨mc,h1,h2⟩:=hlim;⟨mc,nsK h1,h2⟩⟩,?_⟩,fun x hx=>?_⟩
 ·rcases hH b u e with⟨z,rfl⟩|⟨_,_,x,hx,rfl,rfl⟩
  ·exact tT z
  ·obtain⟨h1,h2,h3⟩:=hl x hx;exact⟨h1,by rw[length_map];exact h3,x.2.1,_,nA h2,h1⟩
 ·rcases hH b u e with⟨z,rfl⟩|⟨_,_,x,hx,rfl,rfl⟩
  ·exact .inr ⟨z,rfl⟩
  ·exact .inl ⟨_,_,rfl⟩
 ·obtain⟨bm,ob,b1,b2,b3,b4,b5,b6⟩:=hbm;exact⟨bm,ob,b1,b2,tQ b3 (noD b3 (fun vs n z=>by rw[b6]at z;cases z) fun vs z=>by rw[b6]at z;cases z),b4,b5,b6⟩
 ·obtain⟨h1,h2,h3⟩:=hl x hx;cases hk:K.lookup x.1 with
  |some o=>
   have e:=KX _ o hk;rw[h1]at e;cases e;exact .inr ⟨_,x.2.1.toArray,_,hk,rfl,rfl,rfl,by rw[size_toArray,h2.length];exact h3,by simpa using nA h2⟩
  |none=>
   have xT:¬(x.1=T∨x.1=T2):=fun z=>by rw[tT z]at h1;cases h1
   have e1:H x.1=(ls.find? fun y=>y.1==x.1).map fun x=>.Fp { cls:=.type "list",data:=.seq x.2.1.toArray } (.lst (x.2.2.map V.int)):=(if_neg xT).trans (if_pos hk);cases q:ls.find? fun y=>y.1==x.1 with
   |none=>exact absurd (List.find?_eq_none.mp q x hx) (by simp)
   |some y=>
    rw[q]at e1;have hy:y.1=x.1:=by simpa using find?_some q
    obtain⟨g1,g2,_⟩:=hl y (mem_of_find?_eq_some q);rw[hy,h1]at g1;have ev:x.2.1=y.2.1:=by
     injection g1 with g1
     injection g1 with _ _ g1
     injection g1 with g1
     exact List.toArray_inj g1
    have ei:y.2.2=x.2.2:=by
     have a1:=nA g2;have a2:=nA h2;rw[←ev]at a1;have inj:∀{us:List Value}{m n:List Int},IntsAre us m→IntsAre us n→m=n:=by
      intro us m n p
      induction p generalizing n with
      |nil=>intro q;cases q;rfl
      |cons a t r ih=>intro q;cases q with|cons _ _ q=>rw[ih q]
     rw[←ev]at g2;exact inj g2 h2
    exact .inl (.inr ⟨_,by rw[←ei];exact e1⟩)
theorem JB{k:Nat}{fa c T c2 T2:Addr}{fd:FuncData}{ps:List Str}{sp:Sp}{s₁:Shared}{H:Hp}{vals:List Value}{vs:List V}{Q:VK}(N:Wf P w K mg c T c2 T2 s₁ H)(hg:s₁.gens=#[])(hr:cY k callerA)(F:iT P w K mg (uR s₁.heap H) (bI P w) k fa fd ps sp)(hbind:BindsTo s₁ fd ⟨vals,[]⟩ (ps.zip vals))(rv:Vals vs vals)(hsp:sp vs H Q E0) :
  codeAny (model P w) callerA (.call (.ref fa) ⟨vals,[]⟩) (fun r s'=>∃u v H',r=.ok (.ret u)∧RelV v u∧Q v H'∧oF P w H' s'.heap∧OldK s₁.heap s'.heap∧s'.os=s₁.os∧AllBare s'.gens) s₁:=by
 have e0:uc P w K mg (uR s₁.heap H) callerA [] s₁ H:=⟨rfl,N.mod,fun b o e=>Wz e,le_of_eq (Pu _ _),trivial,fun b hb=>absurd (show b∈([]:List Addr) from hb) (by simp),N.hok,.of_eq hg⟩;refine codeAny_mono (F.run callerA [] s₁ H ⟨vals,[]⟩ vals vs Q E0 hr e0 hbind rv hsp) fun r s' h=>?_;cases r with
 |error e=>
  obtain⟨_,_,_,_,_,_,_,f⟩:=h;exact f.wish.elim
 |ok fl=>
  cases fl with
  |next=>exact False.elim h
  |brk=>exact False.elim h
  |cont=>exact False.elim h
  |ret u=>
   obtain⟨v,H',os,bare,un,hok',r',q⟩:=h;have at_:∀b o,s₁.heap.get? b=some o→¬(b=T∨b=T2)→s'.heap.get? b=some o:=fun b o e hb=>by
    cases q:H b with
    |none=>exact un.keep b o e q (by intro z;exact absurd (show b∈([]:List Addr) from z) (by simp)) (by simp)
    |some x=>
     rcases N.only b x q with⟨ob,y,rfl⟩|⟨z,_⟩
     ·have z2:=un.kO b ob _ q;obtain⟨e1,_⟩:=N.hok b _ q;obtain⟨e2,_⟩:=hok' b _ z2;rw[e]at e1;cases e1;exact e2
     ·exact absurd z hb
   have grow:∀{c T:Addr},H T=some (.pJ #[])→s₁.heap.TableAt c T #[]→∀o,s₁.heap.get? T=some o→o={ cls:=.none,data:=.fields #[] }∧∃more,s'.heap.get? T=some { cls:=.none,data:=.fields (#[]++more) }:=fun {c T} h1 h2 o e=>by
    obtain⟨more,hT'⟩:=un.kW T _ h1;exact⟨Option.some.inj (e.symm.trans h2.2),more,hok' T _ hT'⟩
   refine⟨u,v,H',rfl,r',q,hok',⟨fun b o e=>?_,fun b o e=>?_⟩,os,bare⟩
   ·by_cases hb:b=T∨b=T2
    ·rcases hb with rfl|rfl
     ·obtain⟨rfl,more,eT⟩:=grow N.tab N.hdT o e;exact .inr (.inl ⟨N.hdT.isCodeTable,rfl,#[],more,rfl,eT⟩)
     ·obtain⟨rfl,more,eT⟩:=grow N.abl N.abm o e;exact .inr (.inl ⟨N.abm.isCodeTable,rfl,#[],more,rfl,eT⟩)
    ·exact .inl (at_ b o e hb)
   ·by_cases hb:b=T∨b=T2
    ·rcases hb with rfl|rfl
     ·obtain⟨_,more,eT⟩:=grow N.tab N.hdT o e;exact⟨_,eT⟩
     ·obtain⟨_,more,eT⟩:=grow N.abl N.abm o e;exact⟨_,eT⟩
    ·exact⟨o,at_ b o e hb⟩
end
section
variable{P:Program}{w:World}{K:PySem.W.Frag}{mg:Str→Option Value}{base:Heap}{cs:Cs}
theorem Ru{mb:Str→Option Value}{s₁:Shared}{fa:Addr}{p:Program}{loose:List Str}{mean:ExcName→Option Value}{x x2:Str}{st st2:Stmt}{ps:List Str}{sp:Addr→Addr→Sp}{ls:List (Addr×List Value×List Int)}{vs:List V}{vals:List Value}{res:List Int}(KX:K.In s₁.heap)(T:Top p loose mean mg mb s₁.heap)(hmg:mg x=some (.ref fa))(hg:s₁.gens=#[])(hrec:((recsOf p).find? (fun e=>e.name==x)).isSome=true)(ht:(tabIn K x).isSome=true)(hK:noTabs K=true)(Wg:((recsOf p).find? (fun e=>e.name==x2)).isSome=true)(ht2:(tabIn K x2).isSome=true)(hne:((tabIn K x).map (·.2)==(tabIn K x2).map (·.2))=false)(C:Av K mg x st)(C2:Av K mg x2 st2)(hl:∀y∈ls,s₁.heap.get? y.1=some { cls:=.type "list",data:=.seq y.2.1.toArray }∧IntsAre y.2.1 y.2.2∧y.2.2.length≤600)(rv:Vals vs vals)(F:∀(c T:Addr)(oc kV doc pm ct:Value)(od an:Option Addr)(osl:Array (Option Value))(f2 c2 T2:Addr)(oc2 kV2 YC pm2 ct2:Value)(od2 an2:Option Addr)(YD:Array (Option Value))(base:Heap),K.lookup fa=some ⟨oc,od,.func (fnOf x x (dD st) (cu st) (au st) .none kV doc pm an (.ref c) ct),osl⟩→codeIn K (.ref c) x=true→CodeHd base c T →
   mg x2=some (.ref f2)→K.lookup f2=some ⟨oc2,od2,.func (fnOf x2 x2 (dD st2) (cu st2) (au st2) .none kV2 YC pm2 an2 (.ref c2) ct2),YD⟩→codeIn K (.ref c2) x2=true→CodeHd base c2 T2→BMain mg base →
   iT P w K mg base (bI P w) 12 fa (fnOf x x (dD st) (cu st) (au st) .none kV doc pm an (.ref c) ct) ps (sp T T2))(hb:∀(c:Addr)(kV doc pm ct:Value)(an:Option Addr),BindsTo s₁ (fnOf x x (dD st) (cu st) (au st) .none kV doc pm an (.ref c) ct) ⟨vals,[]⟩ (ps.zip vals))(hsp:∀(T T2:Addr)(H:Hp),T≠T2→H T=some (.pJ #[])→H T2=some (.pJ #[])→(∀y∈ls,bJ K H y.1 (y.2.2.map V.int))→sp T T2 vs H (fun v H'=>∃l,v=.ref l∧H' l=some (.lst (iV res))) E0) :
  codeAny (model P w) callerA (.call (.ref fa) ⟨vals,[]⟩) (fun r s'=>∃l H',r=.ok (.ret (.ref l))∧H' l=some (.lst (iV res))∧oF P w H' s'.heap∧OldK s₁.heap s'.heap∧s'.os=s₁.os∧AllBare s'.gens) s₁:=by
 obtain⟨f,c,oc,kV,doc,pm,ct,od,an,osl,e1,e2,lk,hcd⟩:=C.ex;obtain⟨f2,c2,oc2,kV2,YC,pm2,ct2,od2,an2,YD,e12,e22,lk2,Em⟩:=C2.ex;rw[hmg]at e2;cases e2;obtain⟨Tb,htab⟩:=Zh e1 lk rfl ht;obtain⟨Tb2,Zi⟩:=Zh e12 lk2 rfl ht2;obtain⟨d,hrec⟩:=isSome_iff_exists.mp hrec;obtain⟨d2,Wg⟩:=isSome_iff_exists.mp Wg;obtain⟨hC,hT⟩:=tab_of T KX hrec htab;obtain⟨Yr,hT2⟩:=tab_of T KX Wg Zi;have hTT:Tb≠Tb2:=fun z=>by
  rw[htab,Zi,z]at hne;simp at hne
 obtain⟨H,N,XM⟩:=Rt (P:=P) (w:=w) (ls:=ls) KX T.g T.b T.builtins T.nolimit T.bmain hC hT Yr hT2 hK fun y hy=>⟨(hl y hy).1,(hl y hy).2.1,le_trans (hl y hy).2.2 (by decide)⟩;refine codeAny_mono (JB (Q:=fun v H'=>∃l,v=.ref l∧H' l=some (.lst (iV res))) (vs:=vs) N hg ⟨rfl,by decide,by decide⟩ (F c Tb oc kV doc pm ct od an osl f2 c2 Tb2 oc2 kV2 YC pm2 ct2 od2 an2 YD _ lk hcd N.hd e22 lk2 Em N.hd2 N.bm) (hb c kV doc pm ct an) rv (hsp Tb Tb2 H hTT N.tab N.abl XM)) fun r s' h=>?_;obtain⟨u,v,H',rfl,rv,⟨l,rfl,hl⟩,hok,h1,h2,h3⟩:=h;obtain rfl:u=Value.ref l:=rv;exact⟨l,H',rfl,hl,hok,h1,h2,h3⟩
end
def j4(i:Int)(bs w:List Nat):List Int:=if 64<w.length then [-2] else match Rb35.taken bs with
 | .bad v=>[v]
 | .good G=>match Rb35.formAt G i with
  |none=>[-2]
  |some f=>if Rb35.fits G.p (Rb35.leaves f).length w=true then [Rb35.secretOf (Rb35.secrets G.p f (Rb35.others (Rb35.crowd G) ((Rb35.fewest G.p (Rb35.crowd G) f w).getD 0)) (Rb35.seen (Rb35.others (Rb35.crowd G) ((Rb35.fewest G.p (Rb35.crowd G) f w).getD 0)) f w)) (-4),(((Rb35.fewest G.p (Rb35.crowd G) f w).getD 0:Nat):Int)] else [-3]
def Wh(K:PySem.W.Frag)(T T2:Addr):Sp:=fun vs H Q _=>∃(la lc:Addr)(bs w:List Nat)(i:Int),vs=[.int i,.ref la,.ref lc]∧bJ K H la (nV bs)∧(∀b∈bs,b<256)∧bs.length≤9000∧bJ K H lc (nV w)∧w.length≤600∧T≠T2∧H T=some (.pJ #[])∧H T2=some (.pJ #[])∧∀l H',H' l=some (.lst (iV (j4 i bs w)))→Q (.ref l) H'
def Rv(K:PySem.W.Frag)(cs:Cs)(tm lc T2:Addr)(w:List Nat)(i:Int):Sp:=fun vs H Q E=>∃(b:Addr)(A:d8)(p:Nat)(B:Bk),vs=[.ref b]∧aV cs H b A p B∧aa2 p B∧bJ K H lc (nV w)∧w.length≤600∧H T2=some (.pJ #[])∧B.P≤20 ∧
 (∀k:Nat,0≤i→(B.ls.map (·.2))[i.toNat]?=some k→Rb35.fits p (Rb35.leaves (den B.P B.ns k)).length w=true→(∃d∈Bd B.P,fw p B k w d≠-4)∧∀(d:Nat)(D:Addr)(H':Hp),(Bd B.P).find? (fun d=>!decide (fw p B k w d=-4))=some d→H' D=some (.lst [.int (fw p B k w d),.int (d:Int)])→Q (.ref D) H') ∧
 (∀k:Nat,0≤i→(B.ls.map (·.2))[i.toNat]?=some k→¬Rb35.fits p (Rb35.leaves (den B.P B.ns k)).length w=true→zB E tm (-3))∧(¬(0≤i∧i.toNat<B.ls.length)→zB E cs.pO (-2))
theorem Wi{P:Nat}{ns:List aG}(good:Good P ns){k:Nat}(hk:k<P+ns.length):∀o∈Rb35.leaves (den P ns k),o<P:=fun o ho=>by
 rw[←CQ good k hk]at ho;exact of_decide_eq_true (mem_filter.mp ho).2
section
variable{P:Program}{w:World}{K:PySem.W.Frag}{mg:Str→Option Value}{base:Heap}{cs:Cs}
theorem YF:aH ["form","text","parts"] ["form","text","parts"] (au jV):=⟨rfl,rfl,rfl,by decide +kernel,rfl,by decide +kernel,by decide +kernel⟩
theorem YG{fa fA c T c2 T2 tm:Addr}{fdA:FuncData}{oc kV doc pm ct:Value}{od an:Option Addr}{osl:Array (Option Value)}(lk:K.lookup fa=some ⟨oc,od,.func (fnOf "mend" "mend" (dD jV) (cu jV) (au jV) .none kV doc pm an (.ref c) ct),osl⟩)(hcd:codeIn K (.ref c) "mend"=true)(FA:Ka K "answered" "answered" bF fA fdA)(hmA:mg "answered"=some (.ref fA))(B:Base K mg cs)(X:Q7 K mg "WrongNumbers" "WrongNumbers.__init__" cQ tm)(hM:∃t,mg "MOST_NUMBERS"=some (.int 64 t))(FO:∀base',aX P w K mg base' 4 "formula_of" ["book","form"] (Vm cs))(MD:∀base',CodeHd base' c2 T2→BMain mg base'→aX P w K mg base' 6 "mended" ["book","formula","parts"] (Jz K cs tm T2))(C:CodeHd base c T)(C2:CodeHd base c2 T2)(hbm:BMain mg base) :
  iT P w K mg base (bI P w) 12 fa (fnOf "mend" "mend" (dD jV) (cu jV) (au jV) .none kV doc pm an (.ref c) ct) ["form","text","parts"] (Wh K T T2):=by
 have bA:Binds K fdA ["in_range","text","ask"] []:=FA.binds (fun _ _ _ _ _ _ us hl=>match us,hl with | [_,_,_],_=>rfl);obtain⟨tM,hM⟩:=hM;refine Nj lk hcd YF (fun vs H Q E h=>?_) fun A outer s0 H vs Q E hr h=>?_
 ·obtain⟨la,lc,bs,r,i,rfl,_⟩:=h;rfl
 ·obtain⟨la,lc,bs,r,i,rfl,hla,hbs,hlb,hlc,hr6,hTT,hT,hT2,kq⟩:=h;refine⟨_,aC (aZ (VR (sp:=zW P w K mg cs 10) (fun base'=>Ja (le_refl _) FA B.excs.mref B.excs B.cat (B.book P w base')) bA hr rfl hmA FA.kp (eN Nh (aQ aO (by rfl) B.len PySem.boot_len (ak (pv 2) aA)) (bh (v:=.int 64) (by rfl) hM ⟨tM,rfl⟩) (bf _)) (pv 1) (fun _=>rfl) rfl C hbm (by rfl) (by rfl))),?_⟩;refine⟨_,rfl,_,_,rfl,.inl hlc,_,_,rfl,rfl,_,rfl,#[],hT,trivial,rfl,fun more base' f sub L ci=>?_⟩;refine⟨decide (((nV r).length:Int)≤64),la,f,Rv K cs tm lc T2 r i,bs,rfl,?_,Wc hT hla,hbs,hlb,fun z l H' hl=>kq l H' ?_,fun z v hv l H' hl=>kq l H' ?_,fun z G b Ab uQ H' e1 e2 e3 e4 e5 e6 e7 e8=>?_⟩
  ·refine Pk (x0:="book") (fr:=["form","parts"]) (vals:=[.int i,.ref lc]) L ci rfl rfl rfl (by decide +kernel) rfl (fun _ _ _ _=>rfl) (by simp<;>omega) (fun p hp=>?_) (fun x hx=>?_) rfl (fun j x v e e'=>?_) fun A' abj s' H' cd v Q' E' hr' h'=>?_
   ·simp only[mem_cons,not_mem_nil,or_false]at hp;rcases hp with rfl|rfl<;>rfl
   ·have:=PySem.mem_of_lookup hx;simp only[mem_cons,not_mem_nil,or_false,Prod.mk.injEq,reduceCtorEq,and_false,and_true,false_or]at this;rcases this with rfl|rfl<;>exact⟨_,rfl⟩
   ·match j,e,e' with
    | 0,rfl,rfl=>exact⟨0,rfl,rfl,rfl,rfl⟩
    | 1,rfl,rfl=>exact⟨2,rfl,rfl,rfl,rfl⟩
    |j+2,e,_=>simp at e
   ·obtain⟨b,Ab,p,uQ,hv,Rb,rd,ago,agp,hT',hP2,kq',kx,ky⟩:=h';cases hv;refine⟨_,bN ((MD base' (C2.keeps sub) (hbm.keeps sub)).mono (by decide:6≤9)) hr' rfl zU (ak (pv 0) (ak (bN ((FO base').mono (by decide:4≤9)) hr' rfl zU (ak (pv 0) (ak (pv 1) aA))) (ak (pv 2) aA))),?_⟩;refine⟨_,rfl,_,rfl,_,rfl,b,Ab,p,uQ,i,rfl,Rb,fun k h0 hk=>?_,ky⟩;obtain⟨x,hx,ex⟩:=mem_map.mp (mem_of_getElem? hk);have hlt:k<uQ.P+uQ.ns.length:=by rw[←ex];exact rd.ok.lt x hx
    have vO:(Rb35.leaves (den uQ.P uQ.ns k)).length≤24:=by rw[←ex];exact rd.lv x hx
    have hP1:1≤uQ.P:=by
     have h1:=tD uQ.ns rd.ok.good k hlt;obtain⟨o,ho⟩:=List.exists_mem_of_length_pos h1;have:=Wi rd.ok.good hlt o ho;omega
    exact⟨_,rfl,b,Ab,p,uQ,k,lc,r,rfl,Rb,rd,hlt,vO,hP1,hP2,ago,agp,hT',kq' k h0 hk,kx k h0 hk⟩
  ·have h1:=of_decide_eq_false z;rw[aK]at h1;unfold j4;rw[if_pos (by omega),hl];rfl
  ·have h1:=of_decide_eq_true z;rw[aK]at h1;unfold j4;rw[if_neg (by omega),hv];exact hl
  ·have h1:=of_decide_eq_true z;rw[aK]at h1;have hsm:Rb35.small ⟨G.p,uQ.people,uQ.known.lets⟩=true:=by
    have:G=⟨G.p,uQ.people,uQ.known.lets⟩:=by rw[←e5,←e6]
    rw[this]at e7;exact e7
   obtain⟨f1,f2⟩:=Jc e1;obtain⟨g1,_,g3,g4⟩:=(Ci e3 _).mp hsm;have rd:aa2 G.p uQ:=⟨e3,e4,f2,by omega,g3,adA e3.good fun j hj=>e3.cov.places 24 (fun k hk=>by
    obtain⟨x,hx,rfl⟩:=mem_map.mp hk;exact g4 x hx) hj,g4⟩
   have hn:¬64<r.length:=by omega
   have hcr:Rb35.crowd G=uQ.P:=by
    unfold Rb35.crowd;rw[e5];rfl
   have key:∀k:Nat,0≤i→(uQ.ls.map (·.2))[i.toNat]?=some k→k<uQ.P+uQ.ns.length∧Rb35.formAt G i=some (den uQ.P uQ.ns k)∧Rb35.sound G.p (den uQ.P uQ.ns k)=true:=fun k h0 hk=>by
    obtain⟨x,hx,ex⟩:=mem_map.mp (mem_of_getElem? hk);have hlt:k<uQ.P+uQ.ns.length:=by rw[←ex];exact rd.ok.lt x hx
    have hf:=Ys e6 h0 hk;exact⟨hlt,hf,(LR e1 hf).1⟩
   refine⟨b,Ab,_,uQ,rfl,e2,rd,vL e8 (Wc hT hlc),hr6,e8 _ _ (by rw[aj hTT.symm];exact hT2),le_trans (show uQ.P≤10 from g1) (by decide),fun k h0 hk hf=>?_,fun k h0 hk hf=>nR (X.sub B.excs) X.gx X.nn fun l H'' hl=>kq l H'' ?_,fun h=>nR B.cat.adl B.cat.adn B.excs.aaj fun l H'' hl=>kq l H'' ?_⟩
   ·obtain⟨hlt,hfo,hso⟩:=key k h0 hk;obtain⟨w1,w2⟩:=Jt hf;have ho:=Wi rd.ok.good hlt;refine⟨⟨2^uQ.P-1,EY.mpr (by have:=Nat.two_pow_pos uQ.P;omega),Rn f2 hso w1 w2 ho⟩,fun d D H'' hd hD=>kq D H'' ?_⟩;have hfw:=(Mf f2 hso w1 w2 ho).trans hd;have hdl:d<2^uQ.P:=EY.mp (mem_of_find?_eq_some hd);unfold j4;rw[if_neg hn,e1];dsimp only;rw[hfo];dsimp only;rw[if_pos hf,hcr,hfw,getD_some,Jv f2 hso w1 w2 ho hdl,hD];rfl
   ·obtain⟨_,hfo,_⟩:=key k h0 hk;unfold j4;rw[if_neg hn,e1];dsimp only;rw[hfo];dsimp only;rw[if_neg hf,hl];rfl
   ·unfold j4;rw[if_neg hn,e1];dsimp only;rw[Yt e6 h,hl];rfl
theorem Wj(i:Int)(text parts:List Int)(h:PyRb35.mend_asked i text parts=true):j4 i (text.map Int.toNat) (parts.map Int.toNat)=PyRb35.mend i text parts∧(∀b∈text.map Int.toNat,b<256)∧text.length≤600∧(∀x∈text,0≤x)∧(∀x∈parts,0≤x)∧parts.length≤64:=by
 have h1:(Rb35Neutral.text (text.length:Int) text&&(Rb35Neutral.whole32 i&&(Rb35Neutral.few (parts.length:Int) parts&&Rb35Neutral.small text i true)))=true:=h;obtain⟨a1,a2,a3,hr⟩:=LQ (and_eq_true_iff.mp h1).1;obtain⟨c1,c3⟩:=Rk (and_eq_true_iff.mp (and_eq_true_iff.mp (and_eq_true_iff.mp h1).2).2).1;refine⟨?_,a1,a2,a3,c1,c3⟩;show j4 i (Rb35Neutral.nats text) (Rb35Neutral.nats parts)=(Rb35.answer (.mend (Rb35Neutral.nats text) (text.length:Int) i (Rb35Neutral.nats parts) (parts.length:Int))).v::((Rb35.answer (.mend (Rb35Neutral.nats text) (text.length:Int) i (Rb35Neutral.nats parts) (parts.length:Int))).l.map fun (x:Nat)=>(x:Int));have hcl:(Rb35Neutral.nats parts).length=parts.length:=length_map _;have hir:Rb35.inRange 0 (parts.length:Int) 64=true:=by
  unfold Rb35.inRange;simp only[and_eq_true,decide_eq_true_eq];omega
 unfold j4 Rb35.answer Rb35.begun;dsimp only;rw[if_neg (by omega),if_pos (by rw[hr,hir];rfl)];cases q0:Rb35.taken (Rb35Neutral.nats text) with
 |bad v=>rfl
 |good G=>
  unfold Rb35.asks;dsimp only;have qq:Rb35.formAt G i=none∨∃f,Rb35.formAt G i=some f:=by
   cases Rb35.formAt G i with
   |none=>exact .inl rfl
   |some f=>exact .inr ⟨f,rfl⟩
  rcases qq with q|⟨f,q⟩
  ·have:([i].any fun (i:Int)=>(Rb35.formAt G i).isNone)=true:=by simp[q]
   rw[if_pos this];simp only[q];rfl
  ·have:¬([i].any fun (i:Int)=>(Rb35.formAt G i).isNone)=true:=by simp[q]
   rw[if_neg this];simp only[q,getD_some];by_cases hf:Rb35.fits G.p (Rb35.leaves f).length (Rb35Neutral.nats parts)=true
   ·have hf':¬Rb35.fits G.p (Rb35.leaves f).length (Rb35Neutral.nats parts)=false:=by rw[hf];decide
    rw[if_pos hf,if_neg hf'];rfl
   ·have hf':Rb35.fits G.p (Rb35.leaves f).length (Rb35Neutral.nats parts)=false:=by simpa using hf
    rw[if_neg hf,if_pos hf'];rfl
theorem MP{mb:Str→Option Value}{s₁:Shared}{fa a a2 tm:Addr}{p:Program}{loose:List Str}{mean:ExcName→Option Value}{vs vs2:List Value}{i:Int}{ti:PySem.Tok}{ns Zj:List Int}(KX:K.In s₁.heap)(T:Top p loose mean mg mb s₁.heap)(hmg:mg "mend"=some (.ref fa))(hg:s₁.gens=#[])(hrec:((recsOf p).find? (fun e=>e.name==("mend":Str))).isSome=true)(ht:(tabIn K "mend").isSome=true)(hK:noTabs K=true)(B:Base K mg cs)(C:Av K mg "mend" jV)(hr2:((recsOf p).find? (fun e=>e.name==("fewest_first":Str))).isSome=true)(ht2:(tabIn K "fewest_first").isSome=true)(hne:((tabIn K "mend").map (·.2)==(tabIn K "fewest_first").map (·.2))=false)(C2:Av K mg "fewest_first" cB)(X:Q7 K mg "WrongNumbers" "WrongNumbers.__init__" cQ tm)(Rg:∃t,mg "NO_SECRET"=some (.int (-4) t))(VD:∃t,mg "MANY_SECRETS"=some (.int (-6) t))(hM:∃t,mg "MOST_NUMBERS"=some (.int 64 t))(hen:mg "enumerate"=none)(hso:mg "sorted"=none)(aa6:mg "zip"=none)(M1:∃C,mg "Book"=some (.ref C)∧gB K C "is_person" "Book.is_person" fM)(M2:∃C,mg "Book"=some (.ref C)∧gB K C "node_of" "Book.node_of" gO)(FA:bL K mg "answered" bF)(G1:bL K mg "mended" qQ)(G2:bL K mg "fewest_first" cB)(G3:bL K mg "how_many" jA)(GE:bL K mg "held_without" fB)(G4:bL K mg "found_of" mD)(G5:bL K mg "found_of_node" dj)(G6:bL K mg "value_through" cJ)(G7:bL K mg "product" oR)(G8:bL K mg "inverse" oU)(G9:bL K mg "steps_of" mC)(GA:bL K mg "owners_of" iz)(GB:bL K mg "keep_numbers" fu)(GD:bL K mg "formula_of" jo)(ha:s₁.heap.get? a=some { cls:=.type "list",data:=.seq vs.toArray })(hi:IntsAre vs ns)(ha2:s₁.heap.get? a2=some { cls:=.type "list",data:=.seq vs2.toArray })(hi2:IntsAre vs2 Zj)(abn:PyRb35.mend_asked i ns Zj=true) :
  codeAny (model P w) callerA (.call (.ref fa) ⟨[.int i ti,.ref a,.ref a2],[]⟩) (fun r s'=>∃l H',r=.ok (.ret (.ref l))∧H' l=some (.lst (iV (PyRb35.mend i ns Zj)))∧oF P w H' s'.heap∧OldK s₁.heap s'.heap∧s'.os=s₁.os∧AllBare s'.gens) s₁:=by
 obtain⟨due,hbs,hlen,hpos,adP,hlen2⟩:=Wj i ns Zj abn;obtain⟨fA,fdA,FA,hmA⟩:=FA.ex;obtain⟨fF,fdF,FF,hmF⟩:=G2.ex;refine Ru (ps:=["form","text","parts"]) (sp:=Wh K) (ls:=[(a,vs,ns),(a2,vs2,Zj)]) (vs:=[.int i,.ref a,.ref a2]) KX T hmg hg hrec ht hK hr2 ht2 hne C C2 (fun y hy=>?_) (.cons ⟨_,rfl⟩ (.cons rfl (.cons rfl .nil))) (fun c T oc kV doc pm ct od an osl f2 c2 T2 oc2 kV2 YC pm2 ct2 od2 an2 YD base lk hcd hC hm2 lk2 Em Yr hbm=>?_) (fun _ _ _ _ _ _=>.of_eq rfl) fun T T2 H hTT hT hT2 XM=>?_
 ·rcases mem_cons.mp hy with rfl|hy
  ·exact⟨ha,hi,hlen⟩
  ·obtain rfl:=mem_singleton.mp hy;exact⟨ha2,hi2,le_trans hlen2 (by decide)⟩
 ·have kp:keepIn K (.ref f2)=true:=by
   rw[hmF]at hm2;cases hm2;exact FF.kp
  refine YG lk hcd FA hmA B X hM (fun base'=>Yi GD B.gR B.naB B.len (mW B.excs)) (fun base' h1 h2=>?_) hC Yr hbm;have IP:=aaS (P:=P) (w:=w) (mg:=mg) (base:=base') (B.met M1) B.gR B.naB B.len;have NO:=Q9 (P:=P) (w:=w) (mg:=mg) (base:=base') (B.met M2) B.gR B.naB B.len;have ST:=VF G9 B.gR B.naB B.UW B.U0 B.len IP NO;have VT:=aaX (P:=P) (w:=w) (base:=base') G6 (Yn G7) (aaW G8);have FO:=VG G4 B.gR B.naB B.UW B.U0 B.len ST IP NO (VB G5 Rg VD hen B.len B.any VT);exact Rr G1 B.gR B.naB Rg B.len (Ri GA B.gR ST IP) (Vp GB B.gR B.naB B.len B.any (Vo B.excs X)) (Rq hm2 kp lk2 Em (fun _=>aa5 G3 B.sum B.range) hso B.range h1 h2) (Mh GE VD aa6) FO
 ·have hla:=XM (a,vs,ns) (by simp);have hlc:=XM (a2,vs2,Zj) (by simp);rw[Ph ns hpos]at hla;rw[Ph Zj adP]at hlc;exact⟨a,a2,ns.map Int.toNat,Zj.map Int.toNat,i,rfl,hla,hbs,by rw[length_map];omega,hlc,by rw[length_map];omega,hTT,hT,hT2,fun l H' hl=>⟨l,rfl,by rw[←due];exact hl⟩⟩
end
end Pg
section
open PySem PySem.W PyProof.Rows
theorem Pg.said:PySem.Challenge.rw_secretparts_s07_mend.wellSaid=true:=by decide +kernel
theorem Pg.agq{α:Type}(f:Int→List Int→List Int→α)(i0:Int)(l1:List Int)(l2:List Int):Codec.app (R:=α) [.int (_root_.Int.negSucc 2147483647) (_root_.Int.ofNat 2147483647),.list 0 600 (.int (_root_.Int.ofNat 0) (_root_.Int.ofNat 255)),.list 0 64 (.int (_root_.Int.ofNat 0) (_root_.Int.ofNat 255))] f (i0,l1,l2,())=f i0 l1 l2:=rfl
theorem Pg.Wk(i0:Int)(l1:List Int)(l2:List Int):Codec.app PySem.Challenge.rw_secretparts_s07_mend.args PySem.Challenge.rw_secretparts_s07_mend.asked (i0,l1,l2,())=PyRb35.mend_asked i0 l1 l2:=
 Eq.trans (b:=Codec.app (R:=Bool) [.int (_root_.Int.negSucc 2147483647) (_root_.Int.ofNat 2147483647),.list 0 600 (.int (_root_.Int.ofNat 0) (_root_.Int.ofNat 255)),.list 0 64 (.int (_root_.Int.ofNat 0) (_root_.Int.ofNat 255))] PyRb35.mend_asked (i0,l1,l2,())) (by kernel_rfl) (Pg.agq PyRb35.mend_asked i0 l1 l2)
theorem Pg.abo(i0:Int)(l1:List Int)(l2:List Int):WData.list ((PyRb35.mend i0 l1 l2).map WData.int)=PySem.Challenge.rw_secretparts_s07_mend.ret.enc (Codec.app PySem.Challenge.rw_secretparts_s07_mend.args PySem.Challenge.rw_secretparts_s07_mend.f (i0,l1,l2,())):=by kernel_rfl
theorem Pg.abp(i0:Int)(l1:List Int)(l2:List Int):Codec.encAll PySem.Challenge.rw_secretparts_s07_mend.args (i0,l1,l2,())=[WData.int i0,WData.list (l1.map WData.int),WData.list (l2.map WData.int)]:=by kernel_rfl
namespace PySem.W.Fast
def tw15985426956822033440:=0
def tw12779772660691344512:=0
def tw13992802810055179424:=0
def tw8653640388180535520:=0
def tw11532880518875344096:=0
def tw17004613196933842240:=0
def tw7603286882651933056:=0
def tw2236644266562206144:=0
def tw6236712872156018176:=0
def tw2559583679288177184:=0
def tw13862514947018295904:=0
def tw3570320857134028448:=0
def tw66446801787567808:=0
def tw3521041620915215072:=0
def tw13694095804608067296:=0
def tw1688910937194056544:=0
def tw16165951605437347712:=0
def tw3611081650915878880:=0
def tw16403581603970754528:=0
def tw2299679980366312449:=0
def tw9372139116018368545:=0
def tw10606822883590709409:=0
def tw1610248180650375329:=0
def tw9898772718126543041:=0
def tw190821732494333185:=0
def tw6451897343751514497:=0
def tw12398223618932474305:=0
def tw8608366507713208961:=0
def tw10876888383570442913:=0
def tw10090185268334796513:=0
def tw13895142135574127329:=0
def tw9287102271727380257:=0
def tw10509897776135847841:=0
def tw5690234620469809057:=0
def tw14455290290774630369:=0
def tw3901866881189389281:=0
def tw10365068175505268994:=0
def tw11907846249775251714:=0
def tw17693960182800384322:=0
def tw6544345317031865698:=0
def tw15483989396129020258:=0
def tw13682124465952059778:=0
def tw14784815408829856226:=0
def tw3436630973210476386:=0
def tw10670521336259651458:=0
def tw1006156508207139714:=0
def tw3051781756085205890:=0
def tw12520722888975957922:=0
def tw904183720589816738:=0
def tw14967388053992893378:=0
def tw15628188305901884354:=0
def tw2737138844764351555:=0
def tw10739579392512555203:=0
def tw10793788947471588643:=0
def tw10953226746663904579:=0
def tw5211412169867641155:=0
def tw13266730402526392643:=0
def tw17043775236507629923:=0
def tw9434447654273947043:=0
def tw9770494725248792995:=0
def tw1400811405582264739:=0
def tw12046498652338713027:=0
def tw6015823170595793443:=0
def tw4646797452481378947:=0
def tw3582796308775549603:=0
def tw17236111001862584195:=0
def tw6409938215034347491:=0
def tw5337834943965243620:=0
def tw11155930345795438852:=0
def tw2303587331504694596:=0
def tw6668067926004272484:=0
def tw4790897622057788900:=0
def tw14323180629174696484:=0
def tw12764071339177323172:=0
def tw5208018016823301956:=0
def tw1183551623922353060:=0
def tw13098215669797452740:=0
def tw15107053104319636485:=0
def tw14515076951788886149:=0
def tw2060957722446997733:=0
def tw17356776340131494149:=0
def tw7901407552364733893:=0
def tw18129072258769911269:=0
def tw16491406755142341093:=0
def tw1119193042432240133:=0
def tw8551737295127260805:=0
def tw99016654400512773:=0
def tw10070387248367490853:=0
def tw2139327780553414437:=0
def tw11824439292630331365:=0
def tw2748979383401583654:=0
def tw12673638060825245766:=0
def tw9699811066201081990:=0
def tw7422641898613428518:=0
def tw6689672078576208262:=0
def tw13557873251296919942:=0
def tw16776723047964262822:=0
def tw11507244161067251110:=0
def tw4425374601115381190:=0
def tw13801611393313411590:=0
def tw4186211320697665094:=0
def tw7052924033117930086:=0
def tw57835304405301990:=0
def tw14735369312617705222:=0
def tw15507642316855707558:=0
def tw6505169792086079430:=0
def tw17731664378399020006:=0
def tw4313504074930508807:=0
def tw719948581663746087:=0
def tw15833633607414011975:=0
def tw16057235473003118855:=0
def tw8044992603359756583:=0
def tw2836087563729660231:=0
def tw16557229270706271591:=0
def tw18290895754021601703:=0
def tw4329360442147800583:=0
def tw12319144486506400263:=0
def tw4263212726450626151:=0
def tw2006538223261792903:=0
def tw14355293705956002471:=0
def tw9475323442794166951:=0
def tw6729220869072770759:=0
def tw8277186959200913159:=0
def tw6695817795873248039:=0
def tw15829834350483268423:=0
def tw6046788264282897287:=0
def tw4198745731811302311:=0
def tw821934842639438856:=0
def tw16831003988534858952:=0
def tw7844877215774805224:=0
def tw14700028414969498888:=0
def tw3278231900469559880:=0
def tw5431762648116942568:=0
def tw11065009975742423784:=0
def tw11068943051997255592:=0
def tw6222624410951589832:=0
def tw18232694982224666600:=0
def tw5537577287225834633:=0
def tw3466592579724166441:=0
def tw5493305472234340777:=0
def tw17800106833250981385:=0
def tw2556654479967759913:=0
def tw1126697791002412777:=0
def tw17289941686438434569:=0
def tw13072657455846828841:=0
def tw15878488351985080297:=0
def tw11003333315749469226:=0
def tw16327617676434488394:=0
def tw5275614412581883018:=0
def tw6920925923280212170:=0
def tw11261440114057357578:=0
def tw18046490772754627850:=0
def tw140560273223173418:=0
def tw14597309337448522058:=0
def tw17371245707253633418:=0
def tw479550711342228906:=0
def tw4557236139215904234:=0
def tw5817337905627873770:=0
def tw12029146169248064138:=0
def tw4542420159049905994:=0
def tw1865001773233566538:=0
def tw6649708553155575626:=0
def tw16067968847873347466:=0
def tw9952385281806360490:=0
def tw15053431439335495626:=0
def tw14099348658838582347:=0
def tw11321268291762325643:=0
def tw14356489780215237803:=0
def tw10694164668461137131:=0
def tw9752658012313677259:=0
def tw14331893542409966059:=0
def tw8421122993807291051:=0
def tw317517457014805227:=0
def tw2869747480437491531:=0
def tw10023539574403206987:=0
def tw18200616432640308107:=0
def tw681883718181729195:=0
def tw5952355795762961420:=0
def tw5895121258473800748:=0
def tw10181462923475504268:=0
def tw5359673947744868588:=0
def tw11045834829930263884:=0
def tw3717757453283131788:=0
def tw4207414061429423500:=0
def tw14068981888514098604:=0
def tw11384774258481290732:=0
def tw18401263796998121004:=0
def tw16606674067906893420:=0
def tw7891204064558769772:=0
def tw13391179072067998348:=0
def tw14718450486536831692:=0
def tw14018273448382916332:=0
def tw13622227578787255052:=0
def tw1131536427117492076:=0
def tw14604222236746389452:=0
def tw6940531058224743437:=0
def tw11845070870923663437:=0
def tw4226187452133261421:=0
def tw18336803030836174061:=0
def tw6214810691367934221:=0
def tw9491008270145591629:=0
def tw13160989604156355917:=0
def tw4472378183903698317:=0
def tw10089592678863874477:=0
def tw11574340991949060525:=0
def tw4266743284357460397:=0
def tw265750693829092845:=0
def tw11290394524603558381:=0
def tw6440450158598014893:=0
def tw9491252828936018990:=0
def tw16064185639712944238:=0
def tw13635053633329237134:=0
def tw15706542794251615374:=0
def tw9668844892156948782:=0
def tw6917602012331117934:=0
def tw10377063395575332206:=0
def tw4585754320929987982:=0
def tw17311323690542767502:=0
def tw6392530087500412366:=0
def tw16532250819720093134:=0
def tw4339392554150586894:=0
def tw17259874989292803758:=0
def tw10184692432042100430:=0
def tw15952568994390338414:=0
def tw4335011633600305038:=0
def tw16527458303228889038:=0
def tw14865314910992671759:=0
def tw8137305199031512079:=0
def tw6128677447272671279:=0
def tw802089560926753935:=0
def tw12373076831353240751:=0
def tw13849625241701364911:=0
def tw12343538699636123855:=0
def tw10753582852878495983:=0
def tw13903927236002451791:=0
def tw12956601690203566447:=0
def tw9956686594382973455:=0
def tw3409854462772184687:=0
def tw11120051398197799663:=0
def tw8030654859840586543:=0
def tw17796174624468375375:=0
def tw16647070058823887727:=0
def tw5260769770976763759:=0
def tw12998724842943553423:=0
def tw8772982510110535631:=0
def tw6663570651993904111:=0
def tw3525180211042836463:=0
def tw8407076421180144656:=0
def tw2852449125055300656:=0
def tw9371653891518443568:=0
def tw14255131383541554256:=0
def tw13380180804285015152:=0
def tw9003451564503512176:=0
def tw17349980082065351824:=0
def tw4021271558722957456:=0
def tw5402510525341267120:=0
def tw6787940953237258416:=0
def tw7352265157774308592:=0
def tw8630344356482963760:=0
def tw18124756294976827696:=0
def tw1697760161979813232:=0
def tw3791956489516771728:=0
def tw11260254093809387984:=0
def tw9539650966976698032:=0
def tw8900975622288896720:=0
def tw12225734234012287728:=0
def tw16227850991634941744:=0
def tw13948797634498302800:=0
def tw14353164573407891280:=0
def tw2263730423426339696:=0
def tw14344677102022866864:=0
def tw2962661363716428720:=0
def tw2026474257970930672:=0
def tw9260085173014696977:=0
def tw15679626552505407505:=0
def tw12247696677379317937:=0
def tw5821083271024859409:=0
def tw3188601992464382353:=0
def tw13236926719293336977:=0
def tw6462654911818394129:=0
def tw9557705454935634609:=0
def tw10963154650653012753:=0
def tw17176145087020364561:=0
def tw17087507160103126865:=0
def tw14403806109806399377:=0
def tw16248550831291002801:=0
def tw6750524703191523378:=0
def tw6275542832417991794:=0
def tw18064794997456002226:=0
def tw1209344767197806866:=0
def tw7367161567364265266:=0
def tw9148490120889832786:=0
def tw17220722968860979538:=0
def tw7855406273238002130:=0
def tw7414882017885094610:=0
def tw6518044871613062930:=0
def tw14035756504181549874:=0
def tw4814666048169011122:=0
def tw9470632518236121074:=0
def tw8547066705518972947:=0
def tw13658673492660292691:=0
def tw12383143335596294355:=0
def tw12482803415756157299:=0
def tw11175210198051624339:=0
def tw12498266950712807827:=0
def tw16555648751237063091:=0
def tw13614869161037623763:=0
def tw7301203347506656723:=0
def tw1473417170154444275:=0
def tw16224232848721345043:=0
def tw4789236273793862195:=0
def tw2558558511116522163:=0
def tw11003849919452871379:=0
def tw13778600042733384435:=0
def tw1609741925848731379:=0
def tw17667817231214686995:=0
def tw5373554614049604403:=0
def tw16747490560385015667:=0
def tw3577777864630825843:=0
def tw8183698164188499859:=0
def tw17957851569356767123:=0
def tw5401520819564386291:=0
def tw17093727657394502836:=0
def tw18169865272135568596:=0
def tw11669215328025111988:=0
def tw4634725325603423700:=0
def tw16792361916201857492:=0
def tw1872355388719065716:=0
def tw4187066806619978388:=0
def tw2632437862948353780:=0
def tw11106321335761438516:=0
def tw6795870191483073396:=0
def tw1885507229219958837:=0
def tw7517621040473273429:=0
def tw13122203358382019733:=0
def tw12981423129569242293:=0
def tw5905355803534290133:=0
def tw12092085050918483221:=0
def tw2841386853089309045:=0
def tw3175211320529658261:=0
def tw1350768382497905045:=0
def tw7089843143512750581:=0
def tw4365537906582259253:=0
def tw5370605053863087669:=0
def tw4576239280971352693:=0
def tw16090004132432103029:=0
def tw4067012789763261077:=0
def tw14949556384954435253:=0
def tw12301377672881158933:=0
def tw395177184377789365:=0
def tw13887197495270666197:=0
def tw8210944807131350005:=0
def tw4421042482564173878:=0
def tw4859200742012763254:=0
def tw5003113055484105846:=0
def tw17982507307423760598:=0
def tw15647656581250795734:=0
def tw8686823324210340246:=0
def tw6446124259386376662:=0
def tw15884551498442262:=0
def tw10268637801377466966:=0
def tw16059062387605806710:=0
def tw2374481360177248918:=0
def tw13667569545554813590:=0
def tw1744961422207025910:=0
def tw2829584920758883126:=0
def tw2620084259562263382:=0
def tw8027162099703482294:=0
def tw299799899933798358:=0
def tw1062290370702114935:=0
def tw457485469042559351:=0
def tw15901468446131454327:=0
def tw12474558692862465463:=0
def tw3814395732555427319:=0
def tw6517689711452072503:=0
def tw6543425148044490327:=0
def tw11599851721168807639:=0
def tw18352601209674166999:=0
def tw13015925318629000951:=0
def tw8372954207544244055:=0
def tw9760798597729265527:=0
def tw9497012078946909079:=0
def tw14661529698224327671:=0
def tw6251517823358470135:=0
def tw6864534085131324472:=0
def tw7675923535647610968:=0
def tw5649759805802613016:=0
def tw11875158585620604216:=0
def tw8765147189526829528:=0
def tw5473727727266180696:=0
def tw17431376968242813560:=0
def tw10351030005111092920:=0
def tw12706329614545819416:=0
def tw1233267704892250904:=0
def tw10571174028084790072:=0
def tw14706497735580789656:=0
def tw1713467216906888088:=0
def tw5025990745759820760:=0
def tw393660516612464632:=0
def tw5250926794057377881:=0
def tw9194072892834452569:=0
def tw17877221505577241721:=0
def tw9858077242747512121:=0
def tw10632731872126851417:=0
def tw9867479387057210745:=0
def tw8262382870309623161:=0
def tw7358554746308607385:=0
def tw8229689007536845209:=0
def tw12780493974961286617:=0
def tw15802157548330530329:=0
def tw14764416117838591545:=0
def tw8565687361764853433:=0
def tw11381119392394021785:=0
def tw16046151645107151962:=0
def tw14042580321286991002:=0
def tw680707682408581338:=0
def tw992352685918011610:=0
def tw13001578193351425370:=0
def tw1870279873651201498:=0
def tw10695607830923671098:=0
def tw15122005693717257946:=0
def tw17162488157039330298:=0
def tw4385989576441059355:=0
def tw320998340401084507:=0
def tw8061526129976813755:=0
def tw13677916782831181083:=0
def tw13963231740161190203:=0
def tw7197922507448878459:=0
def tw4118419784565936827:=0
def tw4112777686466086715:=0
def tw17494579671613832027:=0
def tw12092304667465797467:=0
def tw12716545528406953851:=0
def tw9406761655218816891:=0
def tw3940318537732884443:=0
def tw17376866789288964220:=0
def tw16321032795450854588:=0
def tw6306268642630308092:=0
def tw15957222983125371228:=0
def tw11034260800321053116:=0
def tw10715114700390227484:=0
def tw12946548948045597276:=0
def tw5603373544240388700:=0
def tw6913692267208494684:=0
def tw11055835330689791580:=0
def tw3783835305651866236:=0
def tw4446042885357367004:=0
def tw2056785206002158556:=0
def tw14166251050222661693:=0
def tw13415632166247275613:=0
def tw8671150855418965085:=0
def tw17081046827850556669:=0
def tw14929503217398421853:=0
def tw17826415391887216157:=0
def tw12376503965641944893:=0
def tw17133653282822363005:=0
def tw17610602597733780349:=0
def tw6382895536361838493:=0
def tw4502497761289230269:=0
def tw6482990744464002110:=0
def tw14401744061190456382:=0
def tw11794601637714957406:=0
def tw14350445634997335230:=0
def tw4079305919050361054:=0
def tw11482559474234265822:=0
def tw1291181005945724190:=0
def tw15991208913903104350:=0
def tw14054182672700130654:=0
def tw2635062195718866270:=0
def tw13118973263093475710:=0
def tw8666603258190164382:=0
def tw1959853742921432542:=0
def tw10515994492992481758:=0
def tw16735516018959939038:=0
def tw3158144315466593790:=0
def tw4071817488880664062:=0
def tw5450171299905589982:=0
def tw3589024986949211902:=0
def tw2680393387766398782:=0
def tw8643625745840758590:=0
def tw15662829642954379102:=0
def tw12983336972922976254:=0
def tw3931756328277102719:=0
def tw15318483944368987295:=0
def tw14886595205559396543:=0
def tw4523400039608928447:=0
def tw9598344510626494719:=0
def tw233885947416484127:=0
def tw1758031896471704895:=0
def tw11177644683113376095:=0
def tw9508724265271656831:=0
def tw9698623044048511391:=0
def tw11515851939370216895:=0
def tw5875226587188239807:=0
def tw9903816673632839167:=0
def tw9439694355703050751:=0
def tw17387399507558739519:=0
def tw3656819145609217823:=0
def tw12577182834292945823:=0
def tw9490334709641180095:=0
def tw8302564102365843455:=0
def tw9946721103666471381:=0
end PySem.W.Fast
set_option maxHeartbeats 0 in
theorem PySem.Challenge.cw_secretparts_s07_mend_holds : PySem.Challenge.rw_secretparts_s07_mend.Holds := by
 w_on;k_headS
 (case hw=>exact⟨[.int 0,.list [],.list []],by decide +kernel,by decide +kernel⟩)
 k_fillS
 intro w s₀ s₁ mg mb G Y fa o pm cd doc dV kV ho hd hcd hD hmg hg args vals as hpre hlay hrd hwl hlo;have KX:=kIn_of Y;have B:∃cs,Pg.Base (L2.KOf KX) mg cs:=by
  dsimp only[L2.KOf]
  refine' ⟨_,Pg.Yy ?V0 ?vR ?vU ?O5 ?iK ?jP ?je ?lF ?mZ ?V1 ?iM ?iQ ?V2 ?pF ?pG ?lG ?iR ?V3 ?fH ?Ak ?vV ?tG ?gU ?gF ?fJ ?jf ?jg ?Al ?Am ?tH ?lH ?vW ?vX ?Ao ?qI ?pH ?m5 ?jh ?ji ?lJ ?lK ?pI ?m8 ?tK ?vY ?V4 ?Mi ?V5 ?V6 ?O6 ?Mj ?Ml ?Mp ?Mq ?Mr ?V7 ?Ms ?Mt ?Mu ?V8 ?Mv ?Mw ?Mx ?V9 ?Mz ?MF ?MJ ?lM ?O7 ?O8 ?O9 ?xU ?Pa ?z_ord ?MK ?Aq ?ou ?Fb ?Pb ?rC ?uP ?jZ ?m9 ?lN ?jj ?jk ?ni ?qJ ?nj ?lO ?abb ?abd ?abe ?abf ?d1 ?d2 ?d3 ?d4 ?d5 ?d6⟩
  case V0=>refine' Pg.uO KX G.T.g ?m ?t ?i ?n ?u ?l ?c ?k;case m|t|i|n|u|l|c|k=>k_is
  case vR=>constructor<;>k_is
  case vU=>repeat (first|exact Pg.qH|refine Pg.oh (by k_is) ?_)
  case O5=>refine' Pg.uO KX G.T.g ?m ?t ?i ?n ?u ?l ?c ?k;case m|t|i|n|u|l|c|k=>k_is
  case iK=>constructor<;>k_is
  case jP=>repeat (first|exact Pg.qH|refine Pg.oh (by k_is) ?_)
  case je|lF|mZ=>refine' Pg.uN ?i ?n ?l ?c ?k;case i|n|l|c|k=>k_is
  case V1=>refine' Pg.uO KX G.T.g ?m ?t ?i ?n ?u ?l ?c ?k;case m|t|i|n|u|l|c|k=>k_is
  case iM=>constructor<;>k_is
  case iQ=>repeat (first|exact Pg.qH|refine Pg.oh (by k_is) ?_)
  case V2=>refine' Pg.uO KX G.T.g ?m ?t ?i ?n ?u ?l ?c ?k;case m|t|i|n|u|l|c|k=>k_is
  case pF=>constructor<;>k_is
  case pG=>repeat (first|exact Pg.qH|refine Pg.oh (by k_is) ?_)
  case lG|iR=>refine' Pg.uN ?i ?n ?l ?c ?k;case i|n|l|c|k=>k_is
  case V3=>refine' Pg.uO KX G.T.g ?m ?t ?i ?n ?u ?l ?c ?k;case m|t|i|n|u|l|c|k=>k_is
  case fH=>constructor<;>k_is
  case Ak=>repeat (first|exact Pg.qH|refine Pg.oh (by k_is) ?_)
  case vV|tG|gU|gF|fJ|jf|jg=>refine' Pg.uN ?i ?n ?l ?c ?k;case i|n|l|c|k=>k_is
  case Al|Am|tH|lH|vW|vX|Ao|qI|pH|m5|jh|ji|lJ|lK|pI|m8|tK|vY=>refine' Pg.eY KX G.T.g ?m ?l ?c ?k;case m|l|c|k=>k_is
  case V4=>exact mg_of KX G.T.g (by k_is)
  case Mi|V5|V6|O6|Mj|Ml|Mp|Mq|Mr=>k_is
  case V7=>refine' Pg.xR KX G.T.g ?m ?t ?i ?l ?c ?k ?u ?a ?o ?d ?b;(case m|t|i|l|c|k|u|a|d=>k_is);(case o|b=>kernel_rfl)
  case Ms|Mt=>k_is
  case Mu=>constructor<;>k_is
  case V8=>refine' Pg.xR KX G.T.g ?m ?t ?i ?l ?c ?k ?u ?a ?o ?d ?b;(case m|t|i|l|c|k|u|a|d=>k_is);(case o|b=>kernel_rfl)
  case Mv|Mw=>k_is
  case Mx=>constructor<;>k_is
  case V9=>refine' Pg.xR KX G.T.g ?m ?t ?i ?l ?c ?k ?u ?a ?o ?d ?b;(case m|t|i|l|c|k|u|a|d=>k_is);(case o|b=>kernel_rfl)
  case Mz|MF=>k_is
  case MJ=>constructor<;>k_is
  case lM|O7|O8|O9|xU|Pa|z_ord|MK=>exact mg_none_of KX G.T.g (by k_is)
  case Aq|ou|Fb|Pb|rC|uP|jZ|m9|lN|jj|jk|ni|qJ|nj|lO=>exact⟨_,mg_of KX G.T.g (by k_is)⟩
  case abb=>exact mg_of KX G.T.g (by k_is)
  case abd=>k_is
  case abe=>exact mg_of KX G.T.g (by k_is)
  case abf=>k_is
  case d1|d2|d3|d4|d5|d6=>first|rfl|decide|kernel_rfl
 obtain⟨cs,B⟩:=B;have ags:Pg.Av (L2.KOf KX) mg "fewest_first" Pg.cB:=by dsimp only[L2.KOf];refine' Pg.Pj KX G.T.g ?m ?l ?k;case m|l|k=>k_is
 have lQ:∃tm,Pg.Q7 (L2.KOf KX) mg "WrongNumbers" "WrongNumbers.__init__" Pg.cQ tm:=by
  dsimp only[L2.KOf]
  refine' ⟨_,⟨?e,?n,?s,?g⟩⟩
  case e=>refine' Pg.xR KX G.T.g ?m ?t ?i ?l ?c ?k ?u ?a ?o ?d ?b;(case m|t|i|l|c|k|u|a|d=>k_is);(case o|b=>kernel_rfl)
  case n=>k_is
  case s=>exact⟨_,mg_of KX G.T.g (by k_is),by k_is⟩
  case g=>constructor<;>k_is
 obtain⟨RM,lQ⟩:=lQ;have JC:∃t,mg "NO_SECRET"=some (.int (-4) t):=⟨_,mg_of KX G.T.g (by k_is)⟩;have Aw:∃t,mg "MANY_SECRETS"=some (.int (-6) t):=⟨_,mg_of KX G.T.g (by k_is)⟩;have Ax:∃t,mg "MOST_NUMBERS"=some (.int 64 t):=⟨_,mg_of KX G.T.g (by k_is)⟩;have JD:mg "enumerate"=none:=mg_none_of KX G.T.g (by k_is);have Wm:mg "sorted"=none:=mg_none_of KX G.T.g (by k_is);have adQ:mg "zip"=none:=mg_none_of KX G.T.g (by k_is);have JF:∃C,mg "Book"=some (.ref C)∧Pg.gB (L2.KOf KX) C "is_person" "Book.is_person" Pg.fM:=by
  dsimp only[L2.KOf]
  refine' ⟨_,mg_of KX G.T.g (by k_is),?z⟩
  case z=>refine' Pg.uN ?i ?n ?l ?c ?k;case i|n|l|c|k=>k_is
 have Rw:∃C,mg "Book"=some (.ref C)∧Pg.gB (L2.KOf KX) C "node_of" "Book.node_of" Pg.gO:=by
  dsimp only[L2.KOf]
  refine' ⟨_,mg_of KX G.T.g (by k_is),?z⟩
  case z=>refine' Pg.uN ?i ?n ?l ?c ?k;case i|n|l|c|k=>k_is
 have M4:Pg.bL (L2.KOf KX) mg "answered" Pg.bF:=by dsimp only[L2.KOf];refine' Pg.eY KX G.T.g ?m ?l ?c ?k;case m|l|c|k=>k_is
 have Wn:Pg.bL (L2.KOf KX) mg "mended" Pg.qQ:=by dsimp only[L2.KOf];refine' Pg.eY KX G.T.g ?m ?l ?c ?k;case m|l|c|k=>k_is
 have Ay:Pg.bL (L2.KOf KX) mg "fewest_first" Pg.cB:=by dsimp only[L2.KOf];refine' Pg.eY KX G.T.g ?m ?l ?c ?k;case m|l|c|k=>k_is
 have M5:Pg.bL (L2.KOf KX) mg "how_many" Pg.jA:=by dsimp only[L2.KOf];refine' Pg.eY KX G.T.g ?m ?l ?c ?k;case m|l|c|k=>k_is
 have Az:Pg.bL (L2.KOf KX) mg "held_without" Pg.fB:=by dsimp only[L2.KOf];refine' Pg.eY KX G.T.g ?m ?l ?c ?k;case m|l|c|k=>k_is
 have M6:Pg.bL (L2.KOf KX) mg "found_of" Pg.mD:=by dsimp only[L2.KOf];refine' Pg.eY KX G.T.g ?m ?l ?c ?k;case m|l|c|k=>k_is
 have wX:Pg.bL (L2.KOf KX) mg "found_of_node" Pg.dj:=by dsimp only[L2.KOf];refine' Pg.eY KX G.T.g ?m ?l ?c ?k;case m|l|c|k=>k_is
 have wY:Pg.bL (L2.KOf KX) mg "value_through" Pg.cJ:=by dsimp only[L2.KOf];refine' Pg.eY KX G.T.g ?m ?l ?c ?k;case m|l|c|k=>k_is
 have Rx:Pg.bL (L2.KOf KX) mg "product" Pg.oR:=by dsimp only[L2.KOf];refine' Pg.eY KX G.T.g ?m ?l ?c ?k;case m|l|c|k=>k_is
 have Ry:Pg.bL (L2.KOf KX) mg "inverse" Pg.oU:=by dsimp only[L2.KOf];refine' Pg.eY KX G.T.g ?m ?l ?c ?k;case m|l|c|k=>k_is
 have M7:Pg.bL (L2.KOf KX) mg "steps_of" Pg.mC:=by dsimp only[L2.KOf];refine' Pg.eY KX G.T.g ?m ?l ?c ?k;case m|l|c|k=>k_is
 have JG:Pg.bL (L2.KOf KX) mg "owners_of" Pg.iz:=by dsimp only[L2.KOf];refine' Pg.eY KX G.T.g ?m ?l ?c ?k;case m|l|c|k=>k_is
 have Ba:Pg.bL (L2.KOf KX) mg "keep_numbers" Pg.fu:=by dsimp only[L2.KOf];refine' Pg.eY KX G.T.g ?m ?l ?c ?k;case m|l|c|k=>k_is
 have Fd:Pg.bL (L2.KOf KX) mg "formula_of" Pg.jo:=by dsimp only[L2.KOf];refine' Pg.eY KX G.T.g ?m ?l ?c ?k;case m|l|c|k=>k_is
 have C:Pg.Av (L2.KOf KX) mg "mend" Pg.jV:=by
  dsimp only[L2.KOf]
  refine' Pg.Pj KX G.T.g ?m ?l ?k
  case m|l|k=>k_is
 obtain⟨⟨i0,l1,l2,un⟩,hin,abn,rfl⟩:=(OpenSpec.pre_iff Pg.said args).mp hpre;cases un;have adR:=(Pg.Wk i0 l1 l2).symm.trans abn;rw[Pg.abp]at hwl;cases hwl with|cons w0 hwl=>
 cases hwl with|cons w1 hwl=>
 cases hwl with|cons w2 hwl=>
 cases hwl;obtain⟨t0,rfl⟩:=Pg.Wb w0;obtain⟨a1,vs1,rfl,ha1,hi1⟩:=Pg.Dc w1;obtain⟨a2,vs2,rfl,ha2,hi2⟩:=Pg.Dc w2;refine enter_call (codeAny_mono (Pg.MP KX G.T hmg hg (by kernel_rfl) (by kernel_rfl) (by kernel_rfl) B C (by kernel_rfl) (by kernel_rfl) (by kernel_rfl) ags lQ JC Aw Ax JD Wm adQ JF Rw M4 Wn Ay M5 Az M6 wX wY Rx Ry M7 JG Ba Fd ha1 hi1 ha2 hi2 adR) fun r s' h=>?_);obtain⟨l,H',rfl,hl,hok,h1,h2,h3⟩:=h;exact Pg.Ro hok hl ((OpenSpec.post_iff Pg.said hin _ _).mpr (Pg.abo i0 l1 l2)) h1 h2 h3
end
