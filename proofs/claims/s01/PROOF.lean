import PyProof.Rows.All
import Wide.All
import OpenK.AllK
import Wide.FinOn
import PyProof.EqAt
import PyProof.EqKinds
import PyProof.TupleCall
import KE.BitLaws
import Open.SpecLaws
import KE.OsHead
import KE.OsGo
import QwMach
import QuiltSpec
import PyWrquil
import PyFlatLaws
import PySem.Challenge.RW_quiltwork_s01_answers
import WrquilNeutral
set_option Elab.async false
set_option linter.all false
set_option maxRecDepth 1000000
section
namespace L2
open PySem PySem.Spec PyProof.Rows
abbrev B0:=Sum Int Str
def JQ:B0→Value→Bool
 | .inl k,v=>Value.isInt k v
 | .inr x,v=>Value.isStrOf x v
def Os(w:World):B0→Int
 | .inl k=>hashInt k
 | .inr x=>hashStr w x
theorem dA:∀ {k:B0}{v:Value},JQ k v=true→(∃ i t,k=Sum.inl i∧v=Value.int i t)∨(∃ x t,k=Sum.inr x∧v=Value.str x t)
 | .inl i,v,h=>by
  obtain⟨t,e⟩:=Value.isInt_shape (k:=i) (v:=v) h;exact .inl ⟨i,t,rfl,e⟩
 | .inr x,v,h=>by
  obtain⟨t,e⟩:=Value.isStrOf_shape (x:=x) (v:=v) h;exact .inr ⟨x,t,rfl,e⟩
theorem K8(a b:Int):decide ((Sum.inl a:B0)=Sum.inl b)=(a==b):=by
 by_cases e:a=b
 ·subst e;simp
 ·have h:¬ (Sum.inl a:B0)=Sum.inl b:=fun q=>e (Sum.inl.inj q)
  rw[decide_eq_false h];exact (beq_eq_false_iff_ne.mpr e).symm
theorem K5(a b:Str):decide ((Sum.inr a:B0)=Sum.inr b)=decide (a=b):=by
 by_cases e:a=b
 ·subst e;simp
 ·have h:¬ (Sum.inr a:B0)=Sum.inr b:=fun q=>e (Sum.inr.inj q)
  rw[decide_eq_false h,decide_eq_false e]
theorem K7(a:Int)(b:Str):decide ((Sum.inl a:B0)=Sum.inr b)=false:=decide_eq_false (fun q=>nomatch q)
theorem K6(a:Str)(b:Int):decide ((Sum.inr a:B0)=Sum.inl b)=false:=decide_eq_false (fun q=>nomatch q)
def DT(prog:Program)(w:World):PySem.KeyKind prog w B0 where
 is:=JQ
 hash:=Os w
 inj:=fun v a b ha hb=>by
  rcases dA ha with ⟨i,t,rfl,rfl⟩ | ⟨x,t,rfl,rfl⟩
  ·rcases dA hb with ⟨j,u,rfl,e⟩ | ⟨y,u,rfl,e⟩
   ·injection e with e1 _;rw[e1]
   ·exact nomatch e
  ·rcases dA hb with ⟨j,u,rfl,e⟩ | ⟨y,u,rfl,e⟩
   ·exact nomatch e
   ·injection e with e1 _;rw[e1]
 byValue:=fun k v h=>by
  rcases dA h with ⟨i,t,rfl,rfl⟩ | ⟨x,t,rfl,rfl⟩<;>rfl
 pyHash:=fun hv h=>by
  rcases dA hv with ⟨i,t,rfl,rfl⟩ | ⟨x,t,rfl,rfl⟩
  ·exact wpAny_pyHash_int h
  ·exact wpAny_pyHash_str h
 eqBool:=fun hu hv h=>by
  rcases dA hu with ⟨i,t,rfl,rfl⟩ | ⟨x,t,rfl,rfl⟩
  ·rcases dA hv with ⟨j,u,rfl,rfl⟩ | ⟨y,u,rfl,rfl⟩
   ·rw[K8] at h;exact wpAny_eqBool_int h
   ·rw[K7] at h;exact SeqAt.EqAt.int_str i t y u _ _ _ _ h
  ·rcases dA hv with ⟨j,u,rfl,rfl⟩ | ⟨y,u,rfl,rfl⟩
   ·rw[K6] at h;exact SeqAt.EqAt.str_int x t j u _ _ _ _ h
   ·rw[K5] at h;exact wpAny_eqBool_str h
 «strs»:=fun k x t v h=>by
  rcases dA h with ⟨i,u,rfl,e⟩ | ⟨y,u,rfl,e⟩
  ·exact nomatch e
  ·injection e with e1 _
   subst e1
   cases v<;>rfl
inductive V where
 | non | bl (b:Bool) | int (i:Int) | str (x:Str) | byt (b:Array UInt8) | flt (b:UInt64) | ref (a:Addr) | ty (n:String)
 deriving DecidableEq
def cG:V→Value→Prop
 | .non,u=>u=Value.none
 | .bl b,u=>u=Value.bool b
 | .int i,u=>∃ t,u=Value.int i t
 | .str x,u=>∃ t,u=Value.str x t
 | .byt b,u=>∃ t,u=Value.bytes b t
 | .flt b,u=>∃ t,u=Value.float b t
 | .ref a,u=>u=Value.ref a
 | .ty n,u=>u=Value.type n
abbrev bo:List V→List Value→Prop:=Paired cG
theorem bo.length{xs:List V}{us:List Value}(r:bo xs us):xs.length=us.length:=Paired.length r
theorem bo.get:∀ {xs:List V}{us:List Value}{i:Nat}{x:V},bo xs us→xs[i]?=some x→∃ u,us[i]?=some u∧cG x u
 | _,_,_,_,.nil,e=>by simp at e
 | _,_,0,_,.cons r _,e=>by simp at e;subst e;exact⟨_,rfl,r⟩
 | _,_,i+1,x,.cons _ t,e=>by
  obtain⟨u,h1,h2⟩:=bo.get (i:=i) (x:=x) t (by simpa using e)
  exact⟨u,by simpa using h1,h2⟩
theorem bo.set{x:V}{u:Value}(r:cG x u):∀ {xs:List V}{us:List Value} (i:Nat),bo xs us→bo (xs.set i x) (us.set i u)
 | _,_,_,.nil=>.nil
 | _,_,0,.cons _ t=>.cons r t
 | _,_,i+1,.cons q t=>.cons q (bo.set r i t)
theorem bo.append:∀ {xs ys:List V}{us ws:List Value},bo xs us→bo ys ws→bo (xs++ys) (us++ws)
 | _,_,_,_,.nil,s=>s
 | _,_,_,_,.cons r t,s=>.cons r (bo.append t s)
theorem bo.take:∀ {xs:List V}{us:List Value} (n:Nat),bo xs us→bo (xs.take n) (us.take n)
 | _,_,0,_=>.nil
 | _,_,_+1,.nil=>.nil
 | _,_,n+1,.cons r t=>.cons r (bo.take n t)
theorem bo.drop:∀ {xs:List V}{us:List Value} (n:Nat),bo xs us→bo (xs.drop n) (us.drop n)
 | _,_,0,r=>r
 | _,_,_+1,.nil=>.nil
 | _,_,n+1,.cons _ t=>bo.drop n t
def xC:Option V→Option Value→Prop
 | some v,some u=>cG v u
 | none,none=>True
 | _,_=>False
def KV{κ:Type}:List (κ×V)→List (κ×Value)→Prop:=Paired fun (p:κ×V) (q:κ×Value)=>p.1=q.1∧cG p.2 q.2
def kV:B0→V
 | .inl i=>.int i
 | .inr x=>.str x
inductive HO where
 | lst (xs:List V)
 | tup (xs:List V)
 | dK (kvs:List (B0×V)) | dT (kvs:List (List B0×V))
 | set (S:Int→Bool) (n:Nat)
 | ins (C dx:Addr) (fs:List (Str×V))
 | own (x:Addr)
 | xd (fs:List (Str×V))
 | met (f x:Addr)
 | rng (lo hi:Int)
 | frz (o:Obj) (u:HO)
 | tbl (ps:Array Value)
 | ext (φ:Heap→Prop)
abbrev Hp:=Addr→Option HO
def upd(H:Hp)(a:Addr)(o:HO):Hp:=fun b=>if b=a then some o else H b
theorem af{H:Hp}{a:Addr}{o:HO}:upd H a o a=some o:=by unfold upd;rw[if_pos rfl]
theorem ao{H:Hp}{a b:Addr}{o:HO}(h:b≠a):upd H a o b=H b:=by unfold upd;rw[if_neg h]
theorem upd_upd:upd (upd H a o) a u=upd H a u:=by
 funext b;unfold upd;split<;>rfl
theorem mT{H:Hp}{a b:Addr}{o u:HO}(h:H a=some o)(h':H b=some u)(d:o≠u):a≠b:=by
 intro e;subst e;rw[h] at h';exact d (Option.some.inj h')
theorem au{H:Hp}{a b:Addr}{o:HO}(h:H a=some o)(h':H b=none):a≠b:=by
 intro e;subst e;rw[h] at h';cases h'
section
variable(P:Program)(w:World)
def gp(H:Hp)(h:Heap)(a:Addr):HO→Prop
 | .lst xs=>xs.length≤sizeLine∧∃ (its:List Value) (n:Nat),bo xs its∧h.get? a=some { cls:=.type "list",data:=.seq its.toArray n }
 | .tup xs=>xs.length≤sizeLine∧∃ its:List Value,bo xs its∧IsTup h a its.toArray
 | .dK kvs=>kvs.length≤sizeLine∧(a==sysModules)=false∧∃ vs,KV kvs vs∧h.DictOf (DT P w) a vs
 | .dT kvs=>kvs.length≤sizeLine∧(a==sysModules)=false∧∃ xs:List (List B0×Addr×Value),
   Paired (fun (p:List B0×V) (q:List B0×Addr×Value)=>p.1=q.1∧H q.2.1=some (.tup (p.1.map kV))∧cG p.2 q.2.2) kvs xs ∧
   ∃ o es ep,h.get? a=some o∧o.ExactDict∧o.data=.dict es ep∧es.toList=xs.map (entryOfKey (tupleKind (DT P w)))∧(xs.map (·.1)).Nodup
 | .set S n=>h.SetOf (intKind P w) a S n
 | .ins C dx fs=>H dx=some (.own a)∧fs.length≤1000∧dx≠a∧h.get? a=some (PySem.W.instObj C dx) ∧
   ∃ mA,h.Ns1 dx mA∧(∀ f,xC (fs.lookup f) (mA f))∧PySem.Within mA (fs.map (·.1))
 | .own _=>∃ o,h.get? a=some o
 | .xd fs=>∃ mA,h.Ns1 a mA∧∀ f,xC (fs.lookup f) (mA f)
 | .rng lo hi=>∃ t u v,h.get? a=some { cls:=.type "range",data:=.fields #[.int lo t,.int hi u,.int 1 v] }
 | .frz o u=>h.get? a=some o∧gp H h a u
 | .tbl ps=>h.get? a=some { cls:=.none,data:=.fields ps }
 | .met f x=>h.get? a=some (PySem.W.methodObj (.ref f) (.ref x))
 | .ext φ=>φ h∧(∃ o,h.get? a=some o)∧∀ h1 h2:Heap,φ h1→(∀ o,h1.get? a=some o→h2.get? a=some o)→φ h2
def qI(H:Hp)(h:Heap):Prop:=∀ a o,H a=some o→gp P w H h a o
end
section
variable{P:Program}{w:World}{H H':Hp}{h h':Heap}{a:Addr}{o:HO}
theorem gp.lt(x:gp P w H h a o):a<h.objs.size:=by
 cases o with
 | lst xs=>obtain⟨_,_,_,_,e⟩:=x;exact Heap.lt_size e
 | tup xs=>obtain⟨_,_,_,p⟩:=x;exact p.lt
 | dK kvs=>obtain⟨_,_,_,_,o,_,_,e,_⟩:=x;exact Heap.lt_size e
 | dT kvs=>obtain⟨_,_,_,_,o,_,_,e,_⟩:=x;exact Heap.lt_size e
 | set S n=>obtain⟨o,_,_,_,e,_⟩:=x;exact Heap.lt_size e
 | ins C dx fs=>obtain⟨_,_,_,e,_⟩:=x;exact Heap.lt_size e
 | own y=>obtain⟨_,e⟩:=x;exact Heap.lt_size e
 | xd fs=>obtain⟨_,⟨_,_,_,e,_⟩,_⟩:=x;exact Heap.lt_size e
 | rng lo hi=>obtain⟨_,_,_,e⟩:=x;exact Heap.lt_size e
 | frz ob u=>obtain⟨e,_⟩:=x;exact Heap.lt_size e
 | tbl ps=>exact Heap.lt_size (show h.get? a=some _ from x)
 | met f y=>exact Heap.lt_size (show h.get? a=some _ from x)
 | ext φ=>obtain⟨_,⟨_,e⟩,_⟩:=x;exact Heap.lt_size e
theorem Paired.mapP{α β:Type}{F G:α→β→Prop}:∀ {l₁:List α}{l₂:List β},Paired F l₁ l₂→(∀ a b,F a b→G a b)→Paired G l₁ l₂
 | _,_,.nil,_=>.nil
 | _,_,.cons r t,f=>.cons (f _ _ r) (Paired.mapP t f)
theorem gp.stay(x:gp P w H h a o)(k:∀ b u,(b=a∨H b=some (.own a))→h.get? b=some u→h'.get? b=some u)
  (ho:∀ b,H b=some (.own a)→H' b=some (.own a)) (ht:∀ b xs,H b=some (.tup xs)→H' b=some (.tup xs)):gp P w H' h' a o:=by
 induction o with
 | lst xs=>obtain⟨z,its,n,r,e⟩:=x;exact⟨z,its,n,r,k _ _ (.inl rfl) e⟩
 | tup xs=>obtain⟨z,its,r,ob,e,c⟩:=x;exact⟨z,its,r,ob,k _ _ (.inl rfl) e,c⟩
 | dK kvs=>obtain⟨z,y,vs,r,ob,es,ep,e,c⟩:=x;exact⟨z,y,vs,r,ob,es,ep,k _ _ (.inl rfl) e,c⟩
 | dT kvs =>
  obtain⟨z,y,xs,r,ob,es,ep,e,c⟩:=x
  exact⟨z,y,xs,Paired.mapP r fun p q z=>⟨z.1,ht _ _ z.2.1,z.2.2⟩,ob,es,ep,k _ _ (.inl rfl) e,c⟩
 | set S n=>obtain⟨ob,es,ep,t,e,c⟩:=x;exact⟨ob,es,ep,t,k _ _ (.inl rfl) e,c⟩
 | ins C dx fs =>
  obtain⟨d,z,ne,e,mA,⟨od,es,ep,e2,c⟩,r⟩:=x
  exact⟨ho _ d,z,ne,k _ _ (.inl rfl) e,mA,⟨od,es,ep,k _ _ (.inr d) e2,c⟩,r⟩
 | own y=>obtain⟨ob,e⟩:=x;exact⟨ob,k _ _ (.inl rfl) e⟩
 | xd fs=>obtain⟨mA,⟨od,es,ep,e,c⟩,r⟩:=x;exact⟨mA,⟨od,es,ep,k _ _ (.inl rfl) e,c⟩,r⟩
 | rng lo hi=>obtain⟨t,u,v,e⟩:=x;exact⟨t,u,v,k _ _ (.inl rfl) e⟩
 | frz ob u ih=>obtain⟨e,q⟩:=x;exact⟨k _ _ (.inl rfl) e,ih q⟩
 | tbl ps =>
  have e:h.get? a=some { cls:=.none,data:=.fields ps }:=x;show h'.get? a=some { cls:=.none,data:=.fields ps };exact k a _ (.inl rfl) e
 | met f y =>
  have e:h.get? a=some (PySem.W.methodObj (.ref f) (.ref y)):=x;show h'.get? a=some (PySem.W.methodObj (.ref f) (.ref y));exact k a _ (.inl rfl) e
 | ext φ=>obtain⟨p,⟨o,e⟩,st⟩:=x;exact⟨st _ _ p fun o q=>k _ _ (.inl rfl) q,⟨o,k _ _ (.inl rfl) e⟩,st⟩
theorem qI.lt(x:qI P w H h)(e:H a=some o):a<h.objs.size:=(x a o e).lt
theorem qI.fresh(x:qI P w H h)(e:h.objs.size≤a):H a=none:=by
 cases q:H a with
 | none=>rfl
 | some u=>exact absurd (Nat.lt_of_lt_of_le (x.lt q) e) (Nat.lt_irrefl _)
theorem qI.kept(x:qI P w H h)(k:∀ b u,h.get? b=some u→h'.get? b=some u):qI P w H h':=fun a o e =>
 (x a o e).stay (fun b u _ q=>k b u q) (fun _ q=>q) fun _ _ q=>q
theorem qI.laid(x:qI P w H h)(k:∀ b u,h.get? b=some u→h'.get? b=some u)(hp:h.objs.size≤a)(new:gp P w (upd H a o) h' a o):qI P w (upd H a o) h':=fun b u e=>by
 have hn:=x.fresh hp
 by_cases hb:b=a
 ·subst hb;rw[af] at e;cases e;exact new
 ·rw[ao hb] at e;exact (x b u e).stay (fun c v _ q=>k c v q) (fun c q=>by rw[ao (au q hn)];exact q) fun c xs q=>by rw[ao (au q hn)];exact q
end
def Rd(H:Hp)(a:Addr)(u:HO):Prop:=H a=some u∨∃ o,H a=some (.frz o u)
theorem Rd.ok{P:Program}{w:World}{H:Hp}{h:Heap}{a:Addr}{u:HO}(r:Rd H a u)(x:qI P w H h):gp P w H h a u:=by
 rcases r with r | ⟨o,r⟩
 ·exact x a u r
 ·obtain⟨_,q⟩:=x a _ r;exact q
def NY:Option HO→Prop
 | some (.lst _)=>True
 | some (.dK _)=>True
 | some (.dT _)=>True
 | some (.set _ _)=>True
 | some (.ins _ _ _)=>True
 | some (.ext _)=>True
 | _=>False
section
variable{P:Program}{w:World}{H:Hp}{h h':Heap}{x e:Addr}{o':HO}
theorem qI.write(ok:qI P w H h)(mu:NY (H x))(he:e=x∨H e=some (.own x))(k:∀ b u,b≠e→h.get? b=some u→h'.get? b=some u)(heo:∃ u,h'.get? e=some u)
  (new:gp P w (upd H x o') h' x o'):qI P w (upd H x o') h':=fun b u q=>by
 have nown:∀ c y,H c=some (.own y)→c≠x:=fun c y r z=>by subst z;rw[r] at mu;exact mu
 have ntup:∀ c xs,H c=some (.tup xs)→c≠x:=fun c xs r z=>by subst z;rw[r] at mu;exact mu
 by_cases hb:b=x
 ·subst hb;rw[af] at q;cases q;exact new
 ·rw[ao hb] at q
  by_cases hbe:b=e
  ·have q':H b=some (.own x):=by
    rcases he with z | z
    ·exact absurd (hbe.trans z) hb
    ·rw[hbe];exact z
   rw[q] at q';cases q';obtain⟨v,hv⟩:=heo
   exact⟨v,by rw[hbe];exact hv⟩
  ·refine (ok b u q).stay (fun c v hc r=>k c v ?_ r) (fun c r=>by rw[ao (nown c b r)];exact r) fun c xs r=>by rw[ao (ntup c xs r)];exact r
   rcases hc with rfl | hc
   ·exact hbe
   ·rintro rfl
    rcases he with z | z
    ·exact nown c b hc z
    ·rw[hc] at z;cases z;exact hb rfl
end
structure Un(fs ex:List Addr)(H H':Hp)(h h':Heap):Prop where
 keep:∀ b o,h.get? b=some o→H b=none→b∉fs→b∉ex→h'.get? b=some o
 slot:∀ b o,h.get? b=some o→H b=none→b∈fs→b∉ex→∃ sl,h'.get? b=some { o with slots:=sl }
 free:∀ b o,h.get? b=some o→H b=none→b∉ex→H' b=none
 there:∀ b o,h.get? b=some o→b∉ex→∃ o',h'.get? b=some o'
 tups:∀ b xs,H b=some (.tup xs)→H' b=some (.tup xs)
 frzs:∀ b o u,H b=some (.frz o u)→H' b=some (.frz o u)
 tbls:∀ b ps,H b=some (.tbl ps)→∃ more,H' b=some (.tbl (ps++more))
section
variable{fs fs' ex ex':List Addr}{H H1 H2:Hp}{h h1 h2 h':Heap}{a x e:Addr}{o:HO}
theorem Un.any(u:Un fs ex H H1 h h1){b:Addr}{ob:Obj}(q:h.get? b=some ob)(n:H b=none)(hx:b∉ex):∃ sl,h1.get? b=some { ob with slots:=sl }:=by
 by_cases hb:b∈fs
 ·exact u.slot b ob q n hb hx
 ·exact⟨ob.slots,u.keep b ob q n hb hx⟩
theorem Un.kept(k:∀ b u,h.get? b=some u→h'.get? b=some u):Un fs ex H H h h' :=
 ⟨fun b ob q _ _ _=>k b ob q,fun b ob q _ _ _=>⟨ob.slots,k b ob q⟩,fun _ _ _ n _=>n,fun b ob q _=>⟨ob,k b ob q⟩,fun _ _ q=>q,fun _ _ _ q=>q,fun _ ps q=>⟨#[],by rw[q];simp⟩⟩
theorem Un.refl:Un fs ex H H h h:=Un.kept fun _ _ q=>q
theorem Un.laid(k:∀ b u,h.get? b=some u→h'.get? b=some u)(hp:h.objs.size≤a)(hn:H a=none):Un fs ex H (upd H a o) h h' where
 keep:=fun b u q _ _ _=>k b u q
 slot:=fun b u q _ _ _=>⟨u.slots,k b u q⟩
 free:=fun b u q n _=>by rw[ao (Nat.ne_of_lt (Nat.lt_of_lt_of_le (Heap.lt_size q) hp))];exact n
 there:=fun b u q _=>⟨u,k b u q⟩
 tups:=fun b xs q=>by rw[ao (au q hn)];exact q
 frzs:=fun b u xs q=>by rw[ao (au q hn)];exact q
 tbls:=fun b ps q=>⟨#[],by rw[ao (au q hn),q];simp⟩
theorem Un.write(mu:NY (H x))(he:e=x∨H e=some (.own x))(k:∀ b u,b≠e→h.get? b=some u→h'.get? b=some u)(heo:∃ u,h'.get? e=some u):Un fs ex H (upd H x o) h h':=by
 have hx:∀ b,H b=none→b≠x:=fun b n z=>by subst z;rw[n] at mu;exact mu
 have hb:∀ b,H b=none→b≠e:=fun b n z=>by
  subst z;rcases he with r | r
  ·exact hx b n r
  ·rw[n] at r;cases r
 have hm:∀ b u,H b=some u→¬ NY (some u)→b≠x:=fun b u q nm z=>by subst z;rw[q] at mu;exact nm mu
 refine⟨fun b u q n _ _=>k b u (hb b n) q,fun b u q n _ _=>⟨u.slots,k b u (hb b n) q⟩,fun b u q n _=>by rw[ao (hx b n)];exact n,fun b u q _=>?_,
  fun b xs q=>by rw[ao (hm b _ q fun z=>z)];exact q,fun b u xs q=>by rw[ao (hm b _ q fun z=>z)];exact q,fun b ps q=>⟨#[],by rw[ao (hm b _ q fun z=>z),q];simp⟩⟩
 by_cases hbe:b=e
 ·subst hbe;exact heo
 ·exact⟨u,k b u hbe q⟩
end
def NH(h:Heap)(H:Hp):List Addr:=(List.range h.objs.size).filter fun a=>(H a).isSome
def zk(h:Heap)(H:Hp):Heap:=PySem.W.hideAll h (NH h H)
theorem E4(h:Heap)(H:Hp):(zk h H).objs.size=h.objs.size:=PySem.W.hideAll_size _ _
theorem GS(e:h.get? b=some o)(n:H b=none):(zk h H).get? b=some o :=
 PySem.W.hideAll_get _ e fun hm=>by
  have q:(H b).isSome=true:=(List.mem_filter.mp hm).2;rw[n] at q;simp at q
theorem Iu(e:(zk h H).get? b=some o):h.get? b=some o∧H b=none:=by
 have e':h.get? b=some o:=PySem.W.of_hideAll (NH h H) e;refine⟨e',?_⟩
 cases q:H b with
 | none=>rfl
 | some x =>
  have hm:b∈NH h H:=List.mem_filter.mpr ⟨List.mem_range.mpr (Heap.lt_size e'),by simp[q]⟩
  have z:(zk h H).get? b=none:=PySem.W.hideAll_none (NH h H) hm;rw[z] at e;cases e
structure Mod(K:PySem.W.Frag)(mg:Str→Option Value)(base:Heap):Prop where
 kin:K.In base
 glob:base.Ns mainGlobals mg
 blt:∃ mb,base.Ns builtinsNs mb∧∀ x:Str,x≠"__name__"→mb x=bootBuiltins x
 nolimit:base.NoLimit
structure Cx where
 prog:Program
 w:World
 K:PySem.W.Frag
 mg:Str→Option Value
 base:Heap
 A:Around
 N:List Str
 s_0:Shared
 H_0:Hp
 env:Env
 outer:List Env
 stack:List Env
 ex:List Addr
 fn:Str→Bool
 calm:Bool
 pn:List (Addr×Obj)
 xe:Value→Shared→Prop
def GY(l:List Env):List Addr:=l.filterMap (·.frame)
abbrev Cx.fs(X:Cx):List Addr:=GY X.outer
def LJ(sc:Scope)(x:Str):Prop:=sc.names.lookup x=some .local∨sc.names.lookup x=some .cell∨sc.names.lookup x=some .free
def Loc(sc:Scope)(x:Str):Prop:=sc.names.lookup x=some .local∨sc.names.lookup x=some .cell
def OE(env:Env)(h:Heap)(m:Str→Option Value)(x:Str)(u:Value):Prop :=
 (env.kindOf x=some .local∧m x=some u)∨((env.kindOf x=some .cell∨env.kindOf x=some .free)∧∃ c,env.cells.lookup x=some c∧h.IsCell c (some u))
structure Cx.Ok(X:Cx):Prop where
 mod:Mod X.K X.mg X.base
 kind:X.env.scope.kind=.function
 glob:X.env.globals=mainGlobals
 blt:X.env.builtins=builtinsNs
 above:X.s_0.heap.objs.size≤X.env.locals
 inj:∀ x y c,X.env.cells.lookup x=some c→X.env.cells.lookup y=some c→x=y
 has:∀ x,(X.env.kindOf x=some .cell∨X.env.kindOf x=some .free)→∃ c,X.env.cells.lookup x=some c
 cab:∀ x c,X.fn x=true→X.env.cells.lookup x=some c→X.s_0.heap.objs.size≤c
 hd:X.calm=true→X.A.handled=none
 frames:X.A.frames=some X.stack
 stk:X.stack=X.outer∨(X.stack=X.env::X.outer∧X.env.frame=some X.env.locals)
 exf:∀ b∈X.ex,b≠X.env.locals∧∀ x c,X.env.cells.lookup x=some c→c≠b
 bs:∀ b o,X.base.get? b=some o→X.s_0.heap.get? b=some o∧X.H_0 b=none
 bsz:X.base.objs.size≤X.s_0.heap.objs.size
 noex:∀ b o,X.base.get? b=some o→b∉X.ex
 exfs:∀ b∈X.ex,b∉X.fs
 funs:X.s_0.heap.FunFrames X.base X.outer
 frf:∀ b∈X.fs,X.H_0 b=none
structure Inv(X:Cx)(pins:List (Addr×Obj))(σ:List (Option V))(H:Hp)(s:Shared):Prop where
 ok:X.Ok
 os:s.os=X.s_0.os
 bare:AllBare s.gens
 base:Un X.fs X.ex X.H_0 H X.s_0.heap s.heap
 loc:∃ m,s.heap.Ns X.env.locals m∧∀ (i:Nat) (x:Str) (v:V),X.N[i]?=some x→σ[i]?=some (some v)→LJ X.env.scope x→∃ u,cG v u∧OE X.env s.heap m x u
 cell:∀ x c,X.env.cells.lookup x=some c→∃ v,s.heap.IsCell c v
 free:H X.env.locals=none
 freeC:∀ x c,X.env.cells.lookup x=some c→H c=none
 pin:∀ p∈X.pn++pins,s.heap.get? p.1=some p.2∧H p.1=none∧p.1≠X.env.locals∧p.1∉X.fs∧∀ v,p.2.data≠.cell v
 hok:qI X.prog X.w H s.heap
 len:σ.length=X.N.length
section
variable{X:Cx}{pins:List (Addr×Obj)}{σ:List (Option V)}{H H':Hp}{s:Shared}{h':Heap}
theorem Cx.Ok.nofr(ok:X.Ok)(e:X.base.get? b=some o):b∉X.fs:=fun hb=>by
 have:=(ok.funs.mem hb).1
 rw[e] at this;cases this
theorem Inv.bs(I:Inv X pins σ H s):∀ b o,X.base.get? b=some o→s.heap.get? b=some o∧H b=none:=fun b o e =>
 ⟨I.base.keep b o (I.ok.bs b o e).1 (I.ok.bs b o e).2 (I.ok.nofr e) (I.ok.noex b o e),I.base.free b o (I.ok.bs b o e).1 (I.ok.bs b o e).2 (I.ok.noex b o e)⟩
theorem Inv.bk(I:Inv X pins σ H s):∀ b o,X.base.get? b=some o→s.heap.get? b=some o:=fun b o e=>(I.bs b o e).1
theorem Inv.mod(I:Inv X pins σ H s):Mod X.K X.mg X.base:=I.ok.mod
theorem Inv.kIn(I:Inv X pins σ H s):X.K.In s.heap:=I.ok.mod.kin.keeps I.bk
theorem Inv.lt(I:Inv X pins σ H s):X.env.locals<s.heap.objs.size:=let ⟨_,hn,_⟩:=I.loc;hn.lt
theorem Inv.sz(I:Inv X pins σ H s):X.s_0.heap.objs.size≤s.heap.objs.size:=Nat.le_trans I.ok.above (Nat.le_of_lt I.lt)
theorem Inv.nofs(I:Inv X pins σ H s)(h:s.heap.objs.size≤a):a∉X.fs:=fun hb=>by
 obtain⟨_,o,ho,_⟩:=I.ok.funs.mem hb;exact absurd (Nat.lt_of_lt_of_le (Heap.lt_size ho) (Nat.le_trans I.sz h)) (Nat.lt_irrefl _)
theorem Inv.cne(I:Inv X pins σ H s):∀ x c,X.env.cells.lookup x=some c→c≠X.env.locals:=fun x c e z=>by
 obtain⟨v,o,ho,hd⟩:=I.cell x c e;obtain⟨m,⟨o',es,ep,ho',hd',_⟩,_⟩:=I.loc;rw[z,ho'] at ho;cases ho;rw[hd'] at hd;cases hd
theorem Inv.funs(I:Inv X pins σ H s):s.heap.FunFrames X.base X.outer:=by
 have all:∀ (l:List Env),(∀ b∈GY l,b∈X.fs)→X.s_0.heap.FunFrames X.base l→s.heap.FunFrames X.base l:=by
  intro l
  induction l with
  | nil=>intro _ _;trivial
  | cons env r ih =>
   intro hs hl;obtain⟨hk,⟨L,o,hf,hn,ho,hd⟩,hr⟩:=hl;have hL:L∈X.fs:=hs L (by unfold GY;rw[List.filterMap_cons,hf];exact List.mem_cons_self)
   obtain⟨sl,e⟩:=I.base.slot L o ho (I.ok.frf L hL) hL fun z=>I.ok.exfs L z hL
   exact⟨hk,⟨L,_,hf,hn,e,hd⟩,ih (fun b hb=>hs b (by unfold GY;rw[List.filterMap_cons,hf];exact List.mem_cons_of_mem _ hb)) hr⟩
 exact all X.outer (fun _ hb=>hb) I.ok.funs
theorem Inv.stack(I:Inv X pins σ H s):s.heap.FunFrames X.base X.stack:=by
 rcases I.ok.stk with e | ⟨e,hf⟩
 ·rw[e];exact I.funs
 ·rw[e];obtain⟨m,hn,_⟩:=I.loc;refine .cons (by rw[I.ok.kind];decide) hf hn ?_ I.funs
  exact Heap.get?_none_of_le (Nat.le_trans I.ok.bsz I.ok.above)
theorem Inv.stkSub(I:Inv X pins σ H s):∀ b∈GY X.stack,b∈X.env.locals::X.fs:=fun b hb=>by
 rcases I.ok.stk with e | ⟨e,hf⟩
 ·rw[e] at hb;exact List.mem_cons_of_mem _ hb
 ·rw[e] at hb;unfold GY at hb;rw[List.filterMap_cons,hf] at hb;exact hb
theorem Inv.stkFree(I:Inv X pins σ H s):∀ b∈GY X.stack,H b=none:=fun b hb=>by
 rcases List.mem_cons.mp (I.stkSub b hb) with e | hb
 ·rw[e];exact I.free
 ·obtain⟨_,o,ho,_⟩:=I.ok.funs.mem hb;exact I.base.free b o ho (I.ok.frf b hb) fun z=>I.ok.exfs b z hb
theorem Inv.step{g':Array GenState}{t':Nat}{d':Drawn}{ch:List Addr}(I:Inv X pins σ H s)
  (hch:∀ b∈ch,(b∈X.ex∨X.s_0.heap.objs.size≤b)∧b≠X.env.locals∧(∀ x c,X.env.cells.lookup x=some c→c≠b)∧∀ p∈X.pn++pins,p.1≠b)
  (keep:∀ b o,b≠X.env.locals→b∉X.fs→b∉ch→s.heap.get? b=some o→H b=none→h'.get? b=some o)
  (slot:∀ b o,b≠X.env.locals→b∈X.fs→b∉ch→s.heap.get? b=some o→H b=none→∃ sl,h'.get? b=some { o with slots:=sl }) (free:∀ b o,b∉ch→s.heap.get? b=some o→H b=none→H' b=none)
  (there:∀ b o,b∉ch→s.heap.get? b=some o→∃ o',h'.get? b=some o')
  (tups:∀ b xs,H b=some (.tup xs)→H' b=some (.tup xs)) (frzs:∀ b o u,H b=some (.frz o u)→H' b=some (.frz o u)) (tbls:∀ b ps,H b=some (.tbl ps)→∃ more,H' b=some (.tbl (ps++more)))
  (ns:∀ m,s.heap.Ns X.env.locals m→h'.Ns X.env.locals m) (hok:qI X.prog X.w H' h') (hg:AllBare g') :
  Inv X pins σ H' { s with heap:=h',gens:=g',drawn:=d',toks:=t' }:=by
 have neL:∀ b o,X.s_0.heap.get? b=some o→b≠X.env.locals:=fun b o e=>Nat.ne_of_lt (Nat.lt_of_lt_of_le (Heap.lt_size e) I.ok.above)
 have neC:∀ b o,X.s_0.heap.get? b=some o→b∉X.ex→b∉ch:=fun b o e hx hb=>by
  rcases (hch b hb).1 with z | z
  ·exact hx z
  ·exact absurd (Nat.lt_of_lt_of_le (Heap.lt_size e) z) (Nat.lt_irrefl _)
 have cellK:∀ x c,X.env.cells.lookup x=some c→∀ v,s.heap.IsCell c v→h'.IsCell c v:=fun x c e v ⟨o,ho,hd⟩=>by
  have nch:c∉ch:=fun z=>(hch c z).2.2.1 x c e rfl
  by_cases hc:c∈X.fs
  ·obtain⟨sl,q⟩:=slot c o (I.cne x c e) hc nch ho (I.freeC x c e)
   exact⟨_,q,hd⟩
  ·exact⟨o,keep c o (I.cne x c e) hc nch ho (I.freeC x c e),hd⟩
 refine⟨I.ok,I.os,hg,⟨fun b o e n hb hx=>?_,fun b o e n hb hx=>?_,fun b o e n hx=>?_,fun b o e hx=>?_,fun b xs e=>tups b xs (I.base.tups b xs e),fun b o xs e=>frzs b o xs (I.base.frzs b o xs e),fun b ps e=>?_⟩,?_,fun x c e=>?_,?_,fun x c e=>?_,fun p hp=>?_,hok,I.len⟩
 ·exact keep b o (neL b o e) hb (neC b o e hx) (I.base.keep b o e n hb hx) (I.base.free b o e n hx)
 ·obtain⟨sl,e1⟩:=I.base.slot b o e n hb hx;obtain⟨sl',e2⟩:=slot b _ (neL b o e) hb (neC b o e hx) e1 (I.base.free b o e n hx)
  exact⟨sl',e2⟩
 ·obtain⟨o',e1⟩:=I.base.there b o e hx;exact free b o' (neC b o e hx) e1 (I.base.free b o e n hx)
 ·obtain⟨o',e1⟩:=I.base.there b o e hx;exact there b o' (neC b o e hx) e1
 ·obtain⟨m1,e1⟩:=I.base.tbls b ps e;obtain⟨m2,e2⟩:=tbls b _ e1
  exact⟨m1++m2,by rw[e2,Array.append_assoc]⟩
 ·obtain⟨m,hn,hl⟩:=I.loc;refine⟨m,ns m hn,fun i x v e1 e2 e3=>?_⟩
  obtain⟨u,r,l⟩:=hl i x v e1 e2 e3;refine⟨u,r,?_⟩;rcases l with l | ⟨k,c,e,z⟩
  ·exact .inl l
  ·exact .inr ⟨k,c,e,cellK x c e _ z⟩
 ·obtain⟨v,z⟩:=I.cell x c e
  exact⟨v,cellK x c e v z⟩
 ·obtain⟨m,⟨o,_,_,ho,_⟩,_⟩:=I.loc;exact free _ o (fun z=>(hch _ z).2.1 rfl) ho I.free
 ·obtain⟨v,o,ho,hd⟩:=I.cell x c e;exact free c o (fun z=>(hch c z).2.2.1 x c e rfl) ho (I.freeC x c e)
 ·obtain⟨e,n,ne,nf,d⟩:=I.pin p hp;have nch:p.1∉ch:=fun z=>(hch p.1 z).2.2.2 p hp rfl
  exact⟨keep p.1 p.2 ne nf nch e n,free p.1 p.2 nch e n,ne,nf,d⟩
theorem Inv.un{t':Nat}(I:Inv X pins σ H s)(u:Un X.fs [] H H' s.heap h')(hok:qI X.prog X.w H' h'):Inv X pins σ H' { s with heap:=h',toks:=t' }:=by
 obtain⟨m,⟨o,es,ep,ho,r⟩,_⟩:=id I.loc;obtain⟨sl,hL⟩:=u.any ho I.free (by simp)
 exact I.step (g':=s.gens) (d':=s.drawn) (ch:=[]) (fun _ z=>nomatch z) (fun b o _ hb _ e n=>u.keep b o e n hb (by simp)) (fun b o _ hb _ e n=>u.slot b o e n hb (by simp)) (fun b o _ e n=>u.free b o e n (by simp)) (fun b o _ e=>u.there b o e (by simp)) u.tups u.frzs u.tbls (fun m' hm=>by
  obtain⟨o',es',ep',ho',r'⟩:=hm;rw[ho] at ho';cases ho'
  exact⟨_,es',ep',hL,r'⟩) hok I.bare
theorem Inv.call{t':Nat}{d':Drawn}(I:Inv X pins σ H s)(u:Un (GY X.stack) ch H H' s.heap h')(hok:qI X.prog X.w H' h')(hg:AllBare g')
  (hch:∀ b∈ch,(b∈X.ex∨X.s_0.heap.objs.size≤b)∧b≠X.env.locals∧(∀ x c,X.env.cells.lookup x=some c→c≠b)∧∀ p∈X.pn++pins,p.1≠b) :
  Inv X pins σ H' { s with heap:=h',gens:=g',drawn:=d',toks:=t' }:=by
 obtain⟨m,⟨o,es,ep,ho,r⟩,_⟩:=id I.loc;obtain⟨sl,hL⟩:=u.any ho I.free fun z=>(hch _ z).2.1 rfl
 exact I.step (ch:=ch) hch (fun b o hL hb hc e n=>u.keep b o e n (fun z=>(List.mem_cons.mp (I.stkSub b z)).elim hL hb) hc) (fun b o _ _ hc e n=>u.any e n hc) (fun b o hc e n=>u.free b o e n hc) (fun b o hc e=>u.there b o e hc) u.tups u.frzs u.tbls (fun m' hm=>by
  obtain⟨o',es',ep',ho',r'⟩:=hm;rw[ho] at ho';cases ho'
  exact⟨_,es',ep',hL,r'⟩) hok hg
theorem Inv.turned{t':Nat}(I:Inv X pins σ H s)(k:∀ b o,b≠it→s.heap.get? b=some o→h'.get? b=some o)(hn:H it=none)(hL:it≠X.env.locals)
  (h1:it∈X.ex∨X.s_0.heap.objs.size≤it) (h2:∀ x c,X.env.cells.lookup x=some c→c≠it) (h3:∀ p∈X.pn++pins,p.1≠it):Inv X pins σ H { s with heap:=h',toks:=t' }:=by
 have nit:∀ b u,H b=some u→b≠it:=fun b u e z=>by rw[z,hn] at e;cases e
 refine I.step (g':=s.gens) (d':=s.drawn) (ch:=[it]) (fun b hb=>?_) (fun b o _ _ hc e _=>k b o (fun z=>hc (by simp[z])) e) (fun b o _ _ hc e _=>⟨o.slots,k b o (fun z=>hc (by simp[z])) e⟩) (fun _ _ _ _ n=>n)
  (fun b o hc e=>⟨o,k b o (fun z=>hc (by simp[z])) e⟩) (fun _ _ e=>e) (fun _ _ _ e=>e) (fun b ps e=>⟨#[],by rw[e];simp⟩) (fun m hm=>?_) (fun b u e=>?_) I.bare
 ·have e:b=it:=by simpa using hb
  subst e
  exact⟨h1,hL,h2,h3⟩
 ·obtain⟨o,es,ep,ho,r⟩:=hm
  exact⟨o,es,ep,k _ o (Ne.symm hL) ho,r⟩
 ·refine (I.hok b u e).stay (fun c v hc q=>k c v ?_ q) (fun _ q=>q) fun _ _ q=>q
  rcases hc with z | z
  ·rw[z];exact nit b u e
  ·exact nit c _ z
theorem Inv.tok(I:Inv X pins σ H s)(t:Nat):Inv X pins σ H { s with toks:=t }:=I.un (h':=s.heap) (t':=t) Un.refl I.hok
theorem Inv.kept{t':Nat}(I:Inv X pins σ H s)(k:∀ b u,s.heap.get? b=some u→h'.get? b=some u):Inv X pins σ H { s with heap:=h',toks:=t' }:=I.un (Un.kept k) (I.hok.kept k)
theorem Inv.laid{a:Addr}{o:HO}{t':Nat}(I:Inv X pins σ H s)(k:∀ b u,s.heap.get? b=some u→h'.get? b=some u)(hp:s.heap.objs.size≤a)(new:gp X.prog X.w (upd H a o) h' a o) :
  Inv X pins σ (upd H a o) { s with heap:=h',toks:=t' }:=I.un (Un.laid k hp (I.hok.fresh hp)) (I.hok.laid k hp new)
theorem Inv.write{x e:Addr}{o:HO}{t':Nat}(I:Inv X pins σ H s)(mu:NY (H x))(he:e=x∨H e=some (.own x))(k:∀ b u,b≠e→s.heap.get? b=some u→h'.get? b=some u)(heo:∃ u,h'.get? e=some u)
  (new:gp X.prog X.w (upd H x o) h' x o):Inv X pins σ (upd H x o) { s with heap:=h',toks:=t' }:=I.un (Un.write mu he k heo) (I.hok.write mu he k heo new)
theorem Inv.weak(I:Inv X pins σ H s)(hl:σ'.length=σ.length)(w:∀ (i:Nat) v,σ'[i]?=some (some v)→σ[i]?=some (some v)):Inv X pins σ' H s :=
 ⟨I.ok,I.os,I.bare,I.base,let ⟨m,hn,hl'⟩:=I.loc;⟨m,hn,fun i x v e1 e2 e3=>hl' i x v e1 (w i v e2) e3⟩,I.cell,I.free,I.freeC,I.pin,I.hok,hl.trans I.len⟩
theorem Inv.pins_of(I:Inv X pins σ H s)(h:∀ p∈pins',s.heap.get? p.1=some p.2∧H p.1=none∧p.1≠X.env.locals∧p.1∉X.fs∧∀ v,p.2.data≠.cell v):Inv X pins' σ H s :=
 ⟨I.ok,I.os,I.bare,I.base,I.loc,I.cell,I.free,I.freeC,fun p hp=>(List.mem_append.mp hp).elim (fun z=>I.pin p (List.mem_append_left _ z)) (h p),I.hok,I.len⟩
theorem vt{N:List Str}(hN:N.Nodup){i j:Nat}{x:Str}(a:N[i]?=some x)(b:N[j]?=some x):i=j:=by
 obtain⟨h1,e1⟩:=List.getElem?_eq_some_iff.mp a;obtain⟨h2,e2⟩:=List.getElem?_eq_some_iff.mp b;exact (List.getElem_inj hN).mp (e1.trans e2.symm)
theorem xJ{M:Model}{A:Around}{E:Value→Shared→Prop}{i:Nat}{x:Str}{v:V}{u:Value}{Q:Unit→Shared→Prop}(I:Inv X pins σ H s)(hN:X.N.Nodup)(hi:X.N[i]?=some x)(hx:Loc X.env.scope x)(r:cG v u)
  (h:∀ s',Inv X pins (σ.set i (some v)) H s'→(∃ a,Heap.SameBut a s.heap s'.heap∧(a=X.env.locals∨X.env.cells.lookup x=some a))→Q () s') (hf:X.fn x=true∨X.env.scope.names.lookup x=some .local:=by first | exact .inl rfl | exact .inr rfl | assumption):wpAny M A (storeName X.env x u) Q E s:=by
 obtain⟨m,hn,hl⟩:=id I.loc;have hcls:(X.env.scope.kind==.class||(X.env.scope.kind==.module&&X.env.locals != X.env.globals))=false:=by rw[I.ok.kind];rfl
 have hiσ:i<σ.length:=by rw[I.len];exact (List.getElem?_eq_some_iff.mp hi).1
 have cne:=I.cne;have tracked:∀ {a:Addr}{h':Heap},(∃ o,s.heap.get? a=some o∧H a=none)→Heap.SameBut a s.heap h'→qI X.prog X.w H h':=fun {a h'} ha hs b ob e=>by
  obtain⟨_,_,hfree⟩:=ha;refine (I.hok b ob e).stay (fun c w' hc q=>(hs.2 c ?_).trans q) (fun _ q=>q) fun _ _ q=>q
  rintro rfl
  rcases hc with rfl | hc
  ·rw[hfree] at e;cases e
  ·rw[hfree] at hc;cases hc
 rcases hx with hk | hk
 ·refine wpAny_storeName_local hk hn (fun h' hn' hs=>?_) hcls
  obtain⟨oL,_,_,hoL,_⟩:=id hn;refine h _ ⟨I.ok,I.os,I.bare,⟨fun b o e n hb hx=>?_,fun b o e n hb hx=>?_,I.base.free,fun b o e hx=>?_,I.base.tups,I.base.frzs,I.base.tbls⟩,⟨_,hn',fun j y v' e1 e2 e3=>?_⟩,fun y c e=>?_,I.free,I.freeC,fun p hp=>?_,tracked ⟨oL,hoL,I.free⟩ hs,by simpa using I.len⟩ ⟨_,hs,.inl rfl⟩
  ·exact (hs.2 b (Nat.ne_of_lt (Nat.lt_of_lt_of_le (Heap.lt_size e) I.ok.above))).trans (I.base.keep b o e n hb hx)
  ·obtain⟨sl,e1⟩:=I.base.slot b o e n hb hx
   exact⟨sl,(hs.2 b (Nat.ne_of_lt (Nat.lt_of_lt_of_le (Heap.lt_size e) I.ok.above))).trans e1⟩
  ·obtain⟨o',e1⟩:=I.base.there b o e hx
   exact⟨o',(hs.2 b (Nat.ne_of_lt (Nat.lt_of_lt_of_le (Heap.lt_size e) I.ok.above))).trans e1⟩
  ·by_cases hj:j=i
   ·subst hj;rw[hi] at e1;cases e1;rw[List.getElem?_set_self hiσ] at e2;cases e2
    exact⟨u,r,.inl ⟨hk,by simp⟩⟩
   ·rw[List.getElem?_set_ne (Ne.symm hj)] at e2;obtain⟨u',r',q⟩:=hl j y v' e1 e2 e3;refine⟨u',r',?_⟩;rcases q with ⟨k,e⟩ | ⟨k,c,e,z⟩
    ·refine .inl ⟨k,?_⟩
     have:y≠x:=fun e=>hj (vt hN e1 (e▸hi))
     simp[this,e]
    ·exact .inr ⟨k,c,e,z.sameBut hs (cne y c e)⟩
  ·obtain⟨w',z⟩:=I.cell y c e
   exact⟨w',z.sameBut hs (cne y c e)⟩
  ·obtain⟨e,n,ne,nf,d⟩:=I.pin p hp
   exact⟨(hs.2 p.1 ne).trans e,n,ne,nf,d⟩
 ·have hfn:X.fn x=true:=by
   rcases hf with z | z
   ·exact z
   ·rw[z] at hk;cases hk
  obtain⟨c,hc⟩:=I.ok.has x (.inl hk);obtain⟨w',z⟩:=I.cell x c hc;refine wpAny_storeName_cell I.ok.kind hk hc z (fun h' hc' hs=>?_)
  obtain⟨oc,hoc,hocd⟩:=id z;refine h { s with heap:=h' } ⟨I.ok,I.os,I.bare,⟨fun b o e n hb hx=>?_,fun b o e n hb hx=>?_,I.base.free,fun b o e hx=>?_,I.base.tups,I.base.frzs,I.base.tbls⟩,⟨m,hn.sameBut hs (Ne.symm (cne x c hc)),fun j y v' e1 e2 e3=>?_⟩,fun y c' e=>?_,I.free,I.freeC,fun p hp=>?_,tracked ⟨oc,hoc,I.freeC x c hc⟩ hs,by simpa using I.len⟩ ⟨c,hs,.inr hc⟩
  ·exact (hs.2 b (Nat.ne_of_lt (Nat.lt_of_lt_of_le (Heap.lt_size e) (I.ok.cab x c hfn hc)))).trans (I.base.keep b o e n hb hx)
  ·obtain⟨sl,e1⟩:=I.base.slot b o e n hb hx
   exact⟨sl,(hs.2 b (Nat.ne_of_lt (Nat.lt_of_lt_of_le (Heap.lt_size e) (I.ok.cab x c hfn hc)))).trans e1⟩
  ·obtain⟨o',e1⟩:=I.base.there b o e hx
   exact⟨o',(hs.2 b (Nat.ne_of_lt (Nat.lt_of_lt_of_le (Heap.lt_size e) (I.ok.cab x c hfn hc)))).trans e1⟩
  ·by_cases hj:j=i
   ·subst hj;rw[hi] at e1;cases e1;rw[List.getElem?_set_self hiσ] at e2;cases e2
    exact⟨u,r,.inr ⟨.inl hk,c,hc,hc'⟩⟩
   ·rw[List.getElem?_set_ne (Ne.symm hj)] at e2;obtain⟨u',r',q⟩:=hl j y v' e1 e2 e3;refine⟨u',r',?_⟩;rcases q with q | ⟨k,c',e,z'⟩
    ·exact .inl q
    ·refine .inr ⟨k,c',e,z'.sameBut hs ?_⟩
     rintro rfl
     exact hj (vt hN e1 (I.ok.inj _ _ _ e hc▸hi))
  ·by_cases hcc:c'=c
   ·subst hcc;exact⟨_,hc'⟩
   ·obtain⟨w2,z2⟩:=I.cell y c' e
    exact⟨w2,z2.sameBut hs hcc⟩
  ·obtain⟨e,n,ne,nf,d⟩:=I.pin p hp;refine⟨(hs.2 p.1 ?_).trans e,n,ne,nf,d⟩;intro q;rw[q,hoc] at e;have q':oc=p.2:=Option.some.inj e;exact d w' (by rw[←q'];exact hocd)
theorem uy{M:Model}{A:Around}{E:Value→Shared→Prop}{Q:Unit→Shared→Prop}(I:Inv X pins σ H s)(hN:X.N.Nodup)(hi:X.N[i]?=some x)(hx:Loc X.env.scope x)(r:cG v u)
  (h:∀ s',Inv X pins (σ.set i (some v)) H s'→Q () s') (hf:X.fn x=true∨X.env.scope.names.lookup x=some .local:=by first | exact .inl rfl | exact .inr rfl | assumption):wpAny M A (storeName X.env x u) Q E s :=
 xJ I hN hi hx r (fun s' I' _=>h s' I') hf
theorem Inv.call'(I:Inv X pins σ H s)(ho:s'.os=s.os)(u:Un (GY X.stack) ch H H' s.heap s'.heap)(hok:qI X.prog X.w H' s'.heap)(hg:AllBare s'.gens)
  (hch:∀ b∈ch,(b∈X.ex∨X.s_0.heap.objs.size≤b)∧b≠X.env.locals∧(∀ x c,X.env.cells.lookup x=some c→c≠b)∧∀ p∈X.pn++pins,p.1≠b):Inv X pins σ H' s':=by
 obtain⟨h',g',d',t',o'⟩:=s';have e:o'=s.os:=ho;subst e;exact I.call (g':=g') (t':=t') (d':=d') u hok hg hch
end
abbrev XK:=Value→Option Addr→Hp→Prop
abbrev St:=List (Option V)
abbrev VK:=V→Hp→Prop
abbrev TE:=St→Hp→VK→Prop
abbrev TT:=St→Hp→(Bool→Hp→Prop)→Prop
abbrev TA:=St→Hp→(List V→Hp→Prop)→Prop
structure om where
 nx:St→Hp→Prop
 rt:VK
 bk:St→Hp→Prop:=fun _ _=>False
 ct:St→Hp→Prop:=fun _ _=>False
abbrev TS:=om→St→Hp→Prop
def EP(X:Cx)(pins:List (Addr×Obj))(σ:St)(Q:VK)(u:Value)(s':Shared):Prop:=∃ v H',Inv X pins σ H' s'∧cG v u∧Q v H'
def TP(X:Cx)(pins:List (Addr×Obj))(σ:St)(Q:Bool→Hp→Prop)(b:Bool)(s':Shared):Prop:=∃ H',Inv X pins σ H' s'∧Q b H'
def AP(X:Cx)(pins:List (Addr×Obj))(σ:St)(Q:List V→Hp→Prop)(us:List Value)(s':Shared):Prop:=∃ vs H',Inv X pins σ H' s'∧bo vs us∧Q vs H'
def SP(X:Cx)(pins:List (Addr×Obj))(D:om)(f:Flow)(s':Shared):Prop :=
 match f with
 | .next=>∃ σ' H',Inv X pins σ' H' s'∧D.nx σ' H'
 | .brk=>∃ σ' H',Inv X pins σ' H' s'∧D.bk σ' H'
 | .cont=>∃ σ' H',Inv X pins σ' H' s'∧D.ct σ' H'
 | .ret u=>∃ v σ' H',Inv X pins σ' H' s'∧cG v u∧D.rt v H'
def PE(X:Cx)(e:Expr)(t:TE):Prop :=
 ∀ (pins:List (Addr×Obj)) (s:Shared) (σ:St) (H:Hp) (Q:VK),Inv X pins σ H s→t σ H Q→wpAny (model X.prog X.w) X.A (eval e X.env) (EP X pins σ Q) X.xe s
def PT(X:Cx)(e:Expr)(t:TT):Prop :=
 ∀ (pins:List (Addr×Obj)) (s:Shared) (σ:St) (H:Hp) (Q:Bool→Hp→Prop),Inv X pins σ H s→t σ H Q→wpAny (model X.prog X.w) X.A (isTrue e X.env (eval e X.env)) (TP X pins σ Q) X.xe s
def PW(X:Cx)(e:Expr)(t:TT):Prop :=
 ∀ (whole:Sem Value) (pins:List (Addr×Obj)) (s:Shared) (σ:St) (H:Hp) (Q:Bool→Hp→Prop),Inv X pins σ H s→t σ H Q→wpAny (model X.prog X.w) X.A (isTrue e X.env whole) (TP X pins σ Q) X.xe s
theorem PW.pt{X:Cx}{e:Expr}{t:TT}(h:PW X e t):PT X e t:=h _
def PA(X:Cx)(es:List Expr)(t:TA):Prop :=
 ∀ (pos:Pos) (pins:List (Addr×Obj)) (s:Shared) (σ:St) (H:Hp) (Q:List V→Hp→Prop),Inv X pins σ H s→t σ H Q→wpAny (model X.prog X.w) X.A (spliced (backTo pos (starEach es X.env))) (AP X pins σ Q) X.xe s
def PS(X:Cx)(st:Stmt)(t:TS):Prop :=
 ∀ (pins:List (Addr×Obj)) (s:Shared) (σ:St) (H:Hp) (D:om),Inv X pins σ H s→t D σ H→wpAny (model X.prog X.w) X.A (exec st X.env) (SP X pins D) X.xe s
def BY(X:Cx)(st:List Stmt)(t:TS):Prop :=
 ∀ (pins:List (Addr×Obj)) (s:Shared) (σ:St) (H:Hp) (D:om),Inv X pins σ H s→t D σ H→wpAny (model X.prog X.w) X.A (execs st X.env) (SP X pins D) X.xe s
theorem dL{α:Type}{t:Sem α}{Q Q':α→Shared→Prop}{M:Model}{A:Around}{E:Value→Shared→Prop}{s:Shared}(h:wpAny M A t Q E s)(hQ:∀ a s,Q a s→Q' a s):wpAny M A t Q' E s:=wpAny_mono h hQ fun _ _ x=>x
section
variable{X:Cx}
def sl:St→Nat→Option V
 | [],_=>none
 | v::_,0=>v
 | _::l,i+1=>sl l i
def Om:Option V→(V→Prop)→Prop
 | some v,k=>k v
 | none,_=>False
def Ir:V→(Bool→Prop)→Prop
 | .bl b,k=>k b
 | _,_=>False
def OS:V→(Int→Prop)→Prop
 | .int i,k=>k i
 | _,_=>False
def NS:V→V→(Int→Int→Prop)→Prop
 | .int i,.int j,k=>k i j
 | _,_,_=>False
theorem F2:∀ {σ:St}{i:Nat}{v:V},sl σ i=some v→σ[i]?=some (some v)
 | [],i,v,h=>by cases h
 | a::l,0,v,h=>congrArg some h
 | a::l,i+1,v,h=>F2 (σ:=l) h
theorem kK{x:V}{k:Bool→Prop}(h:Ir x k):∃ c,x=.bl c∧k c:=by
 cases x<;>first | exact⟨_,rfl,h⟩ | exact h.elim
theorem KZ(h:OS x k):∃ i,x=.int i∧k i:=by
 cases x<;>first | exact⟨_,rfl,h⟩ | exact h.elim
theorem ve(h:NS x y k):∃ i j,x=.int i∧y=.int j∧k i j:=by
 cases x<;>first | exact h.elim | (cases y<;>first | exact⟨_,_,rfl,rfl,h⟩ | exact h.elim)
def EA(i:Nat):TE:=fun σ H Q=>Om (sl σ i) fun v=>Q v H
theorem Ht(h:EA i σ H Q):∃ v,σ[i]?=some (some v)∧Q v H:=by
 unfold EA at h
 cases e:sl σ i with
 | none=>rw[e] at h;exact h.elim
 | some v=>rw[e] at h;exact⟨v,F2 e,h⟩
def tC(v:V):TE:=fun _ H Q=>Q v H
theorem KT(hN:X.N[i]?=some x)(hv:LJ X.env.scope x)(hd:(x==("__debug__":Str))=false:=by decide)(hcd:(x==("__classdict__":Str))=false:=by decide):PE X (.Name x pos) (EA i):=by
 intro pins s σ H Q I h;obtain⟨v,e,h⟩:=Ht h;obtain⟨m,hn,hl⟩:=I.loc;obtain⟨u,r,l⟩:=hl i x v hN e hv;have dO:EP X pins σ Q u s:=⟨v,H,I,r,h⟩;rcases l with ⟨hk,hm⟩ | ⟨hk,c,hc,hcell⟩
 ·exact wpAny_Name (wpAny_loadName_local I.ok.kind hk hn hm dO) hd
 ·rcases hk with hk | hk
  ·exact wpAny_Name (wpAny_loadName_cell I.ok.kind hk hc hcell dO) hd
  ·exact wpAny_Name (wpAny_loadName_free I.ok.kind hk hc hcell dO hcd) hd
theorem aj{i j pos}:PE X (.Constant (.int i) j pos) (tC (.int i)):=fun _ _ _ H _ I h=>wpAny_Constant_int ⟨.int i,H,I.tok _,⟨_,rfl⟩,h⟩
theorem j8{b j pos}:PE X (.Constant (.bool b) j pos) (tC (.bl b)):=fun _ _ _ H _ I h=>Constant_bool ⟨.bl b,H,I,rfl,h⟩
theorem cH{j pos}:PE X (.Constant .none j pos) (tC .non):=fun _ _ _ H _ I h=>Constant_none ⟨.non,H,I,rfl,h⟩
def Gl(X:Cx)(x:Str):Prop:=X.env.kindOf x=some .globalImplicit
theorem nQ{E:Value→Shared→Prop}{pos:Pos}(I:Inv X pins σ H s)(hg:Gl X x)(hm:X.mg x=some u)(h:Q u s)
  (hd:(x==("__debug__":Str))=false:=by decide):wpAny (model X.prog X.w) X.A (eval (.Name x pos) X.env) Q E s :=
 Calls.Name_function_global I.ok.kind hg (Calls.loadGlobal_global (by rw[I.ok.glob];exact I.mod.glob.keeps I.bk) hm h) hd
theorem ra{E:Value→Shared→Prop}{pos:Pos}(I:Inv X pins σ H s)(hg:Gl X x)(hm:X.mg x=none)(hv:bootBuiltins x=some u)(h:Q u s)
  (hn:x≠"__name__":=by decide) (hd:(x==("__debug__":Str))=false:=by decide):wpAny (model X.prog X.w) X.A (eval (.Name x pos) X.env) Q E s:=by
 obtain⟨mb,h1,h2⟩:=I.mod.blt;exact Calls.Name_function_global I.ok.kind hg (Calls.loadGlobal_builtin (by rw[I.ok.glob];exact I.mod.glob.keeps I.bk) hm (by rw[I.ok.blt];exact h1.keeps I.bk) ((h2 x hn).trans hv) h) hd
theorem DO(hg:Gl X x)(hm:X.mg x=some u)(r:cG v u)(hd:(x==("__debug__":Str))=false:=by decide):PE X (.Name x pos) (tC v) :=
 fun _ _ _ H _ I h=>nQ I hg hm ⟨v,H,I,r,h⟩ hd
variable{a b:Expr}{ta tb:TE}{pos:Pos}
def tB(t:TE):TT:=fun σ H Q=>t σ H fun x H1=>Ir x fun c=>Q c H1
theorem cf{e:Expr}{t:TE}(h:PE X e t)(he:∀ whole,isTrue e X.env whole=(do let v ←whole;standAt e.pos;holding [v] (truthy v)):=by intro _;rfl):PT X e (tB t):=by
 intro pins s σ H Q I hw;refine isTrue_plain (dL (h pins s σ H _ I hw) fun v s1 ⟨x,H1,I1,r1,q1⟩=>?_) (he _)
 obtain⟨d,rfl,q⟩:=kK q1;cases r1;exact wpAny_truthy_bool ⟨H1,I1,q⟩
variable{tA tB':TT}{rest:List Expr}
def L5(t u:TT):TT:=fun σ H Q=>t σ H fun c H1=>if c=true then u σ H1 Q else Q false H1
def OM(t u:TT):TT:=fun σ H Q=>t σ H fun c H1=>if c=true then Q true H1 else u σ H1 Q
def LU(t:TT):TT:=fun σ H Q=>t σ H fun c H1=>Q (!c) H1
theorem nL(ha:PT X a tA):PW X (.BoolOp .And [a] pos) tA:=by
 intro wh pins s σ H Q I h;refine isTrue_and (dL (ha pins s σ H Q I h) fun c s1 e=>?_)
 cases c with
 | true=>exact isTrue_and_nil e
 | false=>exact e
theorem fJ(ha:PT X a tA):PW X (.BoolOp .Or [a] pos) tA:=by
 intro wh pins s σ H Q I h;refine isTrue_or (dL (ha pins s σ H Q I h) fun c s1 e=>?_)
 cases c with
 | false=>exact isTrue_or_nil e
 | true=>exact e
theorem qS(ha:PT X a tA)(hb:PW X (.BoolOp .And (b::rest) pos) tB'):PW X (.BoolOp .And (a::b::rest) pos) (L5 tA tB'):=by
 intro wh pins s σ H Q I h;refine isTrue_and (dL (ha pins s σ H _ I h) fun c s1 y=>?_)
 obtain⟨H1,I1,q1⟩:=y
 cases c with
 | true=>exact hb wh pins s1 σ H1 Q I1 q1
 | false=>exact⟨H1,I1,q1⟩
theorem g7(ha:PT X a tA)(hb:PW X (.BoolOp .Or (b::rest) pos) tB'):PW X (.BoolOp .Or (a::b::rest) pos) (OM tA tB'):=by
 intro wh pins s σ H Q I h;refine isTrue_or (dL (ha pins s σ H _ I h) fun c s1 y=>?_)
 obtain⟨H1,I1,q1⟩:=y
 cases c with
 | true=>exact⟨H1,I1,q1⟩
 | false=>exact hb wh pins s1 σ H1 Q I1 q1
theorem dF(ha:PT X a tA):PT X (.UnaryOp .Not a pos) (LU tA):=by
 intro pins s σ H Q I h;exact isTrue_not (ha pins s σ H (fun c H1=>Q (!c) H1) I h)
def Jv(ta tb:TE):TE:=fun σ H Q=>ta σ H fun x H1=>Ir x fun c=>if c=true then tb σ H1 Q else Q (.bl false) H1
def LS(ta tb:TE):TE:=fun σ H Q=>ta σ H fun x H1=>Ir x fun c=>if c=true then Q (.bl true) H1 else tb σ H1 Q
def Jr(ta:TE):TE:=fun σ H Q=>ta σ H fun x H1=>Ir x fun c=>Q (.bl (!c)) H1
theorem jK{op}(h:PE X a t):PE X (.BoolOp op [a] pos) t:=fun pins s σ H Q I hw=>BoolOp_one (h pins s σ H Q I hw)
theorem kH(ha:PE X a ta)(hb:PE X (.BoolOp .And (b::rest) pos) tb):PE X (.BoolOp .And (a::b::rest) pos) (Jv ta tb):=by
 intro pins s σ H Q I h;refine BoolOp_and (dL (ha pins s σ H _ I h) fun v s1 y=>?_)
 obtain⟨x,H1,I1,r1,q1⟩:=y;obtain⟨c,rfl,q1⟩:=kK q1;cases r1;refine wpAny_truthy_bool ?_
 cases c with
 | true=>exact hb pins s1 σ H1 Q I1 q1
 | false=>exact⟨.bl false,H1,I1,rfl,q1⟩
theorem DN(ha:PE X a ta)(hb:PE X (.BoolOp .Or (b::rest) pos) tb):PE X (.BoolOp .Or (a::b::rest) pos) (LS ta tb):=by
 intro pins s σ H Q I h;refine BoolOp_or (dL (ha pins s σ H _ I h) fun v s1 y=>?_)
 obtain⟨x,H1,I1,r1,q1⟩:=y;obtain⟨c,rfl,q1⟩:=kK q1;cases r1;refine wpAny_truthy_bool ?_
 cases c with
 | false=>exact hb pins s1 σ H1 Q I1 q1
 | true=>exact⟨.bl true,H1,I1,rfl,q1⟩
theorem Gk(ha:PE X a ta):PE X (.UnaryOp .Not a pos) (Jr ta):=by
 intro pins s σ H Q I h;refine UnaryOp_ (dL (ha pins s σ H _ I h) fun v s1 y=>?_)
 obtain⟨x,H1,I1,r1,q1⟩:=y;obtain⟨c,rfl,q1⟩:=kK q1;cases r1;exact not_of (wpAny_truthy_bool ⟨.bl (!c),H1,I1,rfl,q1⟩)
def ON(t:TT)(ta tb:TE):TE:=fun σ H Q=>t σ H fun c H1=>if c=true then ta σ H1 Q else tb σ H1 Q
theorem dw{c:Expr}(hc:PT X c tA)(ha:PE X a ta)(hb:PE X b tb):PE X (.IfExp c a b pos) (ON tA ta tb):=by
 intro pins s σ H Q I h;refine wpAny_IfExp (dL (hc pins s σ H _ I h) fun d s1 y=>?_)
 obtain⟨H1,I1,q1⟩:=y
 cases d with
 | true=>exact ha pins s1 σ H1 Q I1 q1
 | false=>exact hb pins s1 σ H1 Q I1 q1
end
def aL(K:PySem.W.Frag)(H:Hp)(a:Addr)(xs:List V):Prop :=
 Rd H a (.lst xs) ∨
  ∃ (o:Obj) (its:Array Value) (n:Nat),K.lookup a=some o∧o.cls=.type "list"∧o.dict=none∧o.data=.seq its n∧its.size≤sizeLine∧bo xs its.toList
def lP(K:PySem.W.Frag)(H:Hp)(a:Addr)(xs:List V):Prop :=
 Rd H a (.tup xs) ∨
  ∃ (o:Obj) (its:Array Value) (n:Nat),K.lookup a=some o∧o.cls=.type "tuple"∧o.data=.seq its n∧its.size≤sizeLine∧bo xs its.toList
def Oy:Value→Option V
 | .none=>some .non
 | .bool b=>some (.bl b)
 | .int i _=>some (.int i)
 | .str x _=>some (.str x)
 | .bytes b _=>some (.byt b)
 | .float b _=>some (.flt b)
 | .ref a=>some (.ref a)
 | .type n=>some (.ty n)
 | _=>none
theorem cG.abs(r:cG x u):Oy u=some x:=by
 cases x with
 | non=>cases r;rfl
 | bl _=>cases r;rfl
 | int _=>obtain⟨t,rfl⟩:=r;rfl
 | str _=>obtain⟨t,rfl⟩:=r;rfl
 | byt _=>obtain⟨t,rfl⟩:=r;rfl
 | flt _=>obtain⟨t,rfl⟩:=r;rfl
 | ref _=>cases r;rfl
 | ty _=>cases r;rfl
theorem cG.inj(r:cG x u)(q:cG y u):x=y:=Option.some.inj (r.abs.symm.trans q.abs)
theorem bo.inj:∀ {xs ys:List V}{us:List Value},bo xs us→bo ys us→xs=ys
 | _,_,_,.nil,.nil=>rfl
 | _,_,_,.cons r t,.cons r' t'=>by rw[r.inj r',bo.inj t t']
section
variable{X:Cx}{pins:List (Addr×Obj)}{σ:St}{H:Hp}{s:Shared}{a:Addr}{xs ys:List V}
theorem aL.of{K:PySem.W.Frag}(h:H a=some (.lst xs)):aL K H a xs:=.inl (.inl h)
theorem lP.of{K:PySem.W.Frag}(h:H a=some (.tup xs)):lP K H a xs:=.inl (.inl h)
theorem Inv.list(I:Inv X pins σ H s)(h:aL X.K H a xs):∃ its:List Value,bo xs its∧PlainL s.heap a its.toArray∧xs.length≤sizeLine:=by
 rcases h with h | ⟨o,its,n,hk,hc,hd,hs,hz,r⟩
 ·obtain⟨z,its,n,r,e⟩:=h.ok I.hok
  exact⟨its,r,⟨_,n,e,rfl,rfl,rfl⟩,z⟩
 ·refine⟨its.toList,r,⟨o,n,I.kIn a o hk,hc,hd,by simpa using hs⟩,?_⟩
  have e:=r.length;simp only[Array.length_toList] at e;lia
theorem Inv.tuple(I:Inv X pins σ H s)(h:lP X.K H a xs):∃ its:List Value,bo xs its∧IsTup s.heap a its.toArray∧xs.length≤sizeLine:=by
 rcases h with h | ⟨o,its,n,hk,hc,hs,hz,r⟩
 ·obtain⟨z,its,r,p⟩:=h.ok I.hok
  exact⟨its,r,p,z⟩
 ·refine⟨its.toList,r,⟨o,I.kIn a o hk,hc,n,by simpa using hs⟩,?_⟩
  have e:=r.length;simp only[Array.length_toList] at e;lia
theorem Inv.list_inj(I:Inv X pins σ H s)(h:aL X.K H a xs)(h':aL X.K H a ys):xs=ys:=by
 obtain⟨its,r,⟨o,n,e,_,_,d⟩,_⟩:=I.list h;obtain⟨its',r',⟨o',n',e',_,_,d'⟩,_⟩:=I.list h';rw[e] at e';cases e';rw[d] at d'
 injection d' with d1 _
 have:its=its':=by simpa using congrArg Array.toList d1
 subst this;exact r.inj r'
theorem Inv.tuple_inj(I:Inv X pins σ H s)(h:lP X.K H a xs)(h':lP X.K H a ys):xs=ys:=by
 obtain⟨its,r,⟨o,e,_,n,d⟩,_⟩:=I.tuple h;obtain⟨its',r',⟨o',e',_,n',d'⟩,_⟩:=I.tuple h';rw[e] at e';cases e';rw[d] at d'
 injection d' with d1 _
 have:its=its':=by simpa using congrArg Array.toList d1
 subst this;exact r.inj r'
end
abbrev Cx.wish(X:Cx)(E:Value→Shared→Prop):Cx:={ X with xe:=E }
abbrev Cx.nox(X:Cx):Cx:=X.wish fun _ _=>False
theorem Cx.Ok.wish{X:Cx}(ok:X.Ok)(E:Value→Shared→Prop):(X.wish E).Ok :=
 ⟨ok.mod,ok.kind,ok.glob,ok.blt,ok.above,ok.inj,ok.has,ok.cab,ok.hd,ok.frames,ok.stk,ok.exf,ok.bs,ok.bsz,ok.noex,ok.exfs,ok.funs,ok.frf⟩
theorem Cx.Ok.unwish{X:Cx}{E:Value→Shared→Prop}(ok:(X.wish E).Ok):X.Ok :=
 ⟨ok.mod,ok.kind,ok.glob,ok.blt,ok.above,ok.inj,ok.has,ok.cab,ok.hd,ok.frames,ok.stk,ok.exf,ok.bs,ok.bsz,ok.noex,ok.exfs,ok.funs,ok.frf⟩
section
variable{X:Cx}{pins:List (Addr×Obj)}{σ:St}{H:Hp}{s:Shared}{E:Value→Shared→Prop}
theorem Inv.wish(I:Inv X pins σ H s)(E:Value→Shared→Prop):Inv (X.wish E) pins σ H s:=⟨I.ok.wish E,I.os,I.bare,I.base,I.loc,I.cell,I.free,I.freeC,I.pin,I.hok,I.len⟩
theorem Inv.unwish(I:Inv (X.wish E) pins σ H s):Inv X pins σ H s:=⟨I.ok.unwish,I.os,I.bare,I.base,I.loc,I.cell,I.free,I.freeC,I.pin,I.hok,I.len⟩
theorem SP.unwish{D:om}{f:Flow}{s':Shared}(h:SP (X.wish E) pins D f s'):SP X pins D f s':=by
 cases f with
 | next=>obtain⟨σ',H',I,q⟩:=h;exact⟨σ',H',I.unwish,q⟩
 | brk=>obtain⟨σ',H',I,q⟩:=h;exact⟨σ',H',I.unwish,q⟩
 | cont=>obtain⟨σ',H',I,q⟩:=h;exact⟨σ',H',I.unwish,q⟩
 | ret u=>obtain⟨v,σ',H',I,r,q⟩:=h;exact⟨v,σ',H',I.unwish,r,q⟩
theorem BY.nox{st:List Stmt}{t:TS}(h:BY X.nox st t):BY X st t:=fun pins s σ H D I hw =>
 wpAny_mono (h pins s σ H D (I.wish _) hw) (fun _ _ q=>q.unwish) fun _ _ z=>False.elim z
end
section
variable{X:Cx}{st:Stmt}{rest:List Stmt}{t u:TS}{e:Expr}{te:TE}{pos:Pos}
def Js:TS:=fun D σ H=>D.nx σ H
def Hu(t u:TS):TS:=fun D σ H=>t { D with nx:=u D } σ H
theorem aF:BY X [] Js:=fun _ _ σ H _ I h=>wpAny_execs_nil ⟨σ,H,I,h⟩
theorem ab(h1:PS X st t)(h2:BY X rest u):BY X (st::rest) (Hu t u):=by
 intro pins s σ H D I h;refine wpAny_execs_cons (dL (h1 pins s σ H { D with nx:=u D } I h) fun f s1 q=>?_)
 cases f with
 | next =>
  obtain⟨σ',H',I',q⟩:=q;exact h2 pins s1 σ' H' D I' q
 | ret v=>exact q
 | brk=>exact q
 | cont=>exact q
theorem aB(h1:PS X st t):BY X [st] t:=by
 intro pins s σ H D I h;refine wpAny_execs_cons (dL (h1 pins s σ H D I h) fun f s1 q=>?_)
 cases f with
 | next=>exact wpAny_execs_nil q
 | ret v=>exact q
 | brk=>exact q
 | cont=>exact q
theorem Inv.quiet{pins:List (Addr×Obj)}{σ:St}{H:Hp}{s:Shared}(I:Inv X pins σ H s):interactive X.env=false:=by simp[interactive,I.ok.kind]
def Jt(te:TE):TS:=fun D σ H=>te σ H fun _ H1=>D.nx σ H1
theorem bQ(he:PE X e te)(hs:swapsWith e none pos.line X.env=pure false:=by rfl):PS X (.Expr e pos) (Jt te):=by
 intro pins s σ H D I h;exact wpAny_Expr_any (dL (he pins s σ H _ I h) fun v s1 ⟨x,H1,I1,r1,q1⟩=>⟨σ,H1,I1,q1⟩) I.quiet hs
def J5(te:TE):TS:=fun D σ H=>te σ H D.rt
theorem KO(he:PE X e te):PS X (.Return (some e) pos) (J5 te):=by
 intro pins s σ H D I h;exact wpAny_Return_some (dL (he pins s σ H _ I h) fun v s1 ⟨x,H1,I1,r1,q1⟩=>⟨x,σ,H1,I1,r1,q1⟩)
def LR:TS:=fun D _ H=>D.rt .non H
def LY(c:TT)(t u:TS):TS:=fun D σ H=>c σ H fun b H1=>if b=true then t D σ H1 else u D σ H1
theorem aU{c:Expr}{a b:List Stmt}{tc:TT}(hc:PT X c tc)(ha:BY X a t)(hb:BY X b u):PS X (.If c a b pos) (LY tc t u):=by
 intro pins s σ H D I h;refine wpAny_If (dL (hc pins s σ H _ I h) fun d s1 y=>?_)
 obtain⟨H1,I1,q1⟩:=y
 cases d with
 | true=>exact ha pins s1 σ H1 D I1 q1
 | false=>exact hb pins s1 σ H1 D I1 q1
end
abbrev TG:=V→St→Hp→(St→Hp→Prop)→Prop
abbrev LC:=List V→St→Hp→(St→Hp→Prop)→Prop
def PG(X:Cx)(target:Expr)(t:TG):Prop :=
 ∀ (pins:List (Addr×Obj)) (s:Shared) (σ:St) (H:Hp) (v:V) (u:Value) (Q:St→Hp→Prop),Inv X pins σ H s→cG v u→t v σ H Q →
  wpAny (model X.prog X.w) X.A (assign target X.env u) (fun _ s'=>∃ σ' H',Inv X pins σ' H' s'∧Q σ' H') X.xe s
def Nt(X:Cx)(ts:List Expr)(t:LC):Prop :=
 ∀ (pins:List (Addr×Obj)) (s:Shared) (σ:St) (H:Hp) (vs:List V) (us:List Value) (Q:St→Hp→Prop),Inv X pins σ H s→bo vs us→t vs σ H Q →
  wpAny (model X.prog X.w) X.A (assignInOrder ((assignEach ts X.env).map (·.2)) us) (fun _ s'=>∃ σ' H',Inv X pins σ' H' s'∧Q σ' H') X.xe s
abbrev LB:=V→V→V→Hp→(Hp→Prop)→Prop
def Nr(X:Cx)(t:LB):Prop :=
 ∀ (pins:List (Addr×Obj)) (s:Shared) (σ:St) (H:Hp) (o i v:V) (ov iv u:Value) (Q:Hp→Prop),Inv X pins σ H s→cG o ov→cG i iv→cG v u→t o i v H Q →
  wpAny (model X.prog X.w) X.A (setItem ov iv u) (fun _ s'=>∃ H',Inv X pins σ H' s'∧Q H') X.xe s
abbrev NU:=V→V→Hp→VK→Prop
def OC(X:Cx)(op:Operator)(t:NU):Prop :=
 ∀ (pins:List (Addr×Obj)) (s:Shared) (σ:St) (H:Hp) (x y:V) (v u:Value) (Q:VK),Inv X pins σ H s→cG x v→cG y u→t x y H Q →
  wpAny (model X.prog X.w) X.A (inplaceOp op v u) (EP X pins σ Q) X.xe s
section
variable{X:Cx}{pos:Pos}
def db(i:Nat):TG:=fun v σ H Q=>Q (σ.set i (some v)) H
theorem Ih(hN:X.N.Nodup)(hi:X.N[i]?=some x)(hx:Loc X.env.scope x)(hf:X.fn x=true∨X.env.scope.names.lookup x=some .local:=by first | exact .inl rfl | exact .inr rfl | assumption):PG X (.Name x pos) (db i):=by
 intro pins s σ H v u Q I r h;exact wpAny_assign_Name (uy I hN hi hx r (fun s' I'=>⟨_,H,I',h⟩) hf)
def GX:LC:=fun vs σ H Q=>vs=[]∧Q σ H
def qs(t:TG)(u:LC):LC:=fun vs σ H Q=>∃ v r,vs=v::r∧t v σ H fun σ' H'=>u r σ' H' Q
theorem f9:Nt X [] GX:=by
 intro pins s σ H vs us Q I r h;obtain⟨e,h⟩:=h;subst e;cases r;exact assignInOrder_nil ⟨σ,H,I,h⟩
theorem bO{e:Expr}{es:List Expr}{t:TG}{u:LC}(h1:PG X e t)(h2:Nt X es u)
  (hs:(assignEach (e::es) X.env).map (·.2)=assign e X.env::(assignEach es X.env).map (·.2):=by rfl):Nt X (e::es) (qs t u):=by
 intro pins s σ H vs us Q I r h;obtain⟨v,vr,e1,h⟩:=h;subst e1
 cases r with
 | cons r rr =>
  rw[hs];refine assignInOrder_cons (dL (h1 pins s σ H _ _ _ I r h) fun _ s1 y=>?_)
  obtain⟨σ1,H1,I1,q1⟩:=y;exact h2 pins s1 σ1 H1 _ _ Q I1 rr q1
def E8(K:PySem.W.Frag)(n:Nat)(t:LC):TG:=fun v σ H Q=>∃ a xs,v=.ref a∧lP K H a xs∧xs.length=n∧t xs σ H Q
theorem KS{k:Nat}{n:Nat}(hc:X.calm=true)(h:Nt X es t)
  (hn:(assignEach es X.env).length=n:=by rfl) (hst:(assignEach es X.env).findIdx? (·.1)=none:=by rfl):PG X (.Tuple es k pos) (E8 X.K n t):=by
 intro pins s σ H v u Q I r hw;obtain⟨a,xs,e1,hq,hl,hw⟩:=hw;subst e1;cases r;obtain⟨its,rv,ht,hz⟩:=I.tuple hq;refine assign_Tuple_tuple (I.ok.hd hc) ht (by simp[hn,←hl,rv.length]) hst fun h' hx=>?_
 have I1:Inv X pins σ H { s with heap:=h' }:=I.kept (t':=s.toks) fun b o e=>hx b o (Nat.ne_of_lt (Heap.lt_size e)) e
 exact h pins _ σ H xs _ Q I1 (by simpa using rv) hw
def Nb(to ti:TE)(t:LB):TG:=fun v σ H Q=>to σ H fun o H1=>ti σ H1 fun i H2=>t o i v H2 fun H3=>Q σ H3
theorem fL{o i:Expr}{to ti:TE}{t:LB}(ho:PE X o to)(hi:PE X i ti)(hs:Nr X t)
  (ha:∀ v,assign (.Subscript o i pos) X.env v=(do
   let ov ←holding [v] (eval o X.env)
   let iv ←holding [v,ov] (eval i X.env)
   standAt pos
   holding [v,ov,iv] (setItem ov iv v)
   release [v,ov,iv] []):=by intro _;rfl):PG X (.Subscript o i pos) (Nb to ti t):=by
 intro pins s σ H v u Q I r h;rw[ha];refine wpAny_bind (wpAny_holding (dL (ho pins s σ H _ I h) fun ov s1 y=>?_))
 obtain⟨x,H1,I1,r1,q1⟩:=y;refine wpAny_bind (wpAny_holding (dL (hi pins s1 σ H1 _ I1 q1) fun iv s2 yy=>?_))
 obtain⟨y,H2,I2,r2,q2⟩:=yy;refine wpAny_bind (wpAny_standAt (wpAny_bind (wpAny_holding (dL (hs pins s2 σ H2 x y v ov iv u _ I2 r1 r2 r q2) fun _ s3 yy=>?_))))
 obtain⟨H3,I3,q3⟩:=yy;exact wpAny_release ⟨σ,H3,I3,q3⟩
def EB(te:TE)(g:TG):TS:=fun D σ H=>te σ H fun x H1=>g x σ H1 D.nx
theorem fK{tg e:Expr}{te:TE}{g:TG}(he:PE X e te)(hg:PG X tg g)(hs:swapsWithSole [tg] e pos.line X.env=pure false:=by rfl)(hw:swappedStores [tg] e X.env=pure none:=by rfl)
  (h1:(assignEach [tg] X.env).map (·.2)=[assign tg X.env]:=by rfl):PS X (.Assign [tg] e pos) (EB te g):=by
 intro pins s σ H D I h;refine wpAny_Assign_stores (dL (he pins s σ H _ I h) fun v s1 ⟨x,H1,I1,r1,q1⟩=>?_) hs hw
 rw[h1];exact dL (hg pins s1 σ H1 x v _ I1 r1 q1) fun _ s2 q=>q
theorem KN{i:Nat}{x:Str}{e:Expr}{te:TE}{pos':Pos}(hN:X.N.Nodup)(hi:X.N[i]?=some x)(hx:Loc X.env.scope x)(he:PE X e te)(hs:swapsWith e (some (.Name x pos')) pos.line X.env=pure false:=by rfl)(hf:X.fn x=true∨X.env.scope.names.lookup x=some .local:=by first | exact .inl rfl | exact .inr rfl | assumption) :
  PS X (.Assign [.Name x pos'] e pos) (EB te (db i)):=by
 intro pins s σ H D I h;refine wpAny_Assign_Name (dL (he pins s σ H _ I h) fun v s1 ⟨y,H1,I1,r1,q1⟩=>?_) hs
 exact uy I1 hN hi hx r1 (fun s2 I2=>⟨_,H1,I2,q1⟩) hf
def L4(i:Nat)(te:TE)(ti:NU):TS:=fun D σ H=>∃ x,σ[i]?=some (some x)∧te σ H fun y H1=>ti x y H1 fun z H2=>D.nx (σ.set i (some z)) H2
theorem Gi{i:Nat}{x:Str}{e:Expr}{te:TE}{op:Operator}{ti:NU}{pos':Pos}(hN:X.N.Nodup)(hi:X.N[i]?=some x)(hx:Loc X.env.scope x)(he:PE X e te)(ho:OC X op ti)(hf:X.fn x=true∨X.env.scope.names.lookup x=some .local:=by first | exact .inl rfl | exact .inr rfl | assumption) :
  PS X (.AugAssign (.Name x pos') op e pos) (L4 i te ti):=by
 intro pins s σ H D I h;obtain⟨v,e1,h⟩:=h;obtain⟨m,hn,hl⟩:=I.loc;have vis:LJ X.env.scope x:=by rcases hx with k | k;exact .inl k;exact .inr (.inl k)
 obtain⟨u,r,l⟩:=hl i x v hi e1 vis;refine wpAny_AugAssign_Name ?_
 have go:wpAny (model X.prog X.w) X.A (eval e X.env) (fun w s₂=>wpAny (model X.prog X.w) X.A (inplaceOp op u w) (fun r s₃=>wpAny (model X.prog X.w) X.A (storeName X.env x r) (fun _=>SP X pins D .next) X.xe s₃) X.xe s₂) X.xe s:=by
  refine dL (he pins s σ H _ I h) fun w s1 yy=>?_
  obtain⟨y,H1,I1,r1,q1⟩:=yy;refine dL (ho pins s1 σ H1 v y u w _ I1 r r1 q1) fun z s2 yy=>?_
  obtain⟨zv,H2,I2,r2,q2⟩:=yy;exact uy I2 hN hi hx r2 (fun s3 I3=>⟨_,H2,I3,q2⟩) hf
 rcases l with ⟨hk,hm⟩ | ⟨hk,c,hc,hcell⟩
 ·exact wpAny_loadName_local I.ok.kind hk hn hm go
 ·rcases hk with hk | hk
  ·exact wpAny_loadName_cell I.ok.kind hk hc hcell go
  ·rcases hx with k | k
   ·have:X.env.scope.names.lookup x=some .free:=hk
    rw[k] at this;cases this
   ·have:X.env.scope.names.lookup x=some .free:=hk
    rw[k] at this;cases this
def Ot(f:Int→Int→Int):NU:=fun x y H Q=>NS x y fun i j=>Q (.int (f i j)) H
theorem Lb:OC X .Add (Ot fun i j=>i+j):=by
 intro pins s σ H x y v u Q I r1 r2 h;obtain⟨i,j,e1,e2,q⟩:=ve h;subst e1;subst e2;obtain⟨t,rfl⟩:=r1;obtain⟨t',rfl⟩:=r2;exact iadd_int ⟨.int _,H,I.tok _,⟨_,rfl⟩,q⟩
end
section
variable{X:Cx}{pos:Pos}
def J3(c:TT)(tb:TS):TS:=fun D σ H=>∃ W:Nat→St→Hp→Prop,(∃ m,W m σ H)∧∀ m σ H,W m σ H →
 c σ H fun b H1=>if b=true then ∃ N:St→Hp→Prop,(∀ σ' H',N σ' H'→∃ m',m'<m∧W m' σ' H')∧tb { D with nx:=N,ct:=N,bk:=D.nx } σ H1 else D.nx σ H1
theorem u1{c:Expr}{body:List Stmt}{tc:TT}{tb:TS}(hp:PassesOwn (model X.prog X.w) X.A X.env X.xe)(hc:PT X c tc)(hb:BY X body tb):PS X (.While c body [] pos) (J3 tc tb):=by
 intro pins s σ H D I h;obtain⟨W,⟨m0,w0⟩,turn⟩:=h;refine wpAny_While (codeAny_whileLoop (fun n s'=>∃ σ' H',Inv X pins σ' H' s'∧W n σ' H') ?_ m0 ⟨σ,H,I,w0⟩)
 rintro n s1 ⟨σ1,H1,I1,w1⟩
 refine wpAny_passesOwn hp (dL (hc pins s1 σ1 H1 _ I1 (turn n σ1 H1 w1)) fun b s2 y=>?_)
 obtain⟨H2,I2,q2⟩:=y
 cases b with
 | true =>
  obtain⟨N,hN,q2⟩:=q2;rw[if_pos rfl];refine wpAny_passesOwn hp (dL (hb pins s2 σ1 H2 _ I2 q2) fun f s3 q3=>?_)
  cases f with
  | next =>
   obtain⟨σ3,H3,I3,n3⟩:=q3;obtain⟨m',hm,w3⟩:=hN σ3 H3 n3
   exact⟨m',hm,σ3,H3,I3,w3⟩
  | cont =>
   obtain⟨σ3,H3,I3,n3⟩:=q3;obtain⟨m',hm,w3⟩:=hN σ3 H3 n3
   exact⟨m',hm,σ3,H3,I3,w3⟩
  | brk=>exact q3
  | ret v=>exact q3
 | false =>
  rw[if_neg Bool.false_ne_true];exact wpAny_execs_nil ⟨σ1,H2,I2,q2⟩
end
structure It where
 go:Nat→Hp→Prop
 yld:Nat→Hp→V→Hp→Prop
 stop:Nat→Hp→Prop
def tY(X:Cx)(pins:List (Addr×Obj))(H:Hp)(b:Addr):Prop :=
 H b=none∧b≠X.env.locals∧b∉X.fs∧(b∈X.ex∨X.s_0.heap.objs.size≤b)∧(∀ x c,X.env.cells.lookup x=some c→c≠b)∧∀ p∈X.pn++pins,p.1≠b
theorem Inv.fpOk(I:Inv X pins σ H s)(hb:s.heap.objs.size≤b)(hn:H' b=none):tY X pins H' b:=by
 refine⟨hn,Nat.ne_of_gt (Nat.lt_of_lt_of_le I.lt hb),I.nofs hb,.inr (Nat.le_trans I.sz hb),fun x c e z=>?_,fun p hp z=>?_⟩
 ·obtain⟨v,q⟩:=I.cell x c e;exact absurd (Nat.lt_of_lt_of_le q.lt (by rw[z];exact hb)) (Nat.lt_irrefl _)
 ·exact absurd (Nat.lt_of_lt_of_le (Heap.lt_size (I.pin p hp).1) (by rw[z];exact hb)) (Nat.lt_irrefl _)
structure BN(P:Program)(w:World)(K:PySem.W.Frag)(tg:Expr)(J:It)(fp:List Addr)(it:Addr)(tn:Nat→Heap→Prop):Prop where
 mem:it∈fp
 obj:∀ i h,tn i h→∀ b∈fp,∃ o,h.get? b=some o∧∀ v,o.data≠.cell v
 keep:∀ i h h',tn i h→(∀ b∈fp,∀ o,h.get? b=some o→h'.get? b=some o)→tn i h'
 item:∀ (X:Cx),X.prog=P→X.w=w→X.K=K→X.calm=true→∀ (i:Nat) (pins:List (Addr×Obj)) (s:Shared) (σ:St) (H:Hp) (E:Value→Shared→Prop),Inv X pins σ H s→(∀ b∈fp,tY X pins H b)→tn i s.heap→J.go i H →
  wpAny (model P w) X.A (pyNext (.ref it)) (fun r s1=>∃ u,r=some u ∧
   wpAny (model P w) X.A (letOwnedTupleGo tg (.ref it) u) (fun _ s2=>∃ x H',Inv X pins σ H' s2∧cG x u∧J.yld i H x H'∧tn (i+1) s2.heap∧∀ b∈fp,H' b=none) E s1) E s
 done:∀ (X:Cx),X.prog=P→X.w=w→X.K=K→X.calm=true→∀ (i:Nat) (pins:List (Addr×Obj)) (s:Shared) (σ:St) (H:Hp) (E:Value→Shared→Prop),Inv X pins σ H s→(∀ b∈fp,tY X pins H b)→tn i s.heap→J.stop i H →
  wpAny (model P w) X.A (pyNext (.ref it)) (fun r s1=>r=none∧Inv X pins σ H s1) E s
 self:∀ (A:Around) (i:Nat) (s:Shared) (Q:Value→Shared→Prop) (E:Value→Shared→Prop),tn i s.heap→Q (.ref it) s→wpAny (model P w) A (pyIter (.ref it)) Q E s
abbrev TI:=St→Hp→(It→Hp→Prop)→Prop
def OD(X:Cx)(pins:List (Addr×Obj))(σ:St)(tg:Expr)(R:It→Hp→Prop)(itv:Value)(s2:Shared):Prop :=
 ∃ (it:Addr) (fp:List Addr) (tn:Nat→Heap→Prop) (J:It) (H':Hp),itv=.ref it∧Inv X pins σ H' s2∧BN X.prog X.w X.K tg J fp it tn∧tn 0 s2.heap∧(∀ b∈fp,tY X pins H' b)∧R J H'
def PI(X:Cx)(tg iter:Expr)(wi:TI):Prop :=
 ∀ (pins:List (Addr×Obj)) (s:Shared) (σ:St) (H:Hp) (R:It→Hp→Prop),Inv X pins σ H s→wi σ H R →
  wpAny (model X.prog X.w) X.A (eval iter X.env) (fun v s1=>wpAny (model X.prog X.w) X.A (pyIter v) (OD X pins σ tg R) X.xe s1) X.xe s
theorem D5{M:Model}{A:Around}{E:Value→Shared→Prop}{tg:Expr}{u:Value}{Q:Unit→Shared→Prop}(ho:s.heap.get? it=some o)(hc:o.cls=.type n)(hd:o.data=.fields vs)
  (hn:["enumerate","zip","dict_itemiterator","dict_reverseitemiterator","odict_iterator","itertools.zip_longest","itertools.pairwise"].contains n=false) (hQ:Q () s):wpAny M A (letOwnedTupleGo tg (.ref it) u) Q E s:=by
 unfold letOwnedTupleGo
 cases tg<;>first
  | exact wpAny_pure hQ
  | (cases u<;>first
    | exact wpAny_pure hQ
    | (refine wpAny_bind (wpAny_load ho ?_);rw[hc,hd];show wpAny M A (if (["enumerate","zip","dict_itemiterator","dict_reverseitemiterator","odict_iterator","itertools.zip_longest","itertools.pairwise"].contains n&&vs[0]?==some (rawInt _))=true then _ else _) Q E s;rw[if_neg (by intro h;rw[hn,Bool.false_and] at h;cases h)];exact wpAny_pure hQ))
def FJ(K:PySem.W.Frag)(a:Addr):It :=
 ⟨fun i H=>∃ xs x,aL K H a xs∧xs[i]?=some x,fun i H x H'=>H'=H∧∀ xs,aL K H a xs→xs[i]?=some x,fun i H=>∃ xs,aL K H a xs∧xs.length≤i⟩
def LH(K:PySem.W.Frag)(a:Addr):It :=
 ⟨fun i H=>∃ xs x,lP K H a xs∧xs[i]?=some x,fun i H x H'=>H'=H∧∀ xs,lP K H a xs→xs[i]?=some x,fun i H=>∃ xs,lP K H a xs∧xs.length≤i⟩
def Jj(lo:Int)(n:Nat):It:=⟨fun i _=>i<n,fun i H x H'=>H'=H∧x=.int (lo+i),fun i _=>n≤i⟩
theorem Ev{P:Program}{w:World}{K:PySem.W.Frag}{tg:Expr}(a it:Addr):BN P w K tg (FJ K a) [it] it (fun i h=>h.IsListIter it a i) where
 mem:=by simp
 obj:=fun i h st b hb=>by
  have e:b=it:=by simpa using hb
  subst e;obtain⟨o,e,c,d⟩:=st
  exact⟨o,e,fun v z=>by rw[d] at z;cases z⟩
 keep:=fun i h h' st k=>st.at fun o e=>k it (by simp) o e
 item:=by
  intro X hP hw hK hc i pins s σ H E I hf st hg;subst hP hw hK;obtain⟨xs,x,hq,hx⟩:=hg;obtain⟨its,rv,p,hz⟩:=I.list hq;obtain⟨u,hu,ru⟩:=rv.get hx;obtain⟨f0,f1,f2,f3,f4,f5⟩:=hf it (by simp)
  refine wpAny_pyNext_list_item st p.isList (x:=u) (by simpa using hu) fun h' st' sb=>?_
  have I1:Inv X pins σ H { s with heap:=h' }:=I.turned (t':=s.toks) (fun b o hb e=>(sb.2 b hb).trans e) f0 f1 f3 f4 f5
  obtain⟨o,e,c,d⟩:=id st'
  exact⟨u,rfl,D5 (s:={ s with heap:=h' }) e c d (by decide) ⟨x,H,I1,ru,⟨rfl,fun ys hy=>by rw[I.list_inj hy hq];exact hx⟩,st',fun b hb=>(hf b hb).1⟩⟩
 done:=by
  intro X hP hw hK hc i pins s σ H E I hf st hg;subst hP hw hK;obtain⟨xs,hq,hx⟩:=hg;obtain⟨its,rv,p,hz⟩:=I.list hq;obtain⟨f0,f1,f2,f3,f4,f5⟩:=hf it (by simp)
  have hl:=rv.length;exact wpAny_pyNext_list_end (I.ok.hd hc) st p.isList (by simp;lia) fun h' eb=>⟨rfl,I.turned (t':=s.toks) (fun b o hb e=>eb b o hb e) f0 f1 f3 f4 f5⟩
 self:=fun _ _ _ _ _ st h=>wpAny_pyIter_listiter st h
theorem B8{P:Program}{w:World}{K:PySem.W.Frag}{tg:Expr}(a it:Addr):BN P w K tg (LH K a) [it] it (fun i h=>h.IsTupleIter it a i) where
 mem:=by simp
 obj:=fun i h st b hb=>by
  have e:b=it:=by simpa using hb
  subst e;obtain⟨o,e,c,d⟩:=st
  exact⟨o,e,fun v z=>by rw[d] at z;cases z⟩
 keep:=fun i h h' st k=>st.at fun o e=>k it (by simp) o e
 item:=by
  intro X hP hw hK hc i pins s σ H E I hf st hg;subst hP hw hK;obtain⟨xs,x,hq,hx⟩:=hg;obtain⟨its,rv,p,hz⟩:=I.tuple hq;obtain⟨u,hu,ru⟩:=rv.get hx;obtain⟨f0,f1,f2,f3,f4,f5⟩:=hf it (by simp)
  refine wpAny_pyNext_tuple_item st (show s.heap.IsTuple a its.toArray from p) (x:=u) (by simpa using hu) fun h' st' sb=>?_
  have I1:Inv X pins σ H { s with heap:=h' }:=I.turned (t':=s.toks) (fun b o hb e=>(sb.2 b hb).trans e) f0 f1 f3 f4 f5
  obtain⟨o,e,c,d⟩:=id st'
  exact⟨u,rfl,D5 (s:={ s with heap:=h' }) e c d (by decide) ⟨x,H,I1,ru,⟨rfl,fun ys hy=>by rw[I.tuple_inj hy hq];exact hx⟩,st',fun b hb=>(hf b hb).1⟩⟩
 done:=by
  intro X hP hw hK hc i pins s σ H E I hf st hg;subst hP hw hK;obtain⟨xs,hq,hx⟩:=hg;obtain⟨its,rv,p,hz⟩:=I.tuple hq;obtain⟨f0,f1,f2,f3,f4,f5⟩:=hf it (by simp)
  have hl:=rv.length;exact wpAny_pyNext_tuple_end (I.ok.hd hc) st (show s.heap.IsTuple a its.toArray from p) (by simp;lia) fun h' eb=>⟨rfl,I.turned (t':=s.toks) (fun b o hb e=>eb b o hb e) f0 f1 f3 f4 f5⟩
 self:=fun _ _ _ _ _ st h=>wpAny_pyIter_tupleiter st h
theorem B9{P:Program}{w:World}{K:PySem.W.Frag}{tg:Expr}(it:Addr)(lo:Int)(n:Nat):BN P w K tg (Jj lo n) [it] it (fun i h=>IsRangeIter h it (lo+(i:Nat)*1) ((n:Int) - (i:Nat)) 1) where
 mem:=by simp
 obj:=fun i h st b hb=>by
  have e:b=it:=by simpa using hb
  subst e
  exact⟨_,st,fun v z=>by
   have z':Data.fields _=Data.cell v:=z
   cases z'⟩
 keep:=fun i h h' st k=>k it (by simp) _ st
 item:=by
  intro X hP hw hK hc i pins s σ H E I hf st hg;subst hP hw hK;obtain⟨f0,f1,f2,f3,f4,f5⟩:=hf it (by simp)
  have W:=Walks.range (prog:=X.prog) (w:=X.w) (I.ok.hd hc) it lo 1 n;refine W.item i s _ _ hg st fun v h' tk hv st' kk=>?_
  obtain⟨t,rfl⟩:=hv;have I1:Inv X pins σ H { s with heap:=h',toks:=tk }:=I.turned (fun b o hb e=>kk b o (by simpa using hb) e) f0 f1 f3 f4 f5
  refine⟨_,rfl,D5 (s:={ s with heap:=h',toks:=tk }) (n:="range_iterator") st' rfl rfl (by decide) ⟨.int (lo+i),H,I1,⟨t,?_⟩,⟨rfl,rfl⟩,st',fun b hb=>(hf b hb).1⟩⟩
  rw[Int.mul_one]
 done:=by
  intro X hP hw hK hc i pins s σ H E I hf st hg;subst hP hw hK;obtain⟨f0,f1,f2,f3,f4,f5⟩:=hf it (by simp)
  exact wpAny_pyNext_range_end (I.ok.hd hc) st (by have:n≤i:=hg;lia) fun h' eb=>⟨rfl,I.turned (t':=s.toks) (fun b o hb e=>eb b o hb e) f0 f1 f3 f4 f5⟩
 self:=fun _ _ _ _ _ st h=>wpAny_pyIter_rangeiter st h
section
variable{X:Cx}{tg:Expr}
def GO(K:PySem.W.Frag)(tl:TE):TI:=fun σ H R=>tl σ H fun x H1=>∃ a,x=.ref a∧(∃ xs,aL K H1 a xs)∧R (FJ K a) H1
def Lf(K:PySem.W.Frag)(tl:TE):TI:=fun σ H R=>tl σ H fun x H1=>∃ a,x=.ref a∧(∃ xs,lP K H1 a xs)∧R (LH K a) H1
theorem Ie(hl:PE X l tl):PI X tg l (GO X.K tl):=by
 intro pins s σ H R I h;refine dL (hl pins s σ H _ I h) fun v s1 y=>?_
 obtain⟨x,H1,I1,r1,q1⟩:=y;obtain⟨a,e,⟨xs,hq⟩,q⟩:=q1;subst e;cases r1;obtain⟨its,rv,p,hz⟩:=I1.list hq;refine wpAny_pyIter_list p.isList ?_
 refine⟨s1.heap.objs.size,[s1.heap.objs.size],_,_,H1,rfl,I1.kept (t':=s1.toks) fun b o e=>Heap.get?_push_of_some _ e,Ev a _,⟨_,Heap.get?_push_size _ rfl,rfl,rfl⟩,fun b hb=>?_,q⟩
 have e:b=s1.heap.objs.size:=by simpa using hb
 subst e;exact I1.fpOk (Nat.le_refl _) (I1.hok.fresh (Nat.le_refl _))
theorem KQ(hl:PE X l tl):PI X tg l (Lf X.K tl):=by
 intro pins s σ H R I h;refine dL (hl pins s σ H _ I h) fun v s1 y=>?_
 obtain⟨x,H1,I1,r1,q1⟩:=y;obtain⟨a,e,⟨xs,hq⟩,q⟩:=q1;subst e;cases r1;obtain⟨its,rv,p,hz⟩:=I1.tuple hq;refine wpAny_pyIter_tuple (show s1.heap.IsTuple a its.toArray from p) ?_
 refine⟨s1.heap.objs.size,[s1.heap.objs.size],_,_,H1,rfl,I1.kept (t':=s1.toks) fun b o e=>Heap.get?_push_of_some _ e,B8 a _,⟨_,Heap.get?_push_size _ rfl,rfl,rfl⟩,fun b hb=>?_,q⟩
 have e:b=s1.heap.objs.size:=by simpa using hb
 subst e;exact I1.fpOk (Nat.le_refl _) (I1.hok.fresh (Nat.le_refl _))
theorem Gd{pins:List (Addr×Obj)}{σ:St}{H:Hp}{s:Shared}{R:It→Hp→Prop}{E:Value→Shared→Prop}{lo hi:Int}{t u v:Tok}{tk:Nat}(I:Inv X pins σ H s)(h1:-(2 ^ 62)≤lo)(h2:lo<2 ^ 62)(h3:-(2 ^ 62)≤hi)(h4:hi<2 ^ 62)
  (q:R (Jj lo (hi - lo).toNat) H):wpAny (model X.prog X.w) X.A (pyIter (.ref s.heap.objs.size)) (OD X pins σ tg R) E { s with heap:=s.heap.push { cls:=.type "range",data:=.fields #[.int lo t,.int hi u,.int 1 v] },toks:=tk }:=by
 refine wpAny_pyIter_range (IsRange.new ..) (small_one h1 h2 h3 h4) ?_
 have I1:Inv X pins σ H { s with heap:=s.heap.push { cls:=.type "range",data:=.fields #[.int lo t,.int hi u,.int 1 v] },toks:=tk }:=I.kept fun b o e=>Heap.get?_push_of_some _ e
 refine⟨(s.heap.push { cls:=.type "range",data:=.fields #[.int lo t,.int hi u,.int 1 v] }).objs.size,[(s.heap.push { cls:=.type "range",data:=.fields #[.int lo t,.int hi u,.int 1 v] }).objs.size],_,_,H,rfl,
  I1.kept (t':=tk) fun b o e=>Heap.get?_push_of_some _ e,B9 _ lo (hi - lo).toNat,?_,fun b hb=>?_,q⟩
 ·have e1:lo+((0:Nat):Int)*1=lo:=by simp
  have e2:(((hi - lo).toNat:Nat):Int) - ((0:Nat):Int)=Builtin.Range.rangeSize lo hi 1:=by rw[rangeSize_one];split<;>lia
  show IsRangeIter _ _ (lo+((0:Nat):Int)*1) ((((hi - lo).toNat:Nat):Int) - ((0:Nat):Int)) 1;rw[e1,e2];exact Heap.get?_push_size _ rfl
 ·have e:b=(s.heap.push { cls:=.type "range",data:=.fields #[.int lo t,.int hi u,.int 1 v] }).objs.size:=by simpa using hb
  subst e;exact I1.fpOk (Nat.le_refl _) (I1.hok.fresh (Nat.le_refl _))
def JT(ta:TA):TI:=fun σ H R=>ta σ H fun vs H1=>∃ j:Int,vs=[.int j]∧-(2 ^ 62)≤j∧j<2 ^ 62∧R (Jj 0 j.toNat) H1
def M9(ta:TA):TI:=fun σ H R=>ta σ H fun vs H1=>∃ i j:Int,vs=[.int i,.int j]∧(-(2 ^ 62)≤i∧i<2 ^ 62∧-(2 ^ 62)≤j∧j<2 ^ 62)∧R (Jj i (j - i).toNat) H1
theorem gL{a:Expr}{ta:TA}{p pos:Pos}(hg:Gl X "range")(hm:X.mg "range"=none)(ha:PA X [a] ta)(hs:starEach [a] X.env=[(false,eval a X.env)]:=by rfl):PI X tg (.Call (.Name "range" p) [a] [] pos) (JT ta):=by
 intro pins s σ H R I h;refine Call_ (ra I hg hm boot_range (PyProof.Rows.callWith_type1 (dL (ha pos pins s σ H _ I h) fun us s1 ⟨vs,H1,I1,r1,q1⟩=>?_) hs rfl))
 obtain⟨j,e,q1,q2,q⟩:=q1;subst e
 cases r1 with
 | cons r rr =>
  cases rr;obtain⟨t,rfl⟩:=r
  exact call_range_1 (Gd I1 (by lia) (by lia) q1 q2 (by simpa using q))
def LZ(wi:TI)(g:TG)(tb:TS):TS:=fun D σ H=>wi σ H fun J H1=>∃ W:Nat→Nat→St→Hp→Prop,(∃ m,W 0 m σ H1)∧∀ i m σ H,W i m σ H →
 (J.stop i H∧D.nx σ H)∨(J.go i H∧∃ N:St→Hp→Prop,(∀ σ' H',N σ' H'→∃ m',m'<m∧W (i+1) m' σ' H')∧∀ x H',J.yld i H x H'→g x σ H' fun σ2 H2=>tb { D with nx:=N,ct:=N,bk:=D.nx } σ2 H2)
def u6(fp:List Addr)(h:Heap):List (Addr×Obj):=fp.filterMap fun b=>(h.get? b).map fun o=>(b,o)
theorem oY(hb:b∈fp)(e:h.get? b=some o):(b,o)∈u6 fp h:=List.mem_filterMap.mpr ⟨b,hb,by rw[e];rfl⟩
theorem EU(hp:p∈u6 fp h):p.1∈fp∧h.get? p.1=some p.2:=by
 obtain⟨b,hb,e⟩:=List.mem_filterMap.mp hp
 cases q:h.get? b with
 | none=>rw[q] at e;cases e
 | some o =>
  rw[q] at e;have e':(b,o)=p:=Option.some.inj e;subst e'
  exact⟨hb,q⟩
theorem Inv.pinned(I:Inv X pins σ H s)(hf:∀ b∈fp,tY X pins H b)(ho:∀ b∈fp,∃ o,s.heap.get? b=some o∧∀ v,o.data≠.cell v):Inv X (pins++u6 fp s.heap) σ H s :=
 I.pins_of fun p hp=>(List.mem_append.mp hp).elim (fun z=>I.pin p (List.mem_append_right _ z)) fun z=>by
  obtain⟨hb,e⟩:=EU z;obtain⟨f0,f1,f2,_⟩:=hf p.1 hb;obtain⟨o,e',d⟩:=ho p.1 hb;rw[e] at e';cases e'
  exact⟨e,f0,f1,f2,d⟩
theorem Inv.unpinned(I:Inv X (pins++pl) σ H s):Inv X pins σ H s:=I.pins_of fun p hp=>I.pin p (List.mem_append_right _ (List.mem_append_left _ hp))
theorem dS{pos:Pos}(hp:PassesOwn (model X.prog X.w) X.A X.env X.xe)(hc:X.calm=true)(hi:PI X tg iter wi)(hg:PG X tg g)(hb:BY X body tb)
  (hs:∀ x,foldedSetIterable iter X.env x=pure x:=by intro _;rfl):PS X (.For tg iter body [] pos) (LZ wi g tb):=by
 intro pins s σ H D I h;refine wpAny_For (dL (hi pins s σ H _ I h) fun v s1 h1=>dL h1 fun itv s2 h2=>?_) hs
 obtain⟨it,fp,tn,J,H2,e,I2,T,FH,f2,W,⟨m0,w0⟩,turn⟩:=h2;subst e;have stat:∀ {H':Hp},(∀ b∈fp,H' b=none)→∀ b∈fp,tY X pins H' b:=fun hn b hb=>⟨hn b hb,(f2 b hb).2⟩
 refine codeAny_forLoop_any (fun n s'=>∃ i σ' H',Inv X pins σ' H' s'∧tn i s'.heap∧(∀ b∈fp,H' b=none)∧W i n σ' H') ?_ m0 ⟨0,σ,H2,I2,FH,fun b hb=>(f2 b hb).1,w0⟩
 rintro n s3 ⟨i,σ3,H3,I3,FV,fr3,w3⟩
 rcases turn i n σ3 H3 w3 with ⟨stop,qn⟩ | ⟨go,N,hN,step⟩
 ·refine wpAny_passesOwn hp (dL (T.done X rfl rfl rfl hc i pins s3 σ3 H3 X.xe I3 (stat fr3) FV stop) fun r s4 y=>?_)
  obtain⟨hr,I4⟩:=y;subst hr;exact wpAny_execs_nil ⟨σ3,H3,I4,qn⟩
 ·refine wpAny_passesOwn hp (dL (T.item X rfl rfl rfl hc i pins s3 σ3 H3 X.xe I3 (stat fr3) FV go) fun r s4 y=>?_)
  obtain⟨u,hr,h4⟩:=y;subst hr;refine wpAny_passesOwn hp (dL h4 fun _ s5 y=>?_)
  obtain⟨x,H5,I5,r5,y5,FF,fr5⟩:=y;have I5':=I5.pinned (stat fr5) (T.obj _ _ FF);refine wpAny_passesOwn hp (dL (hg _ s5 σ3 H5 x u _ I5' r5 (step x H5 y5)) fun _ s6 y=>?_)
  obtain⟨σ6,H6,I6,q6⟩:=y;refine wpAny_passesOwn hp (dL (hb _ s6 σ6 H6 _ I6 q6) fun f s7 q7=>?_)
  have again:∀ {σ7:St}{H7:Hp},Inv X (pins++u6 fp s5.heap) σ7 H7 s7→N σ7 H7→∃ m,m<n∧∃ i σ' H',Inv X pins σ' H' s7∧tn i s7.heap∧(∀ b∈fp,H' b=none)∧W i m σ' H':=fun {σ7 H7} I7 n7=>by
   obtain⟨m',hm,w7⟩:=hN σ7 H7 n7;refine⟨m',hm,i+1,σ7,H7,I7.unpinned,T.keep _ _ _ FF fun b hb o e=>(I7.pin (b,o) (List.mem_append_right _ (List.mem_append_right _ (oY hb e)))).1,fun b hb=>?_,w7⟩
   obtain⟨o,e,d⟩:=T.obj _ _ FF b hb;exact (I7.pin (b,o) (List.mem_append_right _ (List.mem_append_right _ (oY hb e)))).2.1
  cases f with
  | next=>obtain⟨σ7,H7,I7,n7⟩:=q7;exact again I7 n7
  | cont=>obtain⟨σ7,H7,I7,n7⟩:=q7;exact again I7 n7
  | brk=>obtain⟨σ7,H7,I7,q7⟩:=q7;exact⟨σ7,H7,I7.unpinned,q7⟩
  | ret v=>obtain⟨x7,σ7,H7,I7,r7,q7⟩:=q7;exact⟨x7,σ7,H7,I7.unpinned,r7,q7⟩
end
theorem GZ{K:PySem.W.Frag}{a:Addr}{xs:List V}{g:TG}{tb:TS}{D:om}{σ:St}{H:Hp}(Pv:Nat→St→Hp→Prop)(h0:Pv 0 σ H)(hl:∀ i σ H,i≤xs.length→Pv i σ H→aL K H a xs)
  (hs:∀ i x σ H,xs[i]?=some x→Pv i σ H→g x σ H fun σ2 H2=>tb { D with nx:=Pv (i+1),ct:=Pv (i+1),bk:=D.nx } σ2 H2) (hd:∀ σ H,Pv xs.length σ H→D.nx σ H) :
  ∃ W:Nat→Nat→St→Hp→Prop,(∃ m,W 0 m σ H)∧∀ i m σ H,W i m σ H →
   ((FJ K a).stop i H∧D.nx σ H)∨((FJ K a).go i H∧∃ N:St→Hp→Prop,(∀ σ' H',N σ' H'→∃ m',m'<m∧W (i+1) m' σ' H')∧∀ x H',(FJ K a).yld i H x H'→g x σ H' fun σ2 H2=>tb { D with nx:=N,ct:=N,bk:=D.nx } σ2 H2):=by
 refine⟨fun i m σ H=>m=xs.length - i∧i≤xs.length∧Pv i σ H,⟨xs.length,by simp,Nat.zero_le _,h0⟩,?_⟩
 rintro i m σ H ⟨rfl,hi,p⟩
 have q:=hl i σ H hi p
 by_cases hlt:i<xs.length
 ·refine .inr ⟨⟨xs,xs[i],q,by simp[hlt]⟩,Pv (i+1),fun σ' H' p'=>⟨xs.length - (i+1),by lia,rfl,hlt,p'⟩,fun x H' y=>?_⟩
  obtain⟨e,y⟩:=y;subst e;exact hs i x σ _ (y xs q) p
 ·have e:i=xs.length:=by lia
  subst e;exact .inl ⟨⟨xs,q,Nat.le_refl _⟩,hd σ H p⟩
theorem IN{K:PySem.W.Frag}{a:Addr}{xs:List V}{g:TG}{tb:TS}{D:om}{σ:St}{H:Hp}(Pv:Nat→St→Hp→Prop)(h0:Pv 0 σ H)(hl:∀ i σ H,i≤xs.length→Pv i σ H→lP K H a xs)
  (hs:∀ i x σ H,xs[i]?=some x→Pv i σ H→g x σ H fun σ2 H2=>tb { D with nx:=Pv (i+1),ct:=Pv (i+1),bk:=D.nx } σ2 H2) (hd:∀ σ H,Pv xs.length σ H→D.nx σ H) :
  ∃ W:Nat→Nat→St→Hp→Prop,(∃ m,W 0 m σ H)∧∀ i m σ H,W i m σ H →
   ((LH K a).stop i H∧D.nx σ H)∨((LH K a).go i H∧∃ N:St→Hp→Prop,(∀ σ' H',N σ' H'→∃ m',m'<m∧W (i+1) m' σ' H')∧∀ x H',(LH K a).yld i H x H'→g x σ H' fun σ2 H2=>tb { D with nx:=N,ct:=N,bk:=D.nx } σ2 H2):=by
 refine⟨fun i m σ H=>m=xs.length - i∧i≤xs.length∧Pv i σ H,⟨xs.length,by simp,Nat.zero_le _,h0⟩,?_⟩
 rintro i m σ H ⟨rfl,hi,p⟩
 have q:=hl i σ H hi p
 by_cases hlt:i<xs.length
 ·refine .inr ⟨⟨xs,xs[i],q,by simp[hlt]⟩,Pv (i+1),fun σ' H' p'=>⟨xs.length - (i+1),by lia,rfl,hlt,p'⟩,fun x H' y=>?_⟩
  obtain⟨e,y⟩:=y;subst e;exact hs i x σ _ (y xs q) p
 ·have e:i=xs.length:=by lia
  subst e;exact .inl ⟨⟨xs,q,Nat.le_refl _⟩,hd σ H p⟩
theorem E9{lo:Int}{n:Nat}{g:TG}{tb:TS}{D:om}(Pv:Nat→St→Hp→Prop)(h0:Pv 0 σ H)
  (hs:∀ i σ H,i<n→Pv i σ H→g (.int (lo+i)) σ H fun σ2 H2=>tb { D with nx:=Pv (i+1),ct:=Pv (i+1),bk:=D.nx } σ2 H2) (hd:∀ σ H,Pv n σ H→D.nx σ H) :
  ∃ W:Nat→Nat→St→Hp→Prop,(∃ m,W 0 m σ H)∧∀ i m σ H,W i m σ H →
   ((Jj lo n).stop i H∧D.nx σ H)∨((Jj lo n).go i H∧∃ N:St→Hp→Prop,(∀ σ' H',N σ' H'→∃ m',m'<m∧W (i+1) m' σ' H')∧∀ x H',(Jj lo n).yld i H x H'→g x σ H' fun σ2 H2=>tb { D with nx:=N,ct:=N,bk:=D.nx } σ2 H2):=by
 refine⟨fun i m σ H=>m=n - i∧i≤n∧Pv i σ H,⟨n,by simp,Nat.zero_le _,h0⟩,?_⟩
 rintro i m σ H ⟨rfl,hi,p⟩
 by_cases hlt:i<n
 ·refine .inr ⟨hlt,Pv (i+1),fun σ' H' p'=>⟨n - (i+1),by lia,rfl,hlt,p'⟩,fun x H' y=>?_⟩
  obtain⟨e,y⟩:=y;subst e y;exact hs i σ _ hlt p
 ·have e:i=n:=by lia
  subst e;exact .inl ⟨Nat.le_refl _,hd σ H p⟩
abbrev R2:=V→V→Hp→VK→Prop
def ol(X:Cx)(f:Value→Value→Sem Value)(r:R2):Prop :=
 ∀ (pins:List (Addr×Obj)) (s:Shared) (σ:St) (H:Hp) (x y:V) (v u:Value) (Q:VK),Inv X pins σ H s→cG x v→cG y u→r x y H Q →
  wpAny (model X.prog X.w) X.A (f v u) (EP X pins σ Q) X.xe s
def Oz(X:Cx)(f:Value→Sem Value)(r:V→Hp→VK→Prop):Prop :=
 ∀ (pins:List (Addr×Obj)) (s:Shared) (σ:St) (H:Hp) (x:V) (v:Value) (Q:VK),Inv X pins σ H s→cG x v→r x H Q →
  wpAny (model X.prog X.w) X.A (f v) (EP X pins σ Q) X.xe s
def jw(X:Cx)(f:Value)(r:List V→Hp→VK→Prop):Prop :=
 ∀ (pins:List (Addr×Obj)) (s:Shared) (σ:St) (H:Hp) (xs:List V) (us:List Value) (Q:VK),Inv X pins σ H s→bo xs us→r xs H Q →
  wpAny (model X.prog X.w) X.A (call f us) (EP X pins σ Q) X.xe s
def Hm(r:R2)(ta tb:TE):TE:=fun σ H Q=>ta σ H fun x H1=>tb σ H1 fun y H2=>r x y H2 Q
def OK(r:V→Hp→VK→Prop)(ta:TE):TE:=fun σ H Q=>ta σ H fun x H1=>r x H1 Q
def rI(C:Int→Int→Prop)(g:Int→Int→V):R2:=fun x y H Q=>NS x y fun i j=>C i j∧Q (g i j) H
def Ge(g:Int→Int→V):R2:=fun x y H Q=>NS x y fun i j=>Q (g i j) H
def rU(g:Int→V):V→Hp→VK→Prop:=fun x H Q=>OS x fun i=>Q (g i) H
section
variable{X:Cx}{a b c:Expr}{ta tb tc:TE}{pos:Pos}
theorem Lw(ha:PE X a ta)(hb:PE X b tb){R:V→V→Hp→Prop}(I:Inv X pins σ H s)
  (h:ta σ H fun x H1=>tb σ H1 fun y H2=>R x y H2) {Q:Value→Shared→Prop}{f:Value→Value→Sem Value}
  (hf:∀ v u s2 x y H2,Inv X pins σ H2 s2→cG x v→cG y u→R x y H2→wpAny (model X.prog X.w) X.A (f v u) Q X.xe s2) :
  wpAny (model X.prog X.w) X.A (eval a X.env) (fun v s₁=>wpAny (model X.prog X.w) X.A (eval b X.env) (fun u s₂=>wpAny (model X.prog X.w) X.A (f v u) Q X.xe s₂) X.xe s₁) X.xe s:=by
 refine dL (ha pins s σ H _ I h) fun v s1 y=>?_
 obtain⟨x,H1,I1,r1,q1⟩:=y;refine dL (hb pins s1 σ H1 _ I1 q1) fun u s2 yy=>?_
 obtain⟨y,H2,I2,r2,q2⟩:=yy;exact hf v u s2 x y H2 I2 r1 r2 q2
theorem aq(ho:ol X (binaryOp op) r)(ha:PE X a ta)(hb:PE X b tb):PE X (.BinOp a op b pos) (Hm r ta tb):=by
 intro pins s σ H Q I h;exact wpAny_BinOp (Lw ha hb I h fun v u s2 x y H2 I2 rx ry q=>ho pins s2 σ H2 x y v u Q I2 rx ry q)
theorem Az(ho:Oz X (unaryOp op) r)(ha:PE X a ta):PE X (.UnaryOp op a pos) (OK r ta):=by
 intro pins s σ H Q I h;exact UnaryOp_ (dL (ha pins s σ H _ I h) fun v s1 ⟨x,H1,I1,r1,q1⟩=>ho pins s1 σ H1 x v Q I1 r1 q1)
theorem M1{f:Value→Value→Sem Value}{C:Int→Int→Prop}{g:Int→Int→Int}
  (rule:∀ (i j:Int) (t u:Tok) (s:Shared) (Q:Value→Shared→Prop) (E:Value→Shared→Prop),C i j→Q (.int (g i j) s.toks) { s with toks:=s.toks+1 }→wpAny (model X.prog X.w) X.A (f (.int i t) (.int j u)) Q E s) :
  ol X f (rI C fun i j=>.int (g i j)):=by
 intro pins s σ H x y v u Q I rx ry h;obtain⟨i,j,rfl,rfl,hc,q⟩:=ve h;obtain⟨t,rfl⟩:=rx;obtain⟨t',rfl⟩:=ry;exact rule i j t t' s _ _ hc ⟨.int (g i j),H,I.tok _,⟨_,rfl⟩,q⟩
theorem Io{f:Value→Value→Sem Value}{g:Int→Int→Int}
  (rule:∀ (i j:Int) (t u:Tok) (s:Shared) (Q:Value→Shared→Prop) (E:Value→Shared→Prop),Q (.int (g i j) s.toks) { s with toks:=s.toks+1 }→wpAny (model X.prog X.w) X.A (f (.int i t) (.int j u)) Q E s) :
  ol X f (Ge fun i j=>.int (g i j)):=by
 intro pins s σ H x y v u Q I rx ry h;obtain⟨i,j,rfl,rfl,q⟩:=ve h;obtain⟨t,rfl⟩:=rx;obtain⟨t',rfl⟩:=ry;exact rule i j t t' s _ _ ⟨.int (g i j),H,I.tok _,⟨_,rfl⟩,q⟩
theorem Ip{f:Value→Value→Sem Value}{g:Int→Int→Bool}
  (rule:∀ (i j:Int) (t u:Tok) (s:Shared) (Q:Value→Shared→Prop) (E:Value→Shared→Prop),Q (.bool (g i j)) s→wpAny (model X.prog X.w) X.A (f (.int i t) (.int j u)) Q E s) :
  ol X f (Ge fun i j=>.bl (g i j)):=by
 intro pins s σ H x y v u Q I rx ry h;obtain⟨i,j,rfl,rfl,q⟩:=ve h;obtain⟨t,rfl⟩:=rx;obtain⟨t',rfl⟩:=ry;exact rule i j t t' s _ _ ⟨.bl (g i j),H,I,rfl,q⟩
def OH(i j:Int):Prop:=0<j∧j<1073741824
def Jk(i j:Int):Prop:=0≤j∧j≤1000000∧i.natAbs<2 ^ 64
theorem B7(k:Nat):(0:Int)≤2 ^ k:=by
 rw[two_pow_cast];exact Int.natCast_nonneg _
theorem bn:ol X (binaryOp .Add) (Ge fun i j=>.int (i+j)):=Io fun _ _ _ _ _ _ _ q=>add_int q
theorem ig:ol X (binaryOp .Sub) (Ge fun i j=>.int (i - j)):=Io fun _ _ _ _ _ _ _ q=>sub_int q
theorem gd:ol X (binaryOp .FloorDiv) (rI OH fun i j=>.int (i / j)):=M1 fun i j _ _ _ _ _ hc q=>by
 have h1:(0:Int)<j:=hc.1;have h2:j<1073741824:=hc.2;exact floordiv_int (by lia) (by rw[Int.fdiv_eq_ediv_of_nonneg i (by lia)];exact q) (.inl (PyProof.noPylong_small (by lia)))
theorem eR:ol X (binaryOp .Mod) (rI (fun _ j=>0<j) fun i j=>.int (i % j)):=M1 fun i j _ _ _ _ _ hc q=>by
 have h1:(0:Int)<j:=hc;exact mod_int' (by lia) (by rw[Int.fmod_eq_emod_of_nonneg i (by lia)];exact q)
theorem kJ:ol X (binaryOp .LShift) (rI Jk fun i j=>.int (i*2 ^ j.toNat)):=M1 fun _ _ _ _ _ _ _ hc q=>lshift_int_small hc.1 hc.2.1 hc.2.2 q
theorem vd:ol X (binaryOp .RShift) (rI (fun _ j=>0≤j) fun i j=>.int (i / 2 ^ j.toNat)):=M1 fun i j _ _ _ _ _ hc q =>
 rshift_int hc (by rw[Int.fdiv_eq_ediv_of_nonneg i (B7 _)];exact q)
theorem CA:ol X (binaryOp .BitAnd) (Ge fun i j=>.int (Builtin.bitAnd i j)):=Io fun _ _ _ _ _ _ _ q=>and_int q
theorem Lc:ol X (inplaceOp .BitOr) (Ge fun i j=>.int (Builtin.bitOr i j)):=Io fun _ _ _ _ _ _ _ q=>ior_int q
theorem OY{f:Value→Sem Value}{g:Int→Int}
  (rule:∀ (i:Int) (t:Tok) (s:Shared) (Q:Value→Shared→Prop) (E:Value→Shared→Prop),Q (.int (g i) s.toks) { s with toks:=s.toks+1 }→wpAny (model X.prog X.w) X.A (f (.int i t)) Q E s) :
  Oz X f (rU fun i=>.int (g i)):=by
 intro pins s σ H x v Q I rx h;obtain⟨i,rfl,q⟩:=KZ h;obtain⟨t,rfl⟩:=rx;exact rule i t s _ _ ⟨.int (g i),H,I.tok _,⟨_,rfl⟩,q⟩
theorem uq:Oz X (unaryOp .USub) (rU fun i=>.int (-i)):=OY fun _ _ _ _ _ q=>neg_int q
end
def MH:V→V→Bool
 | .non,.non=>true | .non,.int _=>true | .int _,.non=>true | .non,.bl _=>true | .bl _,.non=>true | .non,.str _=>true | .str _,.non=>true
 | .int _,.int _=>true | .bl _,.bl _=>true | .str _,.str _=>true | .byt _,.byt _=>true
 | .int _,.str _=>true | .str _,.int _=>true | .bl _,.str _=>true | .str _,.bl _=>true
 | _,_=>false
def Ou:V→V→(Bool→Prop)→Prop
 | .int a,.int b,k=>k (decide (a=b))
 | .bl a,.bl b,k=>k (decide (a=b))
 | x,y,k=>MH x y=true∧k (decide (x=y))
theorem G4(h:Ou x y k):MH x y=true∧k (decide (x=y)):=by
 cases x with
 | int a =>
  cases y with
  | int b =>
   refine⟨rfl,?_⟩;rw[show decide (V.int a=V.int b)=decide (a=b) from decide_eq_decide.2 ⟨fun e=>V.int.inj e,fun e=>congrArg V.int e⟩];exact h
  | _=>exact h
 | bl a =>
  cases y with
  | bl b =>
   refine⟨rfl,?_⟩;rw[show decide (V.bl a=V.bl b)=decide (a=b) from decide_eq_decide.2 ⟨fun e=>V.bl.inj e,fun e=>congrArg V.bl e⟩];exact h
  | _=>exact h
 | _=>exact h
def Oh:R2:=fun x y H Q=>Ou x y fun b=>Q (.bl b) H
def OR:R2:=fun x y H Q=>Ou x y fun b=>Q (.bl (!b)) H
theorem Ej:decide (V.int i=V.int j)=(i==j):=by
 rw[Bool.eq_iff_iff]
 simp
theorem G8:decide (V.bl i=V.bl j)=(i==j):=by
 rw[Bool.eq_iff_iff]
 simp
theorem Ei:decide (V.str i=V.str j)=(i==j):=by
 rw[Bool.eq_iff_iff]
 simp
theorem Ek:decide (V.byt i=V.byt j)=(i.toList==j.toList):=by
 rw[Bool.eq_iff_iff];cases i;cases j
 simp
section
variable{X:Cx}{a b c:Expr}{ta tb tc:TE}{pos:Pos}
theorem bW(I:Inv X pins σ H s)(q:Q (.bl k) H)(e:k=k'):EP X pins σ Q (.bool k') s:=by
 subst e
 exact⟨.bl k,H,I,rfl,q⟩
theorem cI:ol X (compareOp .Eq) Oh:=by
 intro pins s σ H x y v u Q I rx ry h;obtain⟨hs,q⟩:=G4 h
 cases x with
 | non =>
  cases rx
  cases y with
  | non=>cases ry;exact PySem.EqNone.eq_none_none (bW I q (by simp))
  | bl j=>cases ry;exact PySem.EqNone.eq_none_bool (bW I q (by simp))
  | int j=>obtain⟨t',rfl⟩:=ry;exact PySem.EqNone.eq_none_int (bW I q (by simp))
  | str j=>obtain⟨t',rfl⟩:=ry;exact PySem.EqNone.eq_none_str (bW I q (by simp))
  | _=>exact absurd (show false=true from hs) Bool.false_ne_true
 | bl i =>
  cases rx
  cases y with
  | non=>cases ry;exact PySem.EqNone.eq_bool_none (bW I q (by simp))
  | bl j=>cases ry;exact eq_bool (bW I q G8)
  | str j=>obtain⟨t',rfl⟩:=ry;exact PySem.EqMixed.eq_bool_str (bW I q (by simp))
  | _=>exact absurd (show false=true from hs) Bool.false_ne_true
 | int i =>
  obtain⟨t,rfl⟩:=rx
  cases y with
  | non=>cases ry;exact PySem.EqNone.eq_int_none (bW I q (by simp))
  | int j=>obtain⟨t',rfl⟩:=ry;exact eq_int (bW I q Ej)
  | str j=>obtain⟨t',rfl⟩:=ry;exact PySem.EqMixed.eq_int_str (bW I q (by simp))
  | _=>exact absurd (show false=true from hs) Bool.false_ne_true
 | str i =>
  obtain⟨t,rfl⟩:=rx
  cases y with
  | non=>cases ry;exact PySem.EqNone.eq_str_none (bW I q (by simp))
  | bl j=>cases ry;exact PySem.EqMixed.eq_str_bool (bW I q (by simp))
  | int j=>obtain⟨t',rfl⟩:=ry;exact PySem.EqMixed.eq_str_int (bW I q (by simp))
  | str j=>obtain⟨t',rfl⟩:=ry;exact eq_str (bW I q Ei)
  | _=>exact absurd (show false=true from hs) Bool.false_ne_true
 | byt i =>
  obtain⟨t,rfl⟩:=rx
  cases y with
  | byt j=>obtain⟨t',rfl⟩:=ry;exact PySem.W.eq_bytes (bW I q Ek)
  | _=>exact absurd (show false=true from hs) Bool.false_ne_true
 | _=>cases y<;>exact absurd (show false=true from hs) Bool.false_ne_true
theorem il:ol X (compareOp .NotEq) OR:=by
 intro pins s σ H x y v u Q I rx ry h;obtain⟨hs,q⟩:=G4 h
 cases x with
 | non =>
  cases rx
  cases y with
  | non=>cases ry;exact PySem.EqNone.ne_none_none (bW I q (by simp))
  | bl j=>cases ry;exact PySem.EqNone.ne_none_bool (bW I q (by simp))
  | int j=>obtain⟨t',rfl⟩:=ry;exact PySem.EqNone.ne_none_int (bW I q (by simp))
  | str j=>obtain⟨t',rfl⟩:=ry;exact PySem.EqNone.ne_none_str (bW I q (by simp))
  | _=>exact absurd (show false=true from hs) Bool.false_ne_true
 | bl i =>
  cases rx
  cases y with
  | non=>cases ry;exact PySem.EqNone.ne_bool_none (bW I q (by simp))
  | bl j=>cases ry;exact ne_bool (bW I q (congrArg not G8))
  | str j=>obtain⟨t',rfl⟩:=ry;exact PySem.EqMixed.ne_bool_str (bW I q (by simp))
  | _=>exact absurd (show false=true from hs) Bool.false_ne_true
 | int i =>
  obtain⟨t,rfl⟩:=rx
  cases y with
  | non=>cases ry;exact PySem.EqNone.ne_int_none (bW I q (by simp))
  | int j=>obtain⟨t',rfl⟩:=ry;exact ne_int (bW I q (congrArg not Ej))
  | str j=>obtain⟨t',rfl⟩:=ry;exact PySem.EqMixed.ne_int_str (bW I q (by simp))
  | _=>exact absurd (show false=true from hs) Bool.false_ne_true
 | str i =>
  obtain⟨t,rfl⟩:=rx
  cases y with
  | non=>cases ry;exact PySem.EqNone.ne_str_none (bW I q (by simp))
  | bl j=>cases ry;exact PySem.EqMixed.ne_str_bool (bW I q (by simp))
  | int j=>obtain⟨t',rfl⟩:=ry;exact PySem.EqMixed.ne_str_int (bW I q (by simp))
  | str j=>obtain⟨t',rfl⟩:=ry;exact ne_str (bW I q (congrArg not Ei))
  | _=>exact absurd (show false=true from hs) Bool.false_ne_true
 | byt i =>
  obtain⟨t,rfl⟩:=rx
  cases y with
  | byt j=>obtain⟨t',rfl⟩:=ry;exact PySem.W.ne_bytes (bW I q (congrArg not Ek))
  | _=>exact absurd (show false=true from hs) Bool.false_ne_true
 | _=>cases y<;>exact absurd (show false=true from hs) Bool.false_ne_true
theorem kb:ol X (compareOp .Lt) (Ge fun i j=>.bl (decide (i<j))):=Ip fun _ _ _ _ _ _ _ q=>lt_int q
theorem gz:ol X (compareOp .LtE) (Ge fun i j=>.bl (decide (i≤j))):=Ip fun _ _ _ _ _ _ _ q=>le_int q
theorem mM:ol X (compareOp .Gt) (Ge fun i j=>.bl (decide (j<i))):=Ip fun _ _ _ _ _ _ _ q=>gt_int q
theorem AB:ol X (compareOp .GtE) (Ge fun i j=>.bl (decide (j≤i))):=Ip fun _ _ _ _ _ _ _ q=>ge_int q
theorem iO:ol X (compareOp .Is) (fun x y H Q=>y=.non∧Q (.bl (decide (x=.non))) H):=by
 intro pins s σ H x y v u Q I rx ry h;obtain⟨rfl,q⟩:=h;cases ry;refine is_none_gen (bW I q ?_)
 cases x<;>first
  | (cases rx;rfl)
  | (obtain⟨t,rfl⟩:=rx;rfl)
theorem yU:ol X (compareOp .IsNot) (fun x y H Q=>y=.non∧Q (.bl (!decide (x=.non))) H):=by
 intro pins s σ H x y v u Q I rx ry h;obtain⟨rfl,q⟩:=h;cases ry;refine isnot_none_gen (bW I q ?_)
 cases x<;>first
  | (cases rx;rfl)
  | (obtain⟨t,rfl⟩:=rx;rfl)
theorem fo(b:Expr)(h:op≠.In:=by decide)(h2:op≠.NotIn:=by decide):behindInMarks op b=false:=by
 have e1:(op==CmpOp.In)=false:=by cases op<;>first | rfl | exact absurd rfl h
 have e2:(op==CmpOp.NotIn)=false:=by cases op<;>first | rfl | exact absurd rfl h2
 cases b<;>simp[behindInMarks,e1,e2]
theorem Ik(ho:ol X (compareOp op) r)(ha:PE X a ta)(hb:PE X b tb)(hm:behindInMarks op b=false):PE X (.Compare a [op] [b] pos) (Hm r ta tb):=by
 intro pins s σ H Q I h;exact wpAny_Compare1 (Lw ha hb I h fun v u s2 x y H2 I2 rx ry q=>ho pins s2 σ H2 x y v u Q I2 rx ry q) hm
def Dt(t:TE):TT:=fun σ H Q=>t σ H fun x H'=>Ir x fun k=>Q k H'
theorem du(ho:ol X (compareOp op) r)(ha:PE X a ta)(hb:PE X b tb)(hm:behindInMarks op b=false):PT X (.Compare a [op] [b] pos) (Dt (Hm r ta tb)):=by
 intro pins s σ H Q I h;refine wpAny_isTrue_Compare1 (dL (ha pins s σ H _ I h) fun v s1 ⟨x,H1,I1,r1,q1⟩=>dL (hb pins s1 σ H1 _ I1 q1) fun u s2 ⟨y,H2,I2,r2,q2⟩ =>
  dL (ho pins s2 σ H2 x y v u _ I2 r1 r2 q2) fun c s3 ⟨z,H3,I3,r3,q3⟩=>?_) hm
 obtain⟨k,e,q3⟩:=kK q3;subst e;cases r3;exact wpAny_truthy_bool ⟨H3,I3,q3⟩
def Cd(r r':R2)(ta tb tc:TE):TE:=fun σ H Q=>ta σ H fun x H1=>tb σ H1 fun y H2=>r x y H2 fun z H3=>Ir z fun k =>
 (if k=true then tc σ H3 fun w' H4=>r' y w' H4 Q else Q (.bl false) H3)
theorem iN(ho:ol X (compareOp op) r)(ho':ol X (compareOp op') r')(ha:PE X a ta)(hb:PE X b tb)(hc:PE X c tc)
  (hm:lastMarks [op,op'] [b,c]=false:=by with_unfolding_all rfl):PE X (.Compare a [op,op'] [b,c] pos) (Cd r r' ta tb tc):=by
 intro pins s σ H Q I h;refine Compare_chain (dL (ha pins s σ H _ I h) fun v s1 ⟨x,H1,I1,r1,q1⟩=>chain_link (dL (hb pins s1 σ H1 _ I1 q1) fun u s2 ⟨y,H2,I2,r2,q2⟩ =>
  dL (ho pins s2 σ H2 x y v u _ I2 r1 r2 q2) fun d s3 ⟨z,H3,I3,r3,q3⟩=>?_)) hm
 obtain⟨k,e,q3⟩:=kK q3;subst e;cases r3;refine wpAny_truthy_bool ?_
 cases k with
 | false=>exact ite_ff ⟨.bl false,H3,I3,rfl,q3⟩
 | true=>exact ite_tt (chain_last (dL (hc pins s3 σ H3 _ I3 q3) fun w' s4 ⟨z',H4,I4,r4,q4⟩=>ho' pins s4 σ H4 y z' u w' Q I4 r2 r4 q4))
theorem Gh(ho:ol X (compareOp op) r)(ho':ol X (compareOp op') r')(ha:PE X a ta)(hb:PE X b tb)(hc:PE X c tc)
  (hm:lastMarks [op,op'] [b,c]=false:=by with_unfolding_all rfl):PT X (.Compare a [op,op'] [b,c] pos) (Dt (Cd r r' ta tb tc)):=by
 intro pins s σ H Q I h;refine isTrue_chain (dL (ha pins s σ H _ I h) fun v s1 ⟨x,H1,I1,r1,q1⟩=>test_link (dL (hb pins s1 σ H1 _ I1 q1) fun u s2 ⟨y,H2,I2,r2,q2⟩ =>
  dL (ho pins s2 σ H2 x y v u _ I2 r1 r2 q2) fun d s3 ⟨z,H3,I3,r3,q3⟩=>?_)) hm
 obtain⟨k,e,q3⟩:=kK q3;subst e;cases r3;refine wpAny_truthy_bool ?_
 cases k with
 | false =>
  obtain⟨k',e',q'⟩:=kK q3
  cases e'
  exact ite_ff ⟨H3,I3,q'⟩
 | true =>
  refine ite_tt (test_last (dL (hc pins s3 σ H3 _ I3 q3) fun w' s4 ⟨z',H4,I4,r4,q4⟩=>dL (ho' pins s4 σ H4 y z' u w' _ I4 r2 r4 q4) fun d' s5 yy=>?_))
  obtain⟨z2,H5,I5,r5,q5⟩:=yy;obtain⟨k2,e2,q5⟩:=kK q5;subst e2;cases r5;exact wpAny_truthy_bool ⟨H5,I5,q5⟩
theorem zh:(sizeLine:Nat)<2 ^ 63:=by rw[sizeLine_eq];decide
theorem FN(r:bo [x] us):∃ u,us=[u]∧cG x u:=by
 cases r with
 | cons r1 r2=>cases r2;exact⟨_,rfl,r1⟩
theorem LP(r:bo [x,y] us):∃ u w',us=[u,w']∧cG x u∧cG y w':=by
 cases r with
 | cons r1 r2 =>
  cases r2 with
  | cons r3 r4=>cases r4;exact⟨_,_,rfl,r1,r3⟩
theorem Hb:jw X (.builtin "abs") (fun xs H Q=>∃ i,xs=[.int i]∧Q (.int (if i<0 then -i else i)) H):=by
 intro pins s σ H xs us Q I r h;obtain⟨i,rfl,q⟩:=h;obtain⟨u,rfl,t,rfl⟩:=FN r;exact call_abs_int fun u tk=>⟨.int (if i<0 then -i else i),H,I.tok _,⟨_,rfl⟩,q⟩
theorem yt(hc:X.calm=true):jw X (.builtin "min") (fun xs H Q=>∃ i j,xs=[.int i,.int j]∧Q (.int (if j<i then j else i)) H):=by
 intro pins s σ H xs us Q I r h;obtain⟨i,j,rfl,q⟩:=h;obtain⟨u,w',rfl,⟨t,rfl⟩,⟨t',rfl⟩⟩:=LP r;refine min_two_ints (I.ok.hd hc) fun h' tk k=>⟨_,H,I.kept k,?_,q⟩
 by_cases hj:j<i
 ·rw[if_pos hj,if_pos hj];exact⟨_,rfl⟩
 ·rw[if_neg hj,if_neg hj];exact⟨_,rfl⟩
end
structure Dn(h:Heap)(x dx C:Addr)(mA:Str→Option Value):Prop where
 obj:h.get? x=some (PySem.W.instObj C dx)
 ns:h.Ns1 dx mA
 ne:dx≠x
theorem EY{h:Heap}{dx:Addr}{mA:Str→Option Value}(n:h.Ns1 dx mA):∃ od,h.get? dx=some od∧∀ name,PySem.W.lookIn name od=some (mA name):=by
 obtain⟨o,es,ep,ho,hd,hk,_,hm⟩:=n;refine⟨o,ho,fun name=>?_⟩
 have e:=hm name;unfold nsFind findBy at e;rw[←Array.find?_toList] at e;unfold PySem.W.lookIn;rw[hd];dsimp only
 split
 ·rename_i y q
  rw[q] at e;exact congrArg some e
 ·rename_i q
  rw[q] at e;have a:es.toList.any (·.refKey)=false:=by
   rw[List.any_eq_false];intro y hy;obtain⟨z,t,hkey⟩:=hk y (Array.mem_toList_iff.mp hy);simp[DictEntry.refKey,hkey]
  have a':¬ es.toList.any (·.refKey)=true:=by rw[a];exact Bool.false_ne_true
  rw[if_neg a'];exact congrArg some e
theorem Dn.look(I:Dn h x dx C mA):∃ od,PySem.W.InstAt h x (PySem.W.instObj C dx) C (some od)∧∀ name,PySem.W.lookIn name od=some (mA name) :=
 let ⟨od,ho,hl⟩:=EY I.ns
 ⟨od,⟨I.obj,rfl,rfl,ho⟩,hl⟩
section
variable{prog:Program}{w:World}{A:Around}{E:Value→Shared→Prop}{s:Shared}{K:PySem.W.Frag}{x dx C f:Addr}{mA:Str→Option Value}{name:Str}{v:Value}
theorem IK{expr:Bool}{Q:Value→Shared→Prop}(X:K.In s.heap)(I:Dn s.heap x dx C mA)(hg:PySem.W.plainGet K C name=true)(hh:PySem.W.hasDictIn K C=true)
  (ha:PySem.W.findIn K (.ref C) name=some none) (hv:mA name=some v) (hv':PySem.W.handedIn v=true) (h:Q v { s with toks:=s.toks+1 }) :
  wpAny (model prog w) A (getAttr (.ref x) name expr) Q E s:=by
 obtain⟨od,J,hl⟩:=I.look;exact PySem.W.get_value X J (PySem.W.plainGet_of hg).1 (PySem.W.findObj_own hh ha rfl (by rw[hl,hv])) hv' h
theorem GT{pl:Sem Bool}{Q:Value×List Value→Shared→Prop}(X:K.In s.heap)(I:Dn s.heap x dx C mA)(hg:PySem.W.plainGet K C name=true)
  (hf:PySem.W.findIn K (.ref C) name=some (some (.ref f))) (ht:PySem.W.isFn K (.ref f)=true) (hv:mA name=none) (h:Q (.ref f,[.ref x]) s) :
  wpAny (model prog w) A (getMethod (.ref x) name pl) Q E s:=by
 obtain⟨od,J,hl⟩:=I.look;exact PySem.W.method_fn X J (PySem.W.plainGet_of hg).1 (PySem.W.plainGet_of hg).2 hf (beq_iff_eq.mp ht) (by show (PySem.W.lookIn name od).map (·.isSome)=some false;rw[hl,hv];rfl) h
theorem HL{ns:List Str}{Q:Unit→Shared→Prop}(X:K.In s.heap)(I:Dn s.heap x dx C mA)
  (hs:PySem.W.findIn K (.ref C) "__setattr__"=some (some (.builtin "object.__setattr__"))) (hp:PySem.W.plainOver K C=true) (ht:PySem.W.takerIn K C name=some none) (hh:PySem.W.hasDictIn K C=true)
  (hw:PySem.Within mA ns) (hsz:ns.length≤sizeLine)
  (h:∀ h',Dn h' x dx C (fun y=>if y=name then some v else mA y)→Heap.SameBut dx s.heap h'→Q () { s with heap:=h',toks:=s.toks+2 }) :
  wpAny (model prog w) A (setAttr (.ref x) name v) Q E s:=by
 obtain⟨od,J,hl⟩:=I.look;refine PySem.W.set_plain X J hs (PySem.W.osa_open (s:={ s with toks:=s.toks+1 }) (r:=none) X J hp ht fun b=>?_)
 obtain⟨cd,hc,hd'⟩:=PySem.W.any_some hh;have hx:s.heap.get? x=some ⟨.ref C,some dx,.plain,#[]⟩:=I.obj;refine wpAny_bind (wpAny_pure (wpAny_bind (wpAny_bind (wpAny_loadPart hx (wpAny_bind (PySem.W.Looks.here (s:={ s with toks:=s.toks+1 }) (PySem.W.looks_clsIn X hc) ?_))))))
 rw[hd'];refine wpAny_pure (a:=some dx) (wpAny_bind (wpAny_pure (wpAny_bind ?_)));refine wpAny_nsSet1 (s:={ s with toks:=s.toks+1 }) I.ns fun h' hn2 hs2=>?_
 obtain⟨oD,esD,epD,hoD,hdD,hcD⟩:=hn2.count (PySem.Within.cons name v hw);refine wpAny_bind (wpAny_lookBehind hoD (by rw[hdD];exact pastItsLine_dict (Nat.le_trans hcD (by rw[List.length_cons];lia))) ?_)
 exact wpAny_pure (h _ ⟨(hs2.2 _ (Ne.symm I.ne)).trans I.obj,hn2,I.ne⟩ hs2)
theorem GD{R:Result→Shared→Prop}{vs:List Value}{kw:List (Str×Value)}(X:K.In s.heap)(hm:PySem.W.makesIn K C=true)
  (hi:PySem.W.findIn K (.ref C) "__init__"=some (some (.ref f))) (hf:PySem.W.typeIn K (.ref f)=some (.type "function"))
  (h:codeAny (model prog w) (A.under (.builtin "type.__call__" ⟨.ref C::vs,kw⟩)) (.call (.ref f) ⟨.ref (s.heap.objs.size+1)::vs,kw⟩) (PySem.W.InitBack (s.heap.objs.size+1) R)
   { s with heap:=(s.heap.push PySem.W.emptyDict).push (PySem.W.instObj C s.heap.objs.size) }) :
  codeAny (model prog w) A (.call (.ref C) ⟨vs,kw⟩) R s:=by
 obtain⟨hh,g,d,t,os⟩:=s;exact PySem.W.make_core (PySem.W.makes_of X hm) (PySem.W.looks_findIn X hi) (fun self=>PySem.W.bind_fn X self hf) (.inl rfl) h
end
def be(f:Str)(v:V):List (Str×V)→List (Str×V)
 | []=>[(f,v)]
 | (g,x)::r=>if g=f then (g,v)::r else (g,x)::be f v r
theorem sL(f g:Str)(v:V):∀ fs:List (Str×V),(be f v fs).lookup g=if g=f then some v else fs.lookup g
 | []=>by
  show List.lookup g [(f,v)]=_
  by_cases h:g=f
  ·have hb:(g==f)=true:=beq_iff_eq.mpr h;simp only[List.lookup,hb,if_pos h]
  ·have hb:(g==f)=false:=beq_eq_false_iff_ne.mpr h;simp only[List.lookup,hb,if_neg h]
 | (k,x)::r=>by
  have ih:=sL f g v r;rw[show be f v ((k,x)::r)=(if k=f then (k,v)::r else (k,x)::be f v r) from rfl]
  by_cases hk:k=f
  ·rw[if_pos hk]
   by_cases h:g=k
   ·have hb:(g==k)=true:=beq_iff_eq.mpr h;simp only[List.lookup,hb,if_pos (h.trans hk)]
   ·have hb:(g==k)=false:=beq_eq_false_iff_ne.mpr h;simp only[List.lookup,hb,if_neg (fun e:g=f=>h (e.trans hk.symm))]
  ·rw[if_neg hk]
   by_cases h:g=k
   ·have hb:(g==k)=true:=beq_iff_eq.mpr h;simp only[List.lookup,hb,if_neg (fun e:g=f=>hk (h.symm.trans e))]
   ·have hb:(g==k)=false:=beq_eq_false_iff_ne.mpr h;simp only[List.lookup,hb];exact ih
theorem rh(f:Str)(v:V):∀ fs:List (Str×V),f∈(be f v fs).map (·.1)∧∀ g,g∈fs.map (·.1)→g∈(be f v fs).map (·.1)
 | []=>⟨by simp[be],fun g h=>by simp at h⟩
 | (k,x)::r=>by
  obtain⟨i1,i2⟩:=rh f v r;rw[show be f v ((k,x)::r)=(if k=f then (k,v)::r else (k,x)::be f v r) from rfl]
  by_cases hk:k=f
  ·rw[if_pos hk];subst hk
   exact⟨by simp,fun g h=>by simpa using h⟩
  ·rw[if_neg hk];refine⟨?_,fun g h=>?_⟩
   ·rw[List.map_cons];exact List.mem_cons_of_mem _ i1
   ·rw[List.map_cons] at h ⊢;rcases List.mem_cons.mp h with e | e
    ·exact List.mem_cons.mpr (.inl e)
    ·exact List.mem_cons_of_mem _ (i2 g e)
theorem sM(f:Str)(v:V):∀ fs:List (Str×V),(be f v fs).length≤fs.length+1
 | []=>by simp[be]
 | (k,x)::r=>by
  have ih:=sM f v r;rw[show be f v ((k,x)::r)=(if k=f then (k,v)::r else (k,x)::be f v r) from rfl]
  by_cases hk:k=f
  ·rw[if_pos hk,List.length_cons,List.length_cons];lia
  ·rw[if_neg hk,List.length_cons,List.length_cons];lia
theorem xC.some_of(r:xC (some v) o):∃ u,o=some u∧cG v u:=by
 cases o with
 | none=>exact (show False from r).elim
 | some u=>exact⟨u,rfl,r⟩
theorem xC.none_of(r:xC none o):o=none:=by
 cases o with
 | none=>rfl
 | some u=>exact (show False from r).elim
theorem E5(r:cG v u):PySem.W.handedIn u=true:=by
 cases v with
 | non=>cases (show u=Value.none from r);rfl
 | bl b=>cases (show u=Value.bool b from r);rfl
 | int i=>obtain⟨t,e⟩:=(show ∃ t,u=Value.int i t from r);cases e;rfl
 | str x=>obtain⟨t,e⟩:=(show ∃ t,u=Value.str x t from r);cases e;rfl
 | byt b=>obtain⟨t,e⟩:=(show ∃ t,u=Value.bytes b t from r);cases e;rfl
 | flt b=>obtain⟨t,e⟩:=(show ∃ t,u=Value.float b t from r);cases e;rfl
 | ref a=>cases (show u=Value.ref a from r);rfl
 | ty n=>cases (show u=Value.type n from r);rfl
section
variable{P:Program}{w:World}{H H':Hp}{h h':Heap}{a C dx:Addr}{fs fs':List (Str×V)}
theorem zi(hok:qI P w H h)(e:H a=some (.ins C dx fs)):∃ mA,Dn h a dx C mA∧(∀ f,xC (fs.lookup f) (mA f))∧PySem.Within mA (fs.map (·.1))∧fs.length≤1000∧H dx=some (.own a):=by
 obtain⟨d,z,ne,ob,mA,n,r,q⟩:=(show gp P w H h a (.ins C dx fs) from hok a _ e)
 exact⟨mA,⟨ob,n,ne⟩,r,q,z,d⟩
end
structure rR(K:PySem.W.Frag)(C:Addr):Prop where
 pg:PySem.W.plainGet K C Str.empty=true
 hd:PySem.W.hasDictIn K C=true
 po:PySem.W.plainOver K C=true
 sa:PySem.W.findIn K (.ref C) "__setattr__"=some (some (.builtin "object.__setattr__"))
theorem rR.get{K:PySem.W.Frag}{C:Addr}(c:rR K C)(f:Str):PySem.W.plainGet K C f=true:=c.pg
def aK(K:PySem.W.Frag)(C:Addr)(f:Str):Prop:=PySem.W.findIn K (.ref C) f=some none
theorem aK.taker{K:PySem.W.Frag}{C:Addr}{f:Str}(n:aK K C f):PySem.W.takerIn K C f=some none:=by
 unfold PySem.W.takerIn;rw[show PySem.W.findIn K (.ref C) f=some none from n]
 rfl
structure Hj(K:PySem.W.Frag)(C:Addr)(m:Str)(f:Addr):Prop where
 at_:PySem.W.findIn K (.ref C) m=some (some (.ref f))
 fn:PySem.W.isFn K (.ref f)=true
 kp:PySem.W.keepIn K (.ref f)=true
section
variable{X:Cx}{pins:List (Addr×Obj)}{σ:St}{H:Hp}{s:Shared}{a C dx:Addr}{fs:List (Str×V)}{f:Str}{v:V}{A:Around}{E:Value→Shared→Prop}
theorem vI{b:Bool}{Q:Value→Shared→Prop}(I:Inv X pins σ H s)(e:H a=some (.ins C dx fs))(c:rR X.K C)(n:aK X.K C f)(l:fs.lookup f=some v)
  (h:∀ u s',Inv X pins σ H s'→cG v u→Q u s'):wpAny (model X.prog X.w) A (getAttr (.ref a) f b) Q E s:=by
 obtain⟨mA,O,r,_,_,_⟩:=zi I.hok e;obtain⟨u,hu,ru⟩:=xC.some_of (v:=v) (o:=mA f) (by rw[←l];exact r f)
 exact IK I.kIn O (c.get f) c.hd n hu (E5 ru) (h u _ (I.tok _) ru)
theorem vH{pl:Sem Bool}{Q:Value×List Value→Shared→Prop}(I:Inv X pins σ H s)(e:H a=some (.ins C dx fs))(c:rR X.K C)(k:Hj X.K C m g)(l:fs.lookup m=none)
  (h:Q (.ref g,[.ref a]) s):wpAny (model X.prog X.w) A (getMethod (.ref a) m pl) Q E s:=by
 obtain⟨mA,O,r,_,_,_⟩:=zi I.hok e;have hn:mA m=none:=xC.none_of (by rw[←l];exact r m)
 exact GT I.kIn O (c.get m) k.at_ k.fn hn h
theorem uE{Q:Unit→Shared→Prop}(I:Inv X pins σ H s)(e:H a=some (.ins C dx fs))(c:rR X.K C)(n:aK X.K C f)(hl:fs.length<1000)(ry:cG y u)
  (h:∀ s',Inv X pins σ (upd H a (.ins C dx (be f y fs))) s'→Q () s'):wpAny (model X.prog X.w) A (setAttr (.ref a) f u) Q E s:=by
 obtain⟨mA,O,r,wi,_,ho⟩:=zi I.hok e;have hz:(fs.map (·.1)).length≤sizeLine:=by rw[List.length_map,sizeLine_eq];lia
 refine HL I.kIn O c.sa c.po n.taker c.hd wi hz fun h' O' sb=>h _ ?_
 have hd:∃ o,h'.get? dx=some o:=let ⟨o,_,_,e',_⟩:=O'.ns;⟨o,e'⟩;refine I.write (x:=a) (e:=dx) (by rw[e];exact True.intro) (.inr ho) (fun b q hb z=>(sb.2 b hb).trans z) hd ?_
 refine⟨by rw[ao O.ne];exact ho,?_,O.ne,O'.obj,_,O'.ns,fun g=>?_,fun g hg=>?_⟩
 ·have:=sM f y fs;lia
 ·show xC ((be f y fs).lookup g) (if g=f then some u else mA g)
  rw[sL]
  by_cases q:g=f
  ·rw[if_pos q,if_pos q];exact ry
  ·rw[if_neg q,if_neg q];exact r g
 ·by_cases q:g=f
  ·rw[q];exact (rh f y fs).1
  ·refine (rh f y fs).2 g (wi g fun z=>hg ?_)
   show (if g=f then some u else mA g)=none
   rw[if_neg q];exact z
theorem Inv.made(I:Inv X pins σ H s):Inv X pins σ (upd (upd H s.heap.objs.size (.own (s.heap.objs.size+1))) (s.heap.objs.size+1) (.ins C s.heap.objs.size []))
  { s with heap:=(s.heap.push PySem.W.emptyDict).push (PySem.W.instObj C s.heap.objs.size) }:=by
 have e1:(s.heap.push PySem.W.emptyDict).get? s.heap.objs.size=some PySem.W.emptyDict:=Heap.get?_push_size s.heap rfl;have e2:((s.heap.push PySem.W.emptyDict).push (PySem.W.instObj C s.heap.objs.size)).get? (s.heap.objs.size+1)=some (PySem.W.instObj C s.heap.objs.size):=by
  have:=Heap.get?_push_size (s.heap.push PySem.W.emptyDict) (o:=PySem.W.instObj C s.heap.objs.size) rfl
  rwa [Heap.size_push] at this
 have e3:(s.heap.push PySem.W.emptyDict).Ns s.heap.objs.size (fun _=>none):=⟨PySem.W.emptyDict,#[],_,e1,rfl,(fun e he=>absurd he (by simp)),fun _=>rfl⟩
 have I1:=I.laid (a:=s.heap.objs.size) (o:=.own (s.heap.objs.size+1)) (h':=s.heap.push PySem.W.emptyDict) (t':=s.toks) (fun b u q=>Heap.get?_push_of_some _ q) (Nat.le_refl _) ⟨_,e1⟩
 refine I1.laid (a:=s.heap.objs.size+1) (o:=.ins C s.heap.objs.size []) (t':=s.toks) (fun b u q=>Heap.get?_push_of_some _ q) (Nat.le_of_eq (Heap.size_push _ _)) ?_
 have ne:s.heap.objs.size≠s.heap.objs.size+1:=Nat.ne_of_lt (Nat.lt_succ_self _);refine⟨by rw[ao ne,af],Nat.zero_le _,ne,e2,fun _=>none,(Heap.Ns1.of_empty e3).at fun o q=>Heap.get?_push_of_some _ q,fun _=>True.intro,fun y hy=>absurd rfl hy⟩
theorem Je{prog:Program}{w:World}{pos:Pos}{s:Shared}{Q:Value→Shared→Prop}(hb:attributeBase e f env (eval e env)=eval e env)
  (h:wpAny (model prog w) A (eval e env) (fun o s₁=>wpAny (model prog w) A (getAttr o f true) Q E s₁) E s):wpAny (model prog w) A (eval (.Attribute e f pos) env) Q E s :=
 Attribute_any_ h (by rw[arm_eval_Attribute,hb])
end
def OG(X:Cx)(op:Operator)(rd:V→V→Hp→VK→Prop):Prop :=
 ∀ (pins:List (Addr×Obj)) (s:Shared) (σ:St) (H:Hp) (x y:V) (u v:Value) (Q:VK),Inv X pins σ H s→cG x u→cG y v→rd x y H Q→wpAny (model X.prog X.w) X.A (inplaceOp op u v) (EP X pins σ Q) X.xe s
section
variable{X:Cx}{o e value:Expr}{f:Str}{pos pos' tpos:Pos}{ta tv:TE}
def Oi:V→V→Hp→VK→Prop:=fun x y H Q=>∃ i j,x=.int i∧y=.int j∧Q (.int (i+j)) H
theorem Ld:OG X .Add Oi:=by
 rintro pins s σ H x y u v Q I rx ry ⟨i,j,rfl,rfl,q⟩
 obtain⟨t,rfl⟩:=(show ∃ t,u=Value.int i t from rx)
 obtain⟨t',rfl⟩:=(show ∃ t',v=Value.int j t' from ry)
 exact PyProof.Rows.iadd_int ⟨.int (i+j),H,I.tok _,⟨_,rfl⟩,q⟩
end
structure eJ(k:Nat)(A:Around):Prop where
 hd:A.handled=none
 dp:A.depth+3*k+5<recursionLimit
 un:A.units+16*k+200<cLine
theorem eJ.mono(r:eJ k A)(h:j≤k):eJ j A:=⟨r.hd,by have:=r.dp;lia,by have:=r.un;lia⟩
theorem eJ.deeper(r:eJ (k+1) A)(env:Env):eJ k (A.deeper env) :=
 ⟨r.hd,by have:=r.dp;show A.depth+1+3*k+5<_;lia,by have:=r.un;show A.units+3+16*k+200<_;lia⟩
theorem CN{A:Around}{C:Addr}{us:List Value}{kw:List (Str×Value)}:(A.under (.builtin "type.__call__" ⟨.ref C::us,kw⟩)).depth=A.depth+1:=by
 first | rfl | simp[Around.under,Code.weight,Code.isCreation,Code.isGuard,Code.isCaller,Code.frames,Code.isFrame,guardIds]
theorem CM{A:Around}{C:Addr}{us:List Value}{kw:List (Str×Value)}:(A.under (.builtin "type.__call__" ⟨.ref C::us,kw⟩)).units=A.units+1:=by
 first | rfl | simp[Around.under,Code.cUnits,Code.frames,Code.isFrame]
theorem eJ.make(r:eJ (k+1) A)(C:Addr)(us:List Value)(kw:List (Str×Value)):eJ k (A.under (.builtin "type.__call__" ⟨.ref C::us,kw⟩)) :=
 ⟨r.hd,by have:=r.dp;rw[CN];lia,by have:=r.un;rw[CM];lia⟩
theorem eJ.depth(r:eJ k A):A.depth<recursionLimit:=by have:=r.dp;lia
def uw:TA:=fun _ H Q=>Q [] H
def Ju(ta:TE)(tr:TA):TA:=fun σ H Q=>ta σ H fun x H1=>tr σ H1 fun xs H2=>Q (x::xs) H2
section
variable{X:Cx}{e:Expr}{es:List Expr}{te:TE}{t:TA}{pos:Pos}
theorem ae:PA X [] uw:=fun _ _ _ _ H Q I h=>Calls.spliced_nil ⟨[],H,I,.nil,h⟩
theorem aa(ha:PE X e te)(hr:PA X es t)(hs:starEach (e::es) X.env=(false,eval e X.env)::starEach es X.env:=by rfl):PA X (e::es) (Ju te t):=by
 intro pos pins s σ H Q I h;rw[hs];show wpAny _ _ (spliced ((false,eval e X.env)::backTo pos (starEach es X.env))) _ _ s;refine Calls.spliced_cons (dL (ha pins s σ H _ I h) fun u s1 y=>?_)
 obtain⟨x,H1,I1,r1,q1⟩:=y;exact dL (hr pos pins s1 σ H1 _ I1 q1) fun us s2 ⟨xs,H2,I2,r2,q2⟩=>⟨x::xs,H2,I2,.cons r1 r2,q2⟩
def LQ(t:TA):TE:=fun σ H Q=>t σ H fun xs H1=>xs.length≤sizeLine∧∀ p,H1 p=none→Q (.ref p) (upd H1 p (.tup xs))
def J6(t:TA):TE:=fun σ H Q=>t σ H fun xs H1=>xs.length≤sizeLine∧∀ p,H1 p=none→Q (.ref p) (upd H1 p (.lst xs))
theorem jJ{x1}(h:PA X es t):PE X (.Tuple es x1 pos) (LQ t):=by
 intro pins s σ H Q I hq;refine wpAny_Tuple_spliced (dL (h pos pins s σ H _ I hq) fun us s1 ⟨xs,H1,I1,r,z,q⟩=>⟨by rw[←r.length];exact z,?_⟩)
 have hf:H1 s1.heap.objs.size=none:=I1.hok.fresh (Nat.le_refl _);refine⟨.ref s1.heap.objs.size,upd H1 s1.heap.objs.size (.tup xs),I1.laid (t':=s1.toks) (fun b u e=>Heap.get?_push_of_some _ e) (Nat.le_refl _) ?_,rfl,q _ hf⟩
 exact⟨z,us,r,⟨_,Heap.get?_push_size _ rfl,rfl,_,rfl⟩⟩
theorem aJ(h:PA X es t):PE X (.List es pos) (J6 t):=by
 intro pins s σ H Q I hq;refine wpAny_List_spliced (dL (h pos pins s σ H _ I hq) fun us s1 ⟨xs,H1,I1,r,z,q⟩=>⟨by rw[←r.length];exact z,?_⟩)
 have hf:H1 s1.heap.objs.size=none:=I1.hok.fresh (Nat.le_refl _);refine⟨.ref s1.heap.objs.size,upd H1 s1.heap.objs.size (.lst xs),I1.laid (t':=s1.toks) (fun b u e=>Heap.get?_push_of_some _ e) (Nat.le_refl _) ?_,rfl,q _ hf⟩
 exact⟨z,us,0,r,Heap.get?_push_size _ rfl⟩
end
abbrev Sp:=List V→Hp→VK→XK→Prop
abbrev FC:=List Env→Hp→Shared→XK→Value→Shared→Prop
structure Dq(P:Program)(w:World)(K:PySem.W.Frag)(mg:Str→Option Value)(base:Heap)(A:Around)(outer:List Env)(s:Shared)(H:Hp):Prop where
 frames:A.frames=some outer
 mod:Mod K mg base
 bs:∀ b o,base.get? b=some o→s.heap.get? b=some o∧H b=none
 bsz:base.objs.size≤s.heap.objs.size
 funs:s.heap.FunFrames base outer
 frf:∀ b∈GY outer,H b=none
 hok:qI P w H s.heap
 bare:AllBare s.gens
def CE(outer:List Env)(P:Program)(w:World)(H:Hp)(s:Shared)(Q:VK)(u:Value)(s':Shared):Prop :=
 ∃ v H',s'.os=s.os∧AllBare s'.gens∧Un (GY outer) [] H H' s.heap s'.heap∧qI P w H' s'.heap∧cG v u∧Q v H'
def CR(CX:FC)(outer:List Env)(P:Program)(w:World)(H:Hp)(s:Shared)(Q:VK)(E:XK)(r:Result)(s':Shared):Prop :=
 match r with
 | .ok (.ret u)=>CE outer P w H s Q u s'
 | .ok _=>False
 | .error e=>CX outer H s E e s'
structure ii(P:Program)(w:World)(K:PySem.W.Frag)(mg:Str→Option Value)(base:Heap)(CX:FC)(k:Nat)(f:Addr)(fd:FuncData)(ps:List Str)(sp:Sp):Prop where
 len:∀ vs H Q E,sp vs H Q E→vs.length=ps.length
 run:∀ (A:Around) (outer:List Env) (s:Shared) (H:Hp) (args:Args) (us:List Value) (vs:List V) (Q:VK) (E:XK),eJ k A→Dq P w K mg base A outer s H→BindsTo s fd args (ps.zip us)→bo vs us→sp vs H Q E →
  codeAny (model P w) A (.call (.ref f) args) (CR CX outer P w H s Q E) s
theorem ii.mono{P:Program}{w:World}{K:PySem.W.Frag}{mg:Str→Option Value}{base:Heap}{CX:FC}{j k:Nat}{f:Addr}{fd:FuncData}{ps:List Str}{sp:Sp}(F:ii P w K mg base CX j f fd ps sp)(h:j≤k) :
  ii P w K mg base CX k f fd ps sp:=⟨F.len,fun A outer s H args us vs Q E hr=>F.run A outer s H args us vs Q E (hr.mono h)⟩
theorem ii.imp{P:Program}{w:World}{K:PySem.W.Frag}{mg:Str→Option Value}{base:Heap}{CX:FC}{k:Nat}{f:Addr}{fd:FuncData}{ps:List Str}{sp sp':Sp}(F:ii P w K mg base CX k f fd ps sp)
  (h:∀ vs H Q E,sp' vs H Q E→sp vs H Q E):ii P w K mg base CX k f fd ps sp' :=
 ⟨fun vs H Q E q=>F.len vs H Q E (h _ _ _ _ q),fun A outer s H args us vs Q E hr he hb hv hs=>F.run A outer s H args us vs Q E hr he hb hv (h _ _ _ _ hs)⟩
theorem Dq.make{P:Program}{w:World}{K:PySem.W.Frag}{mg:Str→Option Value}{base:Heap}{A:Around}{outer:List Env}{s:Shared}{H:Hp}(e:Dq P w K mg base A outer s H)(C:Addr)(us:List Value)(kw:List (Str×Value)) :
  Dq P w K mg base (A.under (.builtin "type.__call__" ⟨.ref C::us,kw⟩)) outer s H:=⟨by first | exact e.frames | (simpa[Around.under,Code.envs,Code.isFrame,pushEnvs] using e.frames),e.mod,e.bs,e.bsz,e.funs,e.frf,e.hok,e.bare⟩
section
variable{X:Cx}{pins:List (Addr×Obj)}{σ:St}{H:Hp}{s s':Shared}
theorem Inv.env0(I:Inv X pins σ H s):Dq X.prog X.w X.K X.mg X.base X.A X.stack s H :=
 ⟨I.ok.frames,I.ok.mod,I.bs,Nat.le_trans I.ok.bsz I.sz,I.stack,I.stkFree,I.hok,I.bare⟩
theorem Inv.after(I:Inv X pins σ H s)(h:CE X.stack X.prog X.w H s Q u s'):EP X pins σ Q u s':=by
 obtain⟨v,H',os,bare,un,hok,r,q⟩:=h;obtain⟨hh,g,d,t,os'⟩:=s';obtain rfl:os'=s.os:=os
 exact⟨v,H',I.call (h':=hh) (g':=g) (d':=d) (t':=t) (ch:=[]) un hok bare (fun b z=>absurd z (by simp)),r,q⟩
end
def xI(sp:Sp)(dvs:List V)(E:XK)(t:TA):TE:=fun σ H Q=>t σ H fun vs H1=>sp (vs++dvs) H1 Q E
def Du(C:Addr)(m:Str)(sp:Sp)(dvs:List V)(E:XK)(ta:TE)(t:TA):TE:=fun σ H Q=>ta σ H fun x H1=>∃ a dx fs,x=.ref a∧H1 a=some (.ins C dx fs)∧fs.lookup m=none ∧
 t σ H1 fun vs H2=>sp (x::(vs++dvs)) H2 Q E
def Dv(C:Addr)(sp:Sp)(dvs:List V)(E:XK)(t:TA):TE:=fun σ H Q=>t σ H fun vs H1=>∀ x dx,H1 x=none→H1 dx=none→dx≠x →
 sp (.ref x::(vs++dvs)) (upd (upd H1 dx (.own x)) x (.ins C dx [])) (fun v H2=>v=.non∧Q (.ref x) H2) E
def io(K:PySem.W.Frag)(fd:FuncData)(ps:List Str)(ds:List Value):Prop :=
 ∀ (s:Shared) (us:List Value),K.In s.heap→(us++ds).length=ps.length→BindsTo s fd ⟨us,[]⟩ (ps.zip (us++ds))
theorem io.all{K:PySem.W.Frag}{fd:FuncData}{ps:List Str}(h:∀ us:List Value,us.length=ps.length→bindArgs fd ⟨us,[]⟩=pure (ps.zip us)):io K fd ps []:=fun s us _ hl=>by
 rw[List.append_nil] at hl ⊢;exact .of_eq (h us hl)
def kX(CX:FC)(X:Cx)(E:XK):Prop:=∀ (pins:List (Addr×Obj)) (σ:St) (H:Hp) (s:Shared) (e:Value) (s':Shared),Inv X pins σ H s→CX X.stack H s E e s'→X.xe e s'
section
variable{X:Cx}{CX:FC}{k:Nat}{f C:Addr}{fd:FuncData}{ps:List Str}{sp:Sp}{dvs:List V}{ds:List Value}{E:XK}{x m:Str}{p pos apos:Pos}{e o:Expr}{es:List Expr}{ta:TE}{t:TA}
theorem uQ{pins:List (Addr×Obj)}{σ:St}{H:Hp}{s:Shared}{Q:VK}{us:List Value}{vs:List V}(F:ii X.prog X.w X.K X.mg X.base CX k f fd ps sp)(hr:eJ k X.A)(hb:io X.K fd ps ds)(hd:bo dvs ds)(hx:kX CX X E)
  (I:Inv X pins σ H s) (r:bo vs us) (h:sp (vs++dvs) H Q E):wpAny (model X.prog X.w) X.A (call (.ref f) us) (EP X pins σ Q) X.xe s:=by
 have r2:bo (vs++dvs) (us++ds):=r.append hd;have hl:(us++ds).length=ps.length:=by rw[←r2.length];exact F.len _ _ _ _ h
 refine wpAny_call (codeAny_mono (F.run X.A X.stack s H ⟨us,[]⟩ (us++ds) (vs++dvs) Q E hr I.env0 (hb s us I.kIn hl) r2 h) fun r s' hq=>?_)
 cases r with
 | error e=>exact hx pins σ H s e s' I hq
 | ok fl =>
  cases fl with
  | ret u=>exact I.after hq
  | next=>exact False.elim hq
  | brk=>exact False.elim hq
  | cont=>exact False.elim hq
theorem Il(F:ii X.prog X.w X.K X.mg X.base CX k f fd ps sp)(hr:eJ k X.A)(hg:Gl X x)(hm:X.mg x=some (.ref f))(hk:PySem.W.keepIn X.K (.ref f)=true)(hb:io X.K fd ps ds)(hd:bo dvs ds)(hx:kX CX X E)
  (ha:PA X (e::es) t) (hdb:(x==("__debug__":Str))=false:=by decide) (he:starEach (e::es) X.env=(false,eval e X.env)::starEach es X.env:=by rfl) (hpl:(backTo pos (starEach es X.env)).any (·.1)=false:=by rfl) :
  PE X (.Call (.Name x p) (e::es) [] pos) (xI sp dvs E t):=by
 intro pins s σ H Q I h;refine wpAny_Call_Name_kw (nQ I hg hm ?_ hdb);refine PySem.W.callWith_K (h₀:=X.base) I.ok.mod.kin hk (dL (ha pos pins s σ H _ I h) fun us s1 ⟨vs,H1,I1,r,q⟩=>⟨I1.kIn,?_⟩) he hpl
 exact uQ F hr hb hd hx I1 r q
theorem Gr(F:ii X.prog X.w X.K X.mg X.base CX k f fd ps sp)(hr:eJ k X.A)(hg:Gl X x)(hm:X.mg x=some (.ref f))(hk:PySem.W.keepIn X.K (.ref f)=true)(hb:io X.K fd ps ds)(hd:bo dvs ds)(hx:kX CX X E)
  (hdb:(x==("__debug__":Str))=false:=by decide):PE X (.Call (.Name x p) [] [] pos) (xI sp dvs E uw):=by
 intro pins s σ H Q I h;refine wpAny_Call_Name_kw (nQ I hg hm ?_ hdb);exact PySem.W.callWith_K0 I.kIn hk (uQ (us:=[]) F hr hb hd hx I .nil h)
theorem Ii{pl:Sem Bool}(he:PE X o ta)(c:rR X.K C)(hm:Hj X.K C m f)(F:ii X.prog X.w X.K X.mg X.base CX k f fd ps sp)(hr:eJ k X.A)(hb:io X.K fd ps ds)(hd:bo dvs ds)(hx:kX CX X E)(ha:PA X (e::es) t)
  (hst:starEach (e::es) X.env=(false,eval e X.env)::starEach es X.env:=by rfl) (hpl:(backTo pos (starEach es X.env)).any (·.1)=false:=by rfl)
  (ht:eval (.Call (.Attribute o m apos) (e::es) [] pos) X.env=(do
   let ov ←eval o X.env
   standAt apos.atName
   let (f,first) ←holding [ov] (getMethod ov m pl)
   callWith pos f first (backTo pos (starEach (e::es) X.env)) (backToKw pos (keywordEach [] X.env))):=by rfl) :
  PE X (.Call (.Attribute o m apos) (e::es) [] pos) (Du C m sp dvs E ta t):=by
 intro pins s σ H Q I h;refine PySem.W.methodCall_KW (pl:=pl) (dL (he pins s σ H _ I h) fun u s1 ⟨x,H1,I1,rx,a,dx,fs,ex,ea,l,q⟩=>?_) ht
 subst ex;obtain rfl:u=Value.ref a:=rx;refine vH I1 ea c hm l ?_
 refine PySem.W.callWith_K (first:=[.ref a]) (h₀:=X.base) I.ok.mod.kin hm.kp (dL (ha pos pins s1 σ H1 _ I1 q) fun us s2 ⟨vs,H2,I2,r,q2⟩=>⟨I2.kIn,?_⟩) hst hpl
 exact uQ (us:=.ref a::us) (vs:=.ref a::vs) F hr hb hd hx I2 (.cons rfl r) q2
theorem Gm{pl:Sem Bool}(he:PE X o ta)(c:rR X.K C)(hm:Hj X.K C m f)(F:ii X.prog X.w X.K X.mg X.base CX k f fd ps sp)(hr:eJ k X.A)(hb:io X.K fd ps ds)(hd:bo dvs ds)(hx:kX CX X E)
  (ht:eval (.Call (.Attribute o m apos) [] [] pos) X.env=(do
   let ov ←eval o X.env
   standAt apos.atName
   let (f,first) ←holding [ov] (getMethod ov m pl)
   callWith pos f first (backTo pos (starEach [] X.env)) (backToKw pos (keywordEach [] X.env))):=by rfl) :
  PE X (.Call (.Attribute o m apos) [] [] pos) (Du C m sp dvs E ta uw):=by
 intro pins s σ H Q I h;refine PySem.W.methodCall_KW (pl:=pl) (dL (he pins s σ H _ I h) fun u s1 ⟨x,H1,I1,rx,a,dx,fs,ex,ea,l,q⟩=>?_) ht
 subst ex;obtain rfl:u=Value.ref a:=rx;refine vH I1 ea c hm l ?_
 exact PySem.W.callWith_K0 (first:=[.ref a]) I1.kIn hm.kp (uQ (us:=[.ref a]) (vs:=[.ref a]) F hr hb hd hx I1 (.cons rfl .nil) q)
structure Mk(K:PySem.W.Frag)(C f:Addr):Prop where
 makes:PySem.W.makesIn K C=true
 init:PySem.W.findIn K (.ref C) "__init__"=some (some (.ref f))
 fn:PySem.W.isFn K (.ref f)=true
 kp:PySem.W.keepIn K (.ref C)=true
theorem Ap{pins:List (Addr×Obj)}{σ:St}{H:Hp}{s:Shared}{Q:VK}{us:List Value}{vs:List V}(M:Mk X.K C f)(F:ii X.prog X.w X.K X.mg X.base CX k f fd ps sp)(hr:eJ (k+1) X.A)(hb:io X.K fd ps ds)(hd:bo dvs ds)
  (hx:kX CX X E) (I:Inv X pins σ H s) (r:bo vs us)
  (h:∀ x dx,H x=none→H dx=none→dx≠x→sp (.ref x::(vs++dvs)) (upd (upd H dx (.own x)) x (.ins C dx [])) (fun v H2=>v=.non∧Q (.ref x) H2) E) :
  wpAny (model X.prog X.w) X.A (call (.ref C) us) (EP X pins σ Q) X.xe s:=by
 have hq:=h (s.heap.objs.size+1) s.heap.objs.size (I.hok.fresh (Nat.le_succ _)) (I.hok.fresh (Nat.le_refl _)) (Nat.ne_of_lt (Nat.lt_succ_self _));have I2:=Inv.made (C:=C) I;have r2:bo (V.ref (s.heap.objs.size+1)::(vs++dvs)) (Value.ref (s.heap.objs.size+1)::(us++ds)):=.cons rfl (r.append hd);have hl:(Value.ref (s.heap.objs.size+1)::us++ds).length=ps.length:=by
  have e:=r2.length;rw[F.len _ _ _ _ hq] at e;exact e.symm
 refine wpAny_call (GD (f:=f) I.kIn M.makes M.init (beq_iff_eq.mp M.fn) (codeAny_mono (F.run _ X.stack _ _ ⟨Value.ref (s.heap.objs.size+1)::us,[]⟩ (Value.ref (s.heap.objs.size+1)::(us++ds)) _ _ E (hr.make C us [])
  (I2.env0.make C us []) (hb _ (Value.ref (s.heap.objs.size+1)::us) I2.kIn hl) r2 hq) fun r s' hq'=>?_))
 cases r with
 | error e=>exact hx pins σ _ _ e s' I2 hq'
 | ok fl =>
  cases fl with
  | ret u =>
   obtain⟨v,H',I3,rv,ev,q3⟩:=I2.after hq';subst ev
   exact⟨rv,⟨V.ref (s.heap.objs.size+1),H',I3,rfl,q3⟩⟩
  | next=>exact False.elim hq'
  | brk=>exact False.elim hq'
  | cont=>exact False.elim hq'
theorem Ij(M:Mk X.K C f)(F:ii X.prog X.w X.K X.mg X.base CX k f fd ps sp)(hr:eJ (k+1) X.A)(hg:Gl X x)(hm:X.mg x=some (.ref C))(hb:io X.K fd ps ds)(hd:bo dvs ds)(hx:kX CX X E)
  (ha:PA X (e::es) t) (hdb:(x==("__debug__":Str))=false:=by decide) (he:starEach (e::es) X.env=(false,eval e X.env)::starEach es X.env:=by rfl) (hpl:(backTo pos (starEach es X.env)).any (·.1)=false:=by rfl) :
  PE X (.Call (.Name x p) (e::es) [] pos) (Dv C sp dvs E t):=by
 intro pins s σ H Q I h;refine wpAny_Call_Name_kw (nQ I hg hm ?_ hdb);refine PySem.W.callWith_K (h₀:=X.base) I.ok.mod.kin M.kp (dL (ha pos pins s σ H _ I h) fun us s1 ⟨vs,H1,I1,r,q⟩=>⟨I1.kIn,?_⟩) he hpl
 exact Ap M F hr hb hd hx I1 r q
theorem Gn(M:Mk X.K C f)(F:ii X.prog X.w X.K X.mg X.base CX k f fd ps sp)(hr:eJ (k+1) X.A)(hg:Gl X x)(hm:X.mg x=some (.ref C))(hb:io X.K fd ps ds)(hd:bo dvs ds)(hx:kX CX X E)
  (hdb:(x==("__debug__":Str))=false:=by decide):PE X (.Call (.Name x p) [] [] pos) (Dv C sp dvs E uw):=by
 intro pins s σ H Q I h;refine wpAny_Call_Name_kw (nQ I hg hm ?_ hdb);exact PySem.W.callWith_K0 I.kIn M.kp (Ap (us:=[]) M F hr hb hd hx I .nil h)
end
structure jv(N P:List Str)(sc:Scope):Prop where
 kind:sc.kind=.function
 co:sc.isCoroutine=false
 gen:sc.isGenerator=false
 nd:N.Nodup
 pre:N.take P.length=P
 par:∀ x∈P,sc.names.lookup x=some .local∨sc.names.lookup x=some .cell
 nofree:∀ y∈sc.names,y.2≠.free
theorem yw{kindOf:Str→Option NameKind}{x:Str}:∀ {binds:List (Str×Value)}{m:Str→Option Value},(∀ v,(x,v)∉binds)→bindL kindOf binds m x=m x
 | [],_,_=>rfl
 | (n,v)::r,m,h=>by
  unfold bindL;rw[yw fun w hw=>h w (List.mem_cons_of_mem _ hw)]
  split
  ·have:x≠n:=by rintro rfl;exact h v List.mem_cons_self
   simp[this]
  ·rfl
theorem yA{kindOf:Str→Option NameKind}{x:Str}:∀ {binds:List (Str×Value)}{m:Str→Option Value},(∀ v,(x,v)∉binds)→bindC kindOf binds m x=m x
 | [],_,_=>rfl
 | (n,v)::r,m,h=>by
  unfold bindC;rw[yA fun w hw=>h w (List.mem_cons_of_mem _ hw)]
  split
  ·rfl
  ·have:x≠n:=by rintro rfl;exact h v List.mem_cons_self
   simp[this]
theorem yx{kindOf:Str→Option NameKind}{x:Str}{v:Value}:∀ {P:List Str}{vs:List Value}{i:Nat}{m:Str→Option Value},P.Nodup→P[i]?=some x→vs[i]?=some v→kindOf x=some .local →
  bindL kindOf (P.zip vs) m x=some v
 | [],_,_,_,_,h,_,_=>by simp at h
 | _::_,[],_,_,_,_,h,_=>by simp at h
 | p::P,w::vs,0,m,nd,h1,h2,hk=>by
  simp at h1 h2;subst h1;subst h2
  show bindL kindOf ((p,w)::P.zip vs) m p=_;unfold bindL;rw[yw fun v hv=>(List.nodup_cons.mp nd).1 (List.of_mem_zip hv).1,if_pos hk]
  simp
 | p::P,w::vs,i+1,m,nd,h1,h2,hk=>by
  show bindL kindOf ((p,w)::P.zip vs) m x=_;unfold bindL;exact yx (i:=i) (List.nodup_cons.mp nd).2 (by simpa using h1) (by simpa using h2) hk
theorem yB{kindOf:Str→Option NameKind}{x:Str}{v:Value}:∀ {P:List Str}{vs:List Value}{i:Nat}{m:Str→Option Value},P.Nodup→P[i]?=some x→vs[i]?=some v→kindOf x≠some .local →
  bindC kindOf (P.zip vs) m x=some v
 | [],_,_,_,_,h,_,_=>by simp at h
 | _::_,[],_,_,_,_,h,_=>by simp at h
 | p::P,w::vs,0,m,nd,h1,h2,hk=>by
  simp at h1 h2;subst h1;subst h2
  show bindC kindOf ((p,w)::P.zip vs) m p=_;unfold bindC;rw[yA fun v hv=>(List.nodup_cons.mp nd).1 (List.of_mem_zip hv).1,if_neg hk]
  simp
 | p::P,w::vs,i+1,m,nd,h1,h2,hk=>by
  show bindC kindOf ((p,w)::P.zip vs) m x=_;unfold bindC;exact yB (i:=i) (List.nodup_cons.mp nd).2 (by simpa using h1) (by simpa using h2) hk
def start(N:List Str)(vs:List V):St:=vs.map some++List.replicate (N.length - vs.length) none
def Bx(CX:FC)(P:Program)(w:World)(K:PySem.W.Frag)(mg:Str→Option Value)(base:Heap)(N:List Str)(qual:Str)(scope:Scope)(f:Addr)(cd:Value)(A:Around)(outer:List Env)(s:Shared)(H:Hp)(E:XK):Cx where
 prog:=P
 w:=w
 K:=K
 mg:=mg
 base:=base
 A:=A.deeper (envOfC qual scope s.heap.objs.size f cd)
 N:=N
 s_0:=s
 H_0:=H
 env:=envOfC qual scope s.heap.objs.size f cd
 outer:=outer
 stack:=envOfC qual scope s.heap.objs.size f cd::outer
 ex:=[]
 calm:=true
 fn:=fun _=>true
 pn:=[]
 xe:=fun e s'=>wpAny (model P w) (A.deeper (envOfC qual scope s.heap.objs.size f cd)) (leaving (envOfC qual scope s.heap.objs.size f cd) e) (fun _ s''=>CX outer H s E e s'') (fun e' s''=>CX outer H s E e' s'') s'
theorem BA{sc:Scope}{n:Nat}{x:Str}(h:sc.names.lookup x=some .cell):∃ c,(cellsFrom n sc.names []).lookup x=some c:=by
 have q:=PySem.W.cellsFrom_some sc.names n [] (.inl h);exact Option.isSome_iff_exists.mp q
theorem E3{CX:FC}{P:Program}{w:World}{K:PySem.W.Frag}{mg:Str→Option Value}{base:Heap}{N ps:List Str}{qual:Str}{scope:Scope}{f:Addr}{cd:Value}{A:Around}{outer:List Env}{s s1:Shared}{H:Hp}{E:XK}{us:List Value}{vs:List V}
  (S:jv N ps scope) (hd:A.handled=none) (e0:Dq P w K mg base A outer s H) (hl:vs.length=ps.length) (r:bo vs us)
  (x:InCallC s s.heap.objs.size (bindL (envOfC qual scope s.heap.objs.size f cd).kindOf (ps.zip us) fun _=>none) (cellsFrom (s.heap.objs.size+1) scope.names []) (bindC (envOfC qual scope s.heap.objs.size f cd).kindOf (ps.zip us) fun _=>none) s1) :
  Inv (Bx CX P w K mg base N qual scope f cd A outer s H E) [] (start N vs) H s1:=by
 have hpl:ps.length≤N.length:=by have:=congrArg List.length S.pre;rw[List.length_take] at this;lia
 obtain⟨h1,tk,rfl,hk⟩:=x.done;have noA:∀ b:Addr,b∉(Bx CX P w K mg base N qual scope f cd A outer s H E).ex:=fun b z=>absurd (show b∈([]:List Addr) from z) (by simp)
 refine⟨⟨e0.mod,S.kind,rfl,rfl,Nat.le_refl _,fun y z c h1 h2=>?_,fun y hy=>?_,fun y c _ h=>?_,fun _=>hd,Around.frames_deeper e0.frames,.inr ⟨rfl,rfl⟩,fun b z=>absurd z (noA b),e0.bs,e0.bsz,fun b _ _=>noA b,fun b z=>absurd z (noA b),e0.funs,e0.frf⟩,
  rfl,e0.bare,Un.kept hk,⟨_,x.toInCall.ns,fun i y v h1 h2 h3=>?_⟩,fun y c h=>⟨_,x.cell y c h⟩,e0.hok.fresh (Nat.le_refl _),fun y c h=>?_,fun p hp=>absurd (show p∈([]:List (Addr×Obj)) from hp) (by simp),e0.hok.kept hk,?_⟩
 ·exact name_of_addr x.apart (PySem.mem_of_lookup h1) (PySem.mem_of_lookup h2)
 ·have hy:scope.names.lookup y=some .cell∨scope.names.lookup y=some .free:=hy;rcases hy with hy | hy
  ·exact BA hy
  ·exact absurd rfl (S.nofree _ (PySem.mem_of_lookup hy))
 ·exact Nat.le_of_lt (x.above y c (PySem.mem_of_lookup h))
 ·have hi:i<vs.length:=by
   unfold start at h2
   by_cases hi:i<vs.length
   ·exact hi
   ·rw[List.getElem?_append_right (by simpa using hi)] at h2
    rw[List.getElem?_replicate] at h2
    split at h2<;>cases h2
  have ha:vs[i]?=some v:=by
   unfold start at h2;rw[List.getElem?_append_left (by simpa using hi),List.getElem?_map] at h2
   cases e:vs[i]? with
   | none=>rw[e] at h2;cases h2
   | some a=>rw[e] at h2;cases h2;rfl
  obtain⟨u,hu,rv⟩:=r.get ha;have hp:ps[i]?=some y:=by
   rw[←S.pre,List.getElem?_take_of_lt (by lia)];exact h1
  have ndP:ps.Nodup:=by rw[←S.pre];exact S.nd.sublist (List.take_sublist _ _)
  refine⟨u,rv,?_⟩;rcases S.par y (List.mem_of_getElem? hp) with k | k
  ·exact .inl ⟨k,yx ndP hp hu k⟩
  ·obtain⟨c,e⟩:=BA (n:=s.heap.objs.size+1) k;refine .inr ⟨.inl k,c,e,?_⟩;have q:=x.cell y c e;rw[yB ndP hp hu (by show scope.names.lookup y≠_;rw[k];decide)] at q
   exact q
 ·exact e0.hok.fresh (Nat.le_of_lt (x.above y c (PySem.mem_of_lookup h)))
 ·unfold start;show _=N.length;rw[List.length_append,List.length_map,List.length_replicate];lia
theorem Ng{CX:FC}{P:Program}{w:World}{K:PySem.W.Frag}{mg:Str→Option Value}{base:Heap}{k:Nat}{f:Addr}{name qual:Str}{params:Arguments}{body:List Stmt}{scope:Scope}{dV kV doc pm cdv ct oc:Value}{an od:Option Addr}
  {osl:Array (Option Value)}{N ps:List Str}{sp:Sp} (lk:K.lookup f=some ⟨oc,od,.func (PySem.W.fnOf name qual params body scope dV kV doc pm an cdv ct),osl⟩) (hcd:PySem.W.codeIn K cdv qual=true) (S:jv N ps scope)
  (len:∀ vs H Q E,sp vs H Q E→vs.length=ps.length)
  (hbody:∀ (A:Around) (outer:List Env) (s:Shared) (H:Hp) (vs:List V) (Q:VK) (E:XK),eJ k (A.deeper (envOfC qual scope s.heap.objs.size f cdv))→sp vs H Q E →
   ∃ t,BY (Bx CX P w K mg base N qual scope f cdv A outer s H E) body t∧t { nx:=fun _ H'=>Q .non H',rt:=Q } (start N vs) H) :
  ii P w K mg base CX (k+1) f (PySem.W.fnOf name qual params body scope dV kV doc pm an cdv ct) ps sp:=by
 refine⟨len,fun A outer s H args us vs Q E hr e0 hb r hsp=>?_⟩
 have hl:=len _ _ _ _ hsp;have KX:K.In s.heap:=e0.mod.kin.keeps fun b o e=>(e0.bs b o e).1
 have lim:s.heap.NoLimit:=e0.mod.nolimit.keeps fun b o e=>(e0.bs b o e).1
 have hkind:∀ y∈ps.zip us,scope.names.lookup y.1=some .local∨(scope.names.lookup y.1=some .cell∧((cellsFrom (s.heap.objs.size+1) scope.names []).lookup y.1).isSome=true):=fun⟨n,v⟩ hy=>by
  rcases S.par n (List.of_mem_zip hy).1 with q | q
  ·exact .inl q
  ·exact .inr ⟨q,PySem.W.cellsFrom_some _ _ _ (.inl q)⟩
 refine codeAny_call_function hr.depth (KX _ _ lk) rfl S.co S.gen rfl (PySem.W.codeRec_of KX hcd) (hb _ _ _ _ ?_);refine wpAny_newFunctionEnv_cells S.kind hkind fun env he s1 x=>?_
 subst he;refine⟨lim.keeps x.toInCall.keep,codeAny_func ?_⟩;obtain⟨t,ht,hq⟩:=hbody A outer s H vs Q E (hr.deeper _) hsp;have I:Inv (Bx CX P w K mg base N qual scope f cdv A outer s H E) [] (start N vs) H s1:=E3 S hr.hd e0 hl r x;refine wpAny_mono (ht [] s1 (start N vs) H _ I hq) (fun fl s' hs=>?_) fun e s' hs=>hs
 have dO:∀ {σ':St}{H':Hp}{v:V}{u:Value},Inv (Bx CX P w K mg base N qual scope f cdv A outer s H E) [] σ' H' s'→cG v u→Q v H'→CE outer P w H s Q u s' :=
  fun {σ' H' v u} J rv q=>⟨v,H',J.os,J.bare,J.base,J.hok,rv,q⟩
 cases fl with
 | ret u =>
  obtain⟨v,σ',H',J,rv,q⟩:=hs;exact dO J rv q
 | next =>
  obtain⟨σ',H',J,q⟩:=hs;exact dO (v:=V.non) (u:=Value.none) J rfl q
 | brk =>
  obtain⟨_,_,_,q⟩:=hs;exact False.elim q
 | cont =>
  obtain⟨_,_,_,q⟩:=hs;exact False.elim q
section
variable{X:Cx}{x:Str}{p pos:Pos}{e:Expr}{es:List Expr}{t:TA}{id T:String}{r:List V→Hp→VK→Prop}
def NI(r:List V→Hp→VK→Prop)(t:TA):TE:=fun σ H Q=>t σ H fun vs H1=>r vs H1 Q
theorem dZ(hc:jw X (.builtin id) r)(hg:Gl X x)(hm:X.mg x=none)(hv:bootBuiltins x=some (.builtin id))(ha:PA X (e::es) t)(hn:x≠"__name__":=by decide)(hdb:(x==("__debug__":Str))=false:=by decide)
  (he:starEach (e::es) X.env=(false,eval e X.env)::starEach es X.env:=by rfl) (hpl:(backTo pos (starEach es X.env)).any (·.1)=false:=by rfl):PE X (.Call (.Name x p) (e::es) [] pos) (NI r t):=by
 intro pins s σ H Q I h;refine wpAny_Call_Name_kw (ra I hg hm hv ?_ hn hdb);exact PyProof.Rows.callWith_builtin1 (dL (ha pos pins s σ H _ I h) fun us s1 ⟨vs,H1,I1,r1,q1⟩=>hc pins s1 σ H1 vs us Q I1 r1 q1) he hpl
theorem ER(hc:jw X (.type T) r)(hg:Gl X x)(hm:X.mg x=none)(hv:bootBuiltins x=some (.type T))(ha:PA X (e::es) t)(hn:x≠"__name__":=by decide)(hdb:(x==("__debug__":Str))=false:=by decide)
  (he:starEach (e::es) X.env=(false,eval e X.env)::starEach es X.env:=by rfl) (hpl:(backTo pos (starEach es X.env)).any (·.1)=false:=by rfl):PE X (.Call (.Name x p) (e::es) [] pos) (NI r t):=by
 intro pins s σ H Q I h;refine wpAny_Call_Name_kw (ra I hg hm hv ?_ hn hdb);exact PyProof.Rows.callWith_type1 (dL (ha pos pins s σ H _ I h) fun us s1 ⟨vs,H1,I1,r1,q1⟩=>hc pins s1 σ H1 vs us Q I1 r1 q1) he hpl
end
end L2
namespace HT
open PySem PyProof.Rows
section
variable{prog:Program}{w:World}{A:Around}{E:Value→Shared→Prop}{s:Shared}
def BW(n d:Nat):Option Int→Nat
 | none=>d
 | some v=>if v<0 then (v+(n:Int)).toNat else min v.toNat n
theorem DE(n d k:Nat):BW n d (some (k:Int))=min k n:=by
 show (if (k:Int)<0 then ((k:Int)+(n:Int)).toNat else min (k:Int).toNat n)=min k n
 rw[if_neg (by lia),Int.toNat_natCast]
end
end HT
namespace L2
open PySem PySem.Spec PyProof.Rows
abbrev TO:=St→Hp→(Option Int→Hp→Prop)→Prop
def PO(X:Cx)(e:Option Expr)(t:TO):Prop :=
 ∀ (pins:List (Addr×Obj)) (s:Shared) (σ:St) (H:Hp) (Q:Option Int→Hp→Prop),Inv X pins σ H s→t σ H Q →
  wpAny (model X.prog X.w) X.A (evalPart e X.env) (fun u s'=>∃ o H',Inv X pins σ H' s'∧IsPart u o∧Q o H') X.xe s
def Hv:TO:=fun _ H Q=>Q none H
def Jq(t:TE):TO:=fun σ H Q=>t σ H fun x H1=>∃ i,x=.int i∧Q (some i) H1
section
variable{X:Cx}{e:Expr}{te:TE}{lo hi:Option Expr}{tl th:TO}{pos p2:Pos}
theorem dE(h:PE X e te):PO X (some e) (Jq te):=by
 intro pins s σ H Q I hw;rw[evalPart_some];refine dL (h pins s σ H _ I hw) fun u s1 y=>?_
 obtain⟨x,H1,I1,r1,q1⟩:=y;obtain⟨i,rfl,q⟩:=q1;obtain⟨t,rfl⟩:=r1
 exact⟨some i,H1,I1,.int i t,q⟩
def OA(X:Cx)(r:V→Option Int→Option Int→Hp→VK→Prop):Prop :=
 ∀ (pins:List (Addr×Obj)) (s:Shared) (σ:St) (H:Hp) (x:V) (v vl vu:Value) (lo hi:Option Int) (sl:Addr) (Q:VK),Inv X pins σ H s→cG x v→s.heap.IsSliceOf sl vl vu .none→IsPart vl lo→IsPart vu hi→r x lo hi H Q →
  ∃ T id,typeLookup (.type T) "__getitem__"=pure (some (.builtin id))∧s.TypeIs v T∧wpAny (model X.prog X.w) X.A (getItem v (.ref sl)) (EP X pins σ Q) X.xe s
def OL(r:V→Option Int→Option Int→Hp→VK→Prop)(te:TE)(tl th:TO):TE:=fun σ H Q=>te σ H fun x H1=>tl σ H1 fun l H2=>th σ H2 fun u H3=>r x l u H3 Q
theorem g9(hr:OA X r)(he:PE X e te)(hl:PO X lo tl)(hu:PO X hi th):PE X (.Subscript e (.Slice lo hi none p2) pos) (OL r te tl th):=by
 intro pins s σ H Q I h;refine Subscript_ (dL (he pins s σ H _ I h) fun v s1 y=>?_)
 obtain⟨x,H1,I1,r1,q1⟩:=y;refine wpAny_Slice (dL (hl pins s1 σ H1 _ I1 q1) fun vl s2 ⟨l,H2,I2,pl,q2⟩=>dL (hu pins s2 σ H2 _ I2 q2) fun vu s3 y=>?_)
 obtain⟨u,H3,I3,pu,q3⟩:=y;rw[evalPart_none];refine wpAny_pure ?_
 have I4:Inv X pins σ H3 { s3 with heap:=s3.heap.push { cls:=.type "slice",data:=.fields #[vl,vu,.none] } }:=I3.kept (t':=s3.toks) fun b ob q=>Heap.get?_push_of_some _ q
 obtain⟨T,id,hT,ht,hg⟩:=hr pins { s3 with heap:=s3.heap.push { cls:=.type "slice",data:=.fields #[vl,vu,.none] } } σ H3 x v vl vu l u s3.heap.objs.size Q I4 r1 (Heap.IsSliceOf.new ..) pl pu q3
 show wpAny (model X.prog X.w) X.A (subscriptTail e (.Slice lo hi none p2) v (.ref s3.heap.objs.size)) (EP X pins σ Q) X.xe { s3 with heap:=s3.heap.push { cls:=.type "slice",data:=.fields #[vl,vu,.none] } }
 exact tail_any (ops:=[.ref s3.heap.objs.size,v]) ht hT hg (by with_unfolding_all rfl)
def wu(xs:List V)(lo hi:Option Int):List V:=(xs.drop (HT.BW xs.length 0 lo)).take (HT.BW xs.length xs.length hi - HT.BW xs.length 0 lo)
theorem Bz(xs:List V)(lo hi:Option Int):(wu xs lo hi).length≤xs.length:=by
 unfold wu;rw[List.length_take,List.length_drop];lia
end
def JR(n:Nat)(i:Int):Option Nat:=if 0≤i then (if i<n then some i.toNat else none) else if -(n:Int)≤i then some (i+n).toNat else none
def JZ{α:Type}(xs:List α)(i:Int):Option α:=(JR xs.length i).bind fun j=>xs[j]?
theorem DZ(h:JR n i=some j):seqIndex? i n=some j∧j<n∧-(n:Int)≤i∧i<n:=by
 unfold JR at h
 by_cases h0:0≤i
 ·rw[if_pos h0] at h
  by_cases h1:i<n
  ·rw[if_pos h1] at h;have e:i.toNat=j:=Option.some.inj h
   exact⟨by rw[seqIndex_of h0 h1,e],by lia,by lia,h1⟩
  ·rw[if_neg h1] at h;cases h
 ·rw[if_neg h0] at h
  by_cases h1:-(n:Int)≤i
  ·rw[if_pos h1] at h;have e:(i+n).toNat=j:=Option.some.inj h
   exact⟨by rw[seqIndex_neg (by lia) h1,e],by lia,h1,by lia⟩
  ·rw[if_neg h1] at h;cases h
theorem Ep{α:Type}{xs:List α}{i:Int}{v:α}(h:JZ xs i=some v):∃ j,seqIndex? i xs.length=some j∧xs[j]?=some v∧j<xs.length∧-(xs.length:Int)≤i∧i<xs.length:=by
 unfold JZ at h
 cases e:JR xs.length i with
 | none=>rw[e] at h;cases h
 | some j =>
  rw[e] at h;obtain⟨h1,h2,h3,h4⟩:=DZ e
  exact⟨j,h1,h,h2,h3,h4⟩
theorem Jf{α:Type}{xs:List α}{j:Nat}{v:α}(h:xs[j]?=some v):JZ xs (j:Int)=some v:=by
 have hj:j<xs.length:=(List.getElem?_eq_some_iff.mp h).1;have e:JR xs.length (j:Int)=some j:=by
  unfold JR;rw[if_pos (by lia),if_pos (by lia)];simp
 unfold JZ;rw[e];exact h
def uk(b:Expr):Prop:=∀ o i,subscripted b false o i=operate [o,i] (getItem o i)
def Nw(X:Cx)(r:R2):Prop :=
 ∀ (value slice:Expr) (pins:List (Addr×Obj)) (s:Shared) (σ:St) (H:Hp) (x y:V) (v u:Value) (Q:VK),Inv X pins σ H s→cG x v→cG y u→r x y H Q →
  subscripted slice false v u=operate [v,u] (getItem v u)→wpAny (model X.prog X.w) X.A (subscriptTail value slice v u) (EP X pins σ Q) X.xe s
def NZ(X:Cx)(id:String)(r:V→List V→Hp→VK→Prop):Prop :=
 ∀ (pins:List (Addr×Obj)) (s:Shared) (σ:St) (H:Hp) (x:V) (xs:List V) (v:Value) (us:List Value) (Q:VK),Inv X pins σ H s→cG x v→bo xs us→r x xs H Q →
  wpAny (model X.prog X.w) X.A (call (.builtin id) (v::us)) (EP X pins σ Q) X.xe s
section
variable{X:Cx}{a b:Expr}{ta tb:TE}{pos:Pos}
theorem JJ(hr:Nw X r)(ha:PE X a ta)(hb:PE X b tb)(hs:uk b):PE X (.Subscript a b pos) (Hm r ta tb):=by
 intro pins s σ H Q I h;exact Subscript_ (Lw ha hb I h fun v u s2 x y H2 I2 rx ry q=>hr a b pins s2 σ H2 x y v u Q I2 rx ry q (hs _ _))
def Ct(K:PySem.W.Frag):R2:=fun x y H Q=>∃ p xs i v,x=.ref p∧y=.int i∧aL K H p xs∧JZ xs i=some v∧Q v H
def EN(K:PySem.W.Frag):R2:=fun x y H Q=>∃ p xs i v,x=.ref p∧y=.int i∧lP K H p xs∧JZ xs i=some v∧Q v H
theorem II:Nw X (Ct X.K):=by
 intro value slice pins s σ H x y v u Q I rx ry h hs;obtain⟨p,xs,i,z,rfl,rfl,hq,he,q⟩:=h;cases rx;obtain⟨t,rfl⟩:=ry;obtain⟨its,r,pl,hz⟩:=I.list hq;obtain⟨j,h1,h2,h3,h4,h5⟩:=Ep he;obtain⟨w,ew,rw'⟩:=r.get h2;have hl:=r.length;have hn:=zh;have dO:EP X pins σ Q w s:=⟨z,H,I,rw',q⟩
 by_cases h0:0≤i
 ·have hj:i.toNat=j:=by
   rw[seqIndex_of h0 h5] at h1;exact Option.some.inj h1
  exact item_listR pl.isList h0 (by lia) (by rw[hj];simpa using ew) dO hs
 ·have hj:(i+(its.toArray.size:Int)).toNat=j:=by
   rw[seqIndex_neg (by lia) h4] at h1
   rw[List.size_toArray,←hl];exact Option.some.inj h1
  exact subscriptTail_builtinR (x:=w) pl.isList.typeIs slot_list_getitem.lookup
   (wpAny_getItem_list_neg (Q:=fun r s'=>r=w∧EP X pins σ Q r s') pl.isList (by lia) (by rw[List.size_toArray]<;>lia) (by lia) (by rw[hj];simpa using ew) ⟨rfl,dO⟩) hs
theorem La:Nw X (EN X.K):=by
 intro value slice pins s σ H x y v u Q I rx ry h hs;obtain⟨p,xs,i,z,rfl,rfl,hq,he,q⟩:=h;cases rx;obtain⟨t,rfl⟩:=ry;obtain⟨its,r,pl,hz⟩:=I.tuple hq;obtain⟨j,h1,h2,h3,h4,h5⟩:=Ep he;obtain⟨w,ew,rw'⟩:=r.get h2;have hl:=r.length;have hn:=zh;have dO:EP X pins σ Q w s:=⟨z,H,I,rw',q⟩;exact subscriptTail_builtinR (x:=w) pl.typeIs slot_tuple_getitem.lookup
  (getItem_tuple (j:=j) (Q:=fun r s'=>r=w∧EP X pins σ Q r s') pl (by lia) (by lia) (by rw[List.size_toArray,←hl];exact h1) (by simpa using ew) ⟨rfl,dO⟩) hs
theorem CL(its:List Value)(n j:Nat)(u:Value):Obj.mapSeq (·.setIfInBounds j u) { cls:=.type "list",data:=.seq its.toArray n }={ cls:=.type "list",data:=.seq (its.set j u).toArray n }:=by
 simp[Obj.mapSeq]
theorem Inv.lst{pins:List (Addr×Obj)}{σ:St}{H:Hp}{s:Shared}{p:Addr}{xs:List V}(I:Inv X pins σ H s)(h:H p=some (.lst xs)) :
  ∃ (its:List Value) (n:Nat),bo xs its∧s.heap.get? p=some { cls:=.type "list",data:=.seq its.toArray n }∧xs.length≤sizeLine:=by
 obtain⟨z,its,n,r,e⟩:=I.hok p _ h
 exact⟨its,n,r,e,z⟩
theorem Inv.lstUpd{xs ys:List V}{its its':List Value}{n n':Nat}{f:Obj→Obj}(I:Inv X pins σ H s)(h:H p=some (.lst xs))
  (ho:s.heap.get? p=some { cls:=.type "list",data:=.seq its.toArray n }) (hf:f { cls:=.type "list",data:=.seq its.toArray n }={ cls:=.type "list",data:=.seq its'.toArray n' }) (r:bo ys its') (hz:ys.length≤sizeLine) (t:Nat) :
  Inv X pins σ (upd H p (.lst ys)) { s with heap:=s.heap.update p f,toks:=t }:=by
 have e:(s.heap.update p f).get? p=some { cls:=.type "list",data:=.seq its'.toArray n' }:=by
  rw[Heap.get?_update_self f ho (by rw[hf]<;>rfl),hf]
 refine I.write (x:=p) (e:=p) (by rw[h];trivial) (.inl rfl) (fun b u hb q=>(Heap.get?_update_other _ _ (Ne.symm hb)).trans q) ⟨_,e⟩ ?_
 exact⟨hz,its',n',r,e⟩
def Au:V→V→V→Hp→(Hp→Prop)→Prop:=fun o i v H Q=>∃ p xs k j,o=.ref p∧i=.int k∧H p=some (.lst xs)∧JR xs.length k=some j∧Q (upd H p (.lst (xs.set j v)))
theorem cW:Nr X Au:=by
 intro pins s σ H o i v ov iv u Q I ro ri rv h;obtain⟨p,xs,k,j,rfl,rfl,hp,hj,q⟩:=h;cases ro;obtain⟨t,rfl⟩:=ri;obtain⟨its,n,r,ho,hz⟩:=I.lst hp;obtain⟨h1,h2,h3,h4⟩:=DZ hj;have hl:=r.length;have hn:=zh;have I':Inv X pins σ (upd H p (.lst (xs.set j v))) { s with heap:=s.heap.update p (Obj.mapSeq (·.setIfInBounds j u)) } :=
  I.lstUpd hp ho (CL its n j u) (r.set rv j) (by rw[List.length_set];exact hz) s.toks
 by_cases h0:0≤k
 ·have hk:k.toNat=j:=by
   rw[seqIndex_of h0 h4] at h1;exact Option.some.inj h1
  exact PySem.W.ki_setAt ho h0 (by lia) (by rw[List.size_toArray,←hl];exact h4) (by rw[hk];exact⟨_,I',q⟩)
 ·have hk:(k+(its.toArray.size:Int)).toNat=j:=by
   rw[seqIndex_neg (by lia) h3] at h1
   rw[List.size_toArray,←hl];exact Option.some.inj h1
  exact PySem.W.ki_setBack ho (by lia) (by rw[List.size_toArray,←hl];exact h3) (by lia) (by rw[hk];exact⟨_,I',q⟩)
theorem yJ(lo hi:Option Int)(n:Nat):(sliceBounds lo hi none n).1=((HT.BW n 0 lo:Nat):Int)∧(sliceBounds lo hi none n).2.1=((HT.BW n n hi:Nat):Int)∧(sliceBounds lo hi none n).2.2=1:=by
 refine⟨?_,?_,rfl⟩
 ·cases lo with
  | none=>simp[sliceBounds,HT.BW]
  | some i =>
   simp only[sliceBounds,HT.BW,Option.getD_none,show (1:Int)>0 by decide,if_true]
   by_cases h:i<0
   ·simp only[h,if_true]<;>lia
   ·simp only[h,if_false]<;>lia
 ·cases hi with
  | none=>simp[sliceBounds,HT.BW]
  | some i =>
   simp only[sliceBounds,HT.BW,Option.getD_none,show (1:Int)>0 by decide,if_true]
   by_cases h:i<0
   ·simp only[h,if_true]<;>lia
   ·simp only[h,if_false]<;>lia
theorem wG(its:List Value)(lo hi:Option Int):slicePick its.toArray lo hi none=((its.drop (HT.BW its.length 0 lo)).take (HT.BW its.length its.length hi - HT.BW its.length 0 lo)).toArray:=by
 obtain⟨h1,h2,h3⟩:=yJ lo hi its.toArray.size;unfold slicePick;rw[h1,h2,h3];simp only[sliceRange_one,pick_run,List.size_toArray]<;>rfl
def KI(K:PySem.W.Frag):V→Option Int→Option Int→Hp→VK→Prop:=fun x lo hi H Q=>∃ a xs,x=.ref a∧aL K H a xs∧∀ p,H p=none→Q (.ref p) (upd H p (.lst (wu xs lo hi)))
theorem HK:OA X (KI X.K):=by
 intro pins s σ H x v vl vu lo hi sl Q I rx hs pl pu h;obtain⟨a,xs,rfl,hx,q⟩:=h;cases rx;obtain⟨its,r,ht,hz⟩:=I.list hx;have hlen:=r.length;refine⟨"list",_,slot_list_getitem.lookup,ht.isList.typeIs,?_⟩;refine wpAny_getItem_list_slice ht.isList hs pl pu .none (by simp) ?_ (by rw[List.size_toArray]<;>lia)
 rw[wG,←hlen];refine⟨.ref s.heap.objs.size,_,I.laid (t':=s.toks) (o:=.lst (wu xs lo hi)) (fun b ob q=>Heap.get?_push_of_some _ q) (Nat.le_refl _) ?_,rfl,q _ (I.hok.fresh (Nat.le_refl _))⟩
 exact⟨Nat.le_trans (Bz xs lo hi) hz,_,0,(r.drop (HT.BW xs.length 0 lo)).take (HT.BW xs.length xs.length hi - HT.BW xs.length 0 lo),Heap.get?_push_size _ rfl⟩
def sV:V→Bool
 | .non=>true
 | .bl _=>true
 | .int _=>true
 | .str _=>true
 | _=>false
def JV:V→V→Bool
 | .non,.non=>true
 | .bl a,.bl b=>a==b
 | .bl a,.int b=>(if a then 1 else 0)==b
 | .int a,.bl b=>a==(if b then 1 else 0)
 | .int a,.int b=>a==b
 | .str a,.str b=>a==b
 | _,_=>false
theorem Ln(ry:cG y u)(rx:cG x v)(fy:sV y=true)(fx:sV x=true):SeqAt.EqAt A s u v (JV y x):=by
 cases y with
 | non =>
  cases ry
  cases x with
  | non=>cases rx;exact SeqAt.EqAt.same _
  | bl b=>cases rx;exact SeqAt.EqAt.none_bool b
  | int b=>obtain⟨t,rfl⟩:=rx;exact SeqAt.EqAt.none_int b t
  | str b=>obtain⟨t,rfl⟩:=rx;exact SeqAt.EqAt.none_str b t
  | _=>exact absurd (show false=true from fx) Bool.false_ne_true
 | bl a =>
  cases ry
  cases x with
  | non=>cases rx;exact SeqAt.EqAt.bool_none a
  | bl b=>cases rx;exact SeqAt.EqAt.bool_bool a b
  | int b=>obtain⟨t,rfl⟩:=rx;exact SeqAt.EqAt.bool_int a b t
  | str b=>obtain⟨t,rfl⟩:=rx;exact SeqAt.EqAt.bool_str a b t
  | _=>exact absurd (show false=true from fx) Bool.false_ne_true
 | int a =>
  obtain⟨t',rfl⟩:=ry
  cases x with
  | non=>cases rx;exact SeqAt.EqAt.int_none a t'
  | bl b=>cases rx;exact SeqAt.EqAt.int_bool a t' b
  | int b=>obtain⟨t,rfl⟩:=rx;exact SeqAt.EqAt.int_int a t' b t
  | str b=>obtain⟨t,rfl⟩:=rx;exact SeqAt.EqAt.int_str a t' b t
  | _=>exact absurd (show false=true from fx) Bool.false_ne_true
 | str a =>
  obtain⟨t',rfl⟩:=ry
  cases x with
  | non=>cases rx;exact SeqAt.EqAt.str_none a t'
  | bl b=>cases rx;exact SeqAt.EqAt.str_bool a t' b
  | int b=>obtain⟨t,rfl⟩:=rx;exact SeqAt.EqAt.str_int a t' b t
  | str b=>obtain⟨t,rfl⟩:=rx;exact SeqAt.EqAt.str_str a t' b t
  | _=>exact absurd (show false=true from fx) Bool.false_ne_true
 | _=>exact absurd (show false=true from fy) Bool.false_ne_true
def IV(x:V)(u:Value):Bool:=match u with
 | .none=>JV .non x
 | .bool b=>JV (.bl b) x
 | .int i _=>JV (.int i) x
 | .str z _=>JV (.str z) x
 | _=>false
theorem G5{x y:V}{u:Value}(r:cG y u)(f:sV y=true):IV x u=JV y x:=by
 cases y with
 | non=>cases r;rfl
 | bl b=>cases r;rfl
 | int i=>obtain⟨t,rfl⟩:=r;rfl
 | str z=>obtain⟨t,rfl⟩:=r;rfl
 | _=>exact absurd (show false=true from f) Bool.false_ne_true
theorem zX:∀ {xs:List V}{us:List Value},bo xs us→xs.all sV=true→us.any (IV x)=xs.any fun y=>JV y x
 | _,_,.nil,_=>rfl
 | y::xs,u::us,.cons r t,f=>by
  rw[List.all_cons,Bool.and_eq_true] at f;rw[List.any_cons,List.any_cons,G5 r f.1,zX t f.2]
theorem vy{A:Around}{s:Shared}{x:V}{v:Value}(rx:cG x v)(fx:sV x=true):∀ {xs:List V}{us:List Value},bo xs us→xs.all sV=true→∀ u∈us,SeqAt.EqAt A s u v (IV x u)
 | _,_,.nil,_=>fun u hu=>by cases hu
 | y::xs,u::us,.cons r t,f=>fun u' hu=>by
  rw[List.all_cons,Bool.and_eq_true] at f;rcases List.mem_cons.mp hu with rfl | hu
  ·rw[G5 r f.1];exact Ln r rx f.1 fx
  ·exact vy rx fx t f.2 u' hu
def NT(x:V)(xs:List V):Bool:=xs.any fun y=>JV y x
def Og(K:PySem.W.Frag)(neg:Bool):R2:=fun x y H Q=>∃ p xs,y=.ref p∧(aL K H p xs∨lP K H p xs)∧sV x=true∧xs.all sV=true∧Q (.bl (if neg then !NT x xs else NT x xs)) H
theorem ES:ol X (compareOp .In) (Og X.K false):=by
 intro pins s σ H x y v u Q I rx ry h;obtain⟨p,xs,rfl,hq,fx,fs,q⟩:=h;cases ry;rcases hq with hq | hq
 ·obtain⟨its,r,pl,hz⟩:=I.list hq;refine SeqAt.in_listAt (IV x) pl.isList (fun w hw=>vy rx fx r fs w (by simpa using hw)) ⟨.bl _,H,I,rfl,?_⟩
  rw[show its.toArray.any (IV x)=its.any (IV x) by simp,zX r fs]
  exact q
 ·obtain⟨its,r,pl,hz⟩:=I.tuple hq;refine SeqAt.in_tupleAt (IV x) pl (fun w hw=>vy rx fx r fs w (by simpa using hw)) ⟨.bl _,H,I,rfl,?_⟩
  rw[show its.toArray.any (IV x)=its.any (IV x) by simp,zX r fs]
  exact q
theorem zV:jw X (.builtin "len") (fun xs H Q=>∃ p ys,xs=[.ref p]∧(aL X.K H p ys∨lP X.K H p ys)∧Q (.int ys.length) H):=by
 intro pins s σ H xs us Q I r h;obtain⟨p,ys,rfl,hq,q⟩:=h;obtain⟨u,rfl,rx⟩:=FN r;cases rx;have hn:=zh;rcases hq with hq | hq
 ·obtain⟨its,r',pl,hz⟩:=I.list hq;have hlen:=r'.length;exact Calls.call_len_list pl.isList (by simp only[List.size_toArray]<;>lia) ⟨.int ys.length,H,I.tok _,⟨s.toks+1,by rw[List.size_toArray,hlen]⟩,q⟩
 ·obtain⟨its,r',pl,hz⟩:=I.tuple hq;have hlen:=r'.length;exact len_tuple pl (by simp only[List.size_toArray]<;>lia) ⟨.int ys.length,H,I.tok _,⟨s.toks+1,by rw[List.size_toArray,hlen]⟩,q⟩
theorem zU:jw X (.type "list") (fun xs H Q=>∃ p ys,xs=[.ref p]∧(aL X.K H p ys∨lP X.K H p ys)∧∀ l,H l=none→Q (.ref l) (upd H l (.lst ys))):=by
 intro pins s σ H xs us Q I r h;obtain⟨p,ys,rfl,hq,q⟩:=h;obtain⟨u,rfl,rx⟩:=FN r;cases rx;have dO:∀ (its:List Value),bo ys its→ys.length≤sizeLine→∀ (h':Heap) (c':Nat),(∀ b o',s.heap.get? b=some o'→h'.get? b=some o') →
   h'.get? s.heap.objs.size=some { cls:=.type "list",dict:=none,data:=.seq its.toArray c',slots:=#[] }→EP X pins σ Q (.ref s.heap.objs.size) { s with heap:=h' }:=fun its r' hz h' c' kp e =>
  ⟨.ref s.heap.objs.size,_,I.laid (t':=s.toks) kp (Nat.le_refl _) (show gp X.prog X.w _ h' _ (.lst ys) from⟨hz,its,c',r',e⟩),rfl,q _ (I.hok.fresh (Nat.le_refl _))⟩
 rcases hq with hq | hq
 ·obtain⟨its,r',pl,hz⟩:=I.list hq;have hlen:=r'.length;obtain⟨o,ho,hc,n,hd⟩:=pl.isList;exact call_list_seq p (.inl rfl) ho hc hd (fun h' c' kp e=>dO its r' hz h' c' kp e) (by simp only[List.size_toArray]<;>lia)
 ·obtain⟨its,r',pl,hz⟩:=I.tuple hq;have hlen:=r'.length;obtain⟨o,ho,hc,n,hd⟩:=pl;exact call_list_seq p (.inr rfl) ho hc hd (fun h' c' kp e=>dO its r' hz h' c' kp e) (by simp only[List.size_toArray]<;>lia)
def J2(K:PySem.W.Frag)(T:String)(x:V)(H:Hp):Prop:=match x with
 | .str _=>T="str"
 | .int _=>T="int"
 | .ref p=>(T="list"∧∃ xs,aL K H p xs)∨(T="tuple"∧∃ o,K.lookup p=some o∧o.cls=.type "tuple"∧o.dict=none) ∨
   (T="dict"∧((∃ kvs,H p=some (.dK kvs))∨∃ kvs,H p=some (.dT kvs)))∨(T="set"∧∃ S n,H p=some (.set S n))
 | _=>False
theorem FO(I:Inv X pins σ H s)(r:cG x v)(ty:J2 X.K T x H) :
  s.TypeIs v T∧∀ a,v=.ref a→∃ ob,s.heap.get? a=some ob∧ob.dict=none:=by
 cases x with
 | str z =>
  obtain⟨t,rfl⟩:=r
  cases (show T="str" from ty)
  exact⟨typeIs_str s z t,fun _ e=>nomatch e⟩
 | int i =>
  obtain⟨t,rfl⟩:=r
  cases (show T="int" from ty)
  exact⟨typeIs_int s i t,fun _ e=>nomatch e⟩
 | ref p =>
  cases r;rcases ty with ⟨rfl,xs,hq⟩ | ⟨rfl,o,hk,hc,hd⟩ | ⟨rfl,hk⟩ | ⟨rfl,S,n,hk⟩
  ·obtain⟨its,_,pl,_⟩:=I.list hq;refine⟨pl.isList.typeIs,fun a e=>?_⟩
   cases e;obtain⟨o,n,e,c,hd,_⟩:=pl
   exact⟨o,e,hd⟩
  ·refine⟨⟨o,I.kIn p o hk,hc⟩,fun a e=>?_⟩
   cases e
   exact⟨o,I.kIn _ o hk,hd⟩
  ·have z:∃ o,s.heap.get? p=some o∧o.ExactDict:=by
    rcases hk with ⟨kvs,hk⟩ | ⟨kvs,hk⟩
    ·obtain⟨_,_,_,_,o,_,_,e,ex,_⟩:=I.hok p _ hk
     exact⟨o,e,ex⟩
    ·obtain⟨_,_,_,_,o,_,_,e,ex,_⟩:=I.hok p _ hk
     exact⟨o,e,ex⟩
   obtain⟨o,e,ex⟩:=z;refine⟨⟨o,e,ex.1⟩,fun a e2=>?_⟩
   cases e2
   exact⟨o,e,ex.2.1⟩
  ·obtain⟨o,_,_,_,e,ex,_⟩:=I.hok p _ hk;refine⟨⟨o,e,ex.1⟩,fun a e2=>?_⟩
   cases e2
   exact⟨o,e,ex.2.1⟩
 | _=>exact False.elim ty
def Ka(K:PySem.W.Frag)(T:String)(r:V→List V→Hp→VK→Prop)(to:TE):TE:=fun σ H Q=>to σ H fun x H1=>J2 K T x H1∧r x [] H1 Q
def NJ(K:PySem.W.Frag)(T:String)(r:V→List V→Hp→VK→Prop)(to:TE)(t:TA):TE:=fun σ H Q=>to σ H fun x H1=>J2 K T x H1∧t σ H1 fun xs H2=>r x xs H2 Q
variable{o e:Expr}{es:List Expr}{to:TE}{t:TA}{name:Str}{apos cpos:Pos}{T id:String}{r:V→List V→Hp→VK→Prop}
theorem KW(pa:PlainAttrs T)(slot:Slot T name id)(hty:typeOf (.builtin id)=pure (.type "method_descriptor"))(hm:NZ X id r)(ho:PE X o to)
  (hbase:attributeBase o name X.env (eval o X.env)=eval o X.env:=by rfl) (hline:(apos.endLine==cpos.line)=true:=by rfl):PE X (.Call (.Attribute o name apos) [] [] cpos) (Ka X.K T r to):=by
 intro pins s σ H Q I h;refine wpAny_Call_method0_late hbase hline (dL (ho pins s σ H _ I h) fun v s1 y=>?_)
 obtain⟨x,H1,I1,r1,ty,q1⟩:=y;obtain⟨h1,h2⟩:=FO I1 r1 ty
 exact⟨T,id,pa,slot,hty,h1,h2,Calls.callWith_builtin rfl (PySem.evalArgs_none (hm pins s1 σ H1 x [] v [] Q I1 r1 .nil q1))⟩
theorem JK(pa:PlainAttrs T)(slot:Slot T name id)(hty:typeOf (.builtin id)=pure (.type "method_descriptor"))(hm:NZ X id r)(ho:PE X o to)(ha:PA X (e::es) t)
  (hbase:attributeBase o name X.env (eval o X.env)=eval o X.env:=by rfl)
  (hfew:((backTo cpos (starEach (e::es) X.env)).all (fun x=>!x.1)&&(backToKw cpos (keywordEach [] X.env)).all (fun x=>x.1.isSome)
   && decide ((e::es).length+([]:List Keyword).length+(if ([]:List Keyword).isEmpty then 0 else 1)<30))=true:=by rfl)
  (hline:(apos.endLine==cpos.line)=true:=by rfl) (hs:starEach (e::es) X.env=(false,eval e X.env)::starEach es X.env:=by rfl) (hplain:(backTo cpos (starEach es X.env)).any (·.1)=false:=by rfl) :
  PE X (.Call (.Attribute o name apos) (e::es) [] cpos) (NJ X.K T r to t):=by
 intro pins s σ H Q I h;refine wpAny_Call_method_late hbase hfew hline rfl (dL (ho pins s σ H _ I h) fun v s1 y=>?_)
 obtain⟨x,H1,I1,r1,ty,q1⟩:=y;obtain⟨h1,h2⟩:=FO I1 r1 ty;refine⟨T,id,pa,slot,hty,h1,h2,?_⟩;have hA:=ha cpos pins s1 σ H1 _ I1 q1;rw[hs] at hA ⊢;refine Calls.callWith_builtin (by show (false||(backTo cpos (starEach es X.env)).any (·.1))=false;rw[hplain]<;>rfl) (Calls.evalArgs_plain ?_)
 exact dL hA fun us s2 ⟨vs,H2,I2,r2,q2⟩=>hm pins s2 σ H2 x vs v us Q I2 r1 r2 q2
end
def OW(X:Cx)(id:String)(r:V→List V→Hp→VK→Prop):Prop :=
 ∀ (pins:List (Addr×Obj)) (s:Shared) (σ:St) (H:Hp) (x:V) (xs:List V) (v:Value) (us:List Value) (Q:VK),Inv X pins σ H s→cG x v→bo xs us→r x xs H Q →
  wpAny (model X.prog X.w) X.A (call (.builtin id) (v::us)) (EP X pins σ Q) X.xe s
theorem bo.one:∀ {x:V}{us:List Value},bo [x] us→∃ u,us=[u]∧cG x u
 | _,_,.cons r .nil=>⟨_,rfl,r⟩
theorem bo.rep(h:bo xs us):∀ k:Nat,bo (List.replicate k xs).flatten (List.replicate k us).flatten
 | 0=>.nil
 | k+1=>by
  rw[List.replicate_succ,List.replicate_succ,List.flatten_cons,List.flatten_cons];exact bo.append h (bo.rep h k)
theorem yo(its:List Value):∀ (k:Nat) (acc:List Value),
  List.foldl (fun x1 x2=>x1++x2) acc.toArray (List.replicate k its.toArray)=(acc++(List.replicate k its).flatten).toArray
 | 0,acc=>by simp
 | k+1,acc=>by
  have e:acc.toArray++its.toArray=(acc++its).toArray:=by simp
  have e2:(acc++its)++(List.replicate k its).flatten=acc++(List.replicate (k+1) its).flatten:=by
   rw[List.replicate_succ,List.flatten_cons,List.append_assoc]
  rw[←e2,←yo its k (acc++its),←e,List.replicate_succ,List.foldl_cons]
section
variable{X:Cx}{pins:List (Addr×Obj)}{σ:St}{H:Hp}{s:Shared}{l b:Addr}{xs ys zs:List V}
theorem Inv.lset{its its':List Value}{n:Nat}{f:Array Value→Array Value}{t':Nat}(I:Inv X pins σ H s)(hH:H l=some (.lst xs))
  (e:s.heap.get? l=some { cls:=.type "list",data:=.seq its.toArray n }) (hf:f its.toArray=its'.toArray) (hv:bo ys its') (hz:ys.length≤sizeLine) :
  Inv X pins σ (upd H l (.lst ys)) { s with heap:=s.heap.update l (Obj.mapSeq f),toks:=t' }:=by
 have q:=PySem.IsL.update e f;rw[hf] at q;refine I.write (x:=l) (e:=l) (by rw[hH];exact trivial) (.inl rfl) (fun b' u hb hu=>(Heap.get?_update_other s.heap (Obj.mapSeq f) (Ne.symm hb)).trans hu) ⟨_,q⟩ ?_
 exact⟨hz,its',_,hv,q⟩
theorem Inv.lnew{t':Nat}(I:Inv X pins σ H s)(hv:bo ys its)(hz:ys.length≤sizeLine) :
  Inv X pins σ (upd H s.heap.objs.size (.lst ys)) { s with heap:=s.heap.push { cls:=.type "list",data:=.seq its.toArray },toks:=t' } :=
 I.laid (fun _ _ q=>Heap.get?_push_of_some _ q) (Nat.le_refl _) ⟨hz,its,0,hv,Heap.get?_push_size _ rfl⟩
theorem Inv.fresh(I:Inv X pins σ H s):H s.heap.objs.size=none:=I.hok.fresh (Nat.le_refl _)
theorem Inv.lstM(I:Inv X pins σ H s)(hH:H l=some (.lst xs)):xs.length≤sizeLine∧∃ (its:List Value) (n:Nat),bo xs its∧xs.length=its.length∧s.heap.get? l=some { cls:=.type "list",data:=.seq its.toArray n }:=by
 obtain⟨z,its,n,r,e⟩:=I.hok l _ hH
 exact⟨z,its,n,r,r.length,e⟩
theorem AM(h:n≤sizeLine):Builtin.List.listTooLong n=false:=by
 unfold Builtin.List.listTooLong;exact decide_eq_false (by lia)
end
section
variable{X:Cx}
def pY:V→List V→Hp→VK→Prop:=fun x vs H Q=>∃ l xs y,x=.ref l∧vs=[y]∧H l=some (.lst xs)∧xs.length<sizeLine∧Q .non (upd H l (.lst (xs++[y])))
theorem EW:OW X "list.append" pY:=by
 intro pins s σ H x vs v us Q I rx rv h;obtain⟨l,xs,y,rfl,rfl,hH,hz,q⟩:=h;cases rx;obtain⟨u,rfl,ru⟩:=rv.one;obtain⟨z,its,n,r,hl,e⟩:=I.lstM hH;refine call_meets F.slot_list_append ⟨_,e,rfl⟩ F.entry_list_append (F.args_list_append_2 _ _) (PySem.list_append l its.toArray n u (by rw[List.size_toArray];lia)) ⟨e,?_⟩
 refine⟨.non,_,I.lset (its':=its++[u]) hH e (by simp) (r.append (.cons ru .nil)) ?_,rfl,q⟩
 rw[List.length_append,List.length_singleton];lia
def ua:V→List V→Hp→VK→Prop:=fun x vs H Q=>∃ l b xs zs,x=.ref l∧vs=[.ref b]∧H l=some (.lst xs)∧H b=some (.lst zs)∧xs.length+zs.length≤sizeLine∧Q .non (upd H l (.lst (xs++zs)))
theorem EV:OW X "list.extend" ua:=by
 intro pins s σ H x vs v us Q I rx rv h;obtain⟨l,b,xs,zs,rfl,rfl,hH,hB,hz,q⟩:=h;cases rx;obtain⟨u,rfl,ru⟩:=rv.one;cases ru;obtain⟨z,its,n,r,hl,e⟩:=I.lstM hH;obtain⟨z2,its2,n2,r2,hl2,e2⟩:=I.lstM hB;have hsz:its.toArray.size+its2.toArray.size≤sizeLine:=by rw[List.size_toArray,List.size_toArray];lia
 have hlong:¬ (!its.toArray.isEmpty&&Builtin.List.listTooLong (its.toArray.size+its2.toArray.size))=true:=by
  rw[AM hsz,Bool.and_false];exact Bool.false_ne_true
 refine call_meets F.slot_list_extend ⟨_,e,rfl⟩ F.entry_list_extend (F.args_list_extend_2 _ _)
  (AutoSeq1.list_extend_list_list_0 l its.toArray n b its2.toArray n2 hlong (by rw[List.size_toArray];lia) (by lia)) ⟨e,e2,?_⟩
 refine⟨.non,_,I.lset (its':=its++its2) hH e (by simp) (r.append r2) ?_,rfl,q⟩
 rw[List.length_append];lia
def HW:R2:=fun x y H Q=>∃ l b xs zs,x=.ref l∧y=.ref b∧H l=some (.lst xs)∧H b=some (.lst zs)∧xs.length+zs.length≤sizeLine∧∀ p,H p=none→Q (.ref p) (upd H p (.lst (xs++zs)))
theorem jL:ol X (binaryOp .Add) HW:=by
 intro pins s σ H x y v u Q I rx ry h;obtain⟨l,b,xs,zs,rfl,rfl,hH,hB,hz,q⟩:=h;cases rx;cases ry;obtain⟨z,its,n,r,hl,e⟩:=I.lstM hH;obtain⟨z2,its2,n2,r2,hl2,e2⟩:=I.lstM hB;refine PySem.P.add_list e e2 ?_ (by rw[List.size_toArray,List.size_toArray];lia)
 have ea:its.toArray++its2.toArray=(its++its2).toArray:=by simp
 rw[ea]
 exact⟨.ref _,_,I.lnew (t':=s.toks) (r.append r2) (by rw[List.length_append];lia),rfl,q _ I.fresh⟩
def MV:R2:=fun x y H Q=>∃ l k xs,x=.ref l∧y=.int k∧H l=some (.lst xs)∧-(2 ^ 63)≤k∧k<2 ^ 63∧xs.length*k.toNat≤sizeLine ∧
 ∀ p,H p=none→Q (.ref p) (upd H p (.lst (List.replicate k.toNat xs).flatten))
theorem IB{α:Type}(xs:List α)(k:Nat):(List.replicate k xs).flatten.length=k*xs.length:=by
 induction k with
 | zero=>simp
 | succ k ih=>rw[List.replicate_succ,List.flatten_cons,List.length_append,ih,Nat.succ_mul,Nat.add_comm]
theorem mL:ol X (binaryOp .Mult) MV:=by
 intro pins s σ H x y v u Q I rx ry h;obtain⟨l,k,xs,rfl,rfl,hH,h1,h2,hz,q⟩:=h;cases rx;obtain⟨t,rfl⟩:=ry;obtain⟨z,its,n,r,hl,e⟩:=I.lstM hH;have hlen:its.toArray.size*k.toNat≤sizeLine:=by rw[List.size_toArray,←hl];exact hz
 have hcap:¬ its.toArray.size*k.toNat>(2 ^ 63 - 1) / 8:=by
  have:(sizeLine:Nat)≤(2 ^ 63 - 1) / 8:=by decide
  lia
 have hfit:¬ (!Builtin.List.listFitsIndex k)=true:=by
  rw[fitsIndex_both h1 h2];exact Bool.false_ne_true
 have hlong:¬ Builtin.List.listTooLong (its.toArray.size*k.toNat)=true:=by
  rw[AM hlen];exact Bool.false_ne_true
 have hnew:List.foldl (fun x1 x2=>x1++x2) #[] (List.replicate (if its.toArray.isEmpty=true then 0 else k.toNat) its.toArray)=(List.replicate k.toNat its).flatten.toArray:=by
  have f0:∀ m:Nat,List.foldl (fun x1 x2=>x1++x2) #[] (List.replicate m its.toArray)=(List.replicate m its).flatten.toArray:=fun m=>by
   have:=yo its m []
   rw[List.nil_append] at this;exact this
  rw[f0]
  cases its with
  | nil=>simp
  | cons a r'=>rw[if_neg (by simp)]
 refine wpAny_binaryOp_repeat_ref (T:="list") (U:="int") (by decide) ⟨_,e,rfl⟩ (fun s'=>typeIs_int s' k t) noFill_list_mul F.fills_int_mul F.slot_int_rmul repeat_list F.slot_int_index.lookup
  (call_meets F.slot_int_rmul (typeIs_int s k t) F.entry_int_rmul (F.args_int_rmul_2 _ _) (int___rmul___int_list k t l its.toArray n)
   ⟨e,rfl,⟨_,e,rfl⟩,call_meets F.slot_list_mul ⟨_,e,rfl⟩ F.entry_list_mul (F.args_list_mul_2 _ _) (AutoListH.list___mul___list_int_3 l its.toArray n k t hfit hcap hlong) ⟨e,?_⟩⟩)
 rw[hnew]
 exact⟨.ref _,_,I.lnew (t':=s.toks) (r.rep k.toNat) (by rw[IB,Nat.mul_comm];exact hz),rfl,q _ I.fresh⟩
end
theorem bo.ints:∀ {ns:List Int}{us:List Value},bo (ns.map V.int) us→IntsAre us ns
 | [],us,h=>by
  rw[List.map_nil] at h;cases h;exact IntsAre.nil
 | n::ns,us,h=>by
  rw[List.map_cons] at h
  cases h with
  | cons r t =>
   obtain⟨k,rfl⟩:=r;exact IntsAre.cons n k (bo.ints t)
theorem bo.bls:∀ {bs:List Bool}{us:List Value},bo (bs.map V.bl) us→us=bs.map Value.bool
 | [],us,h=>by
  rw[List.map_nil] at h;cases h;rfl
 | b::bs,us,h=>by
  rw[List.map_cons] at h
  cases h with
  | cons r t =>
   cases r;rw[bo.bls t,List.map_cons]
theorem bo.ref1{a:Addr}{us:List Value}(r:bo [V.ref a] us):us=[Value.ref a]:=by
 cases r with
 | cons r t =>
  cases t;cases r
  rfl
section
variable{prog:Program}{w:World}{A:Around}{E:Value→Shared→Prop}{s:Shared}{l:Addr}{its:List Value}{ns:List Int}{Q:Value→Shared→Prop}
theorem Hy(hh:A.handled=none)(hl:s.heap.IsList l its.toArray)(hi:IntsAre its ns)
  (h:∀ h' tk t',(∀ b o,s.heap.get? b=some o→h'.get? b=some o)→Q (.int ns.sum t') { s with heap:=h',toks:=tk }):wpAny (model prog w) A (call (.builtin "sum") [.ref l]) Q E s:=by
 obtain⟨xs,e⟩:=hi.allInts.items;have hn:numsOf (intItems xs).toList=ns:=by rw[←e];exact hi.numsOf
 rw[nums_intItems] at hn;rw[e] at hl;refine PySem.sum_intListG hh hl fun h' tk t' hk=>?_
 have:=h h' tk t' hk
 rw[preSum_eq,List.take_of_length_le (by simp),hn];exact this
end
section
variable{X:Cx}
def MU(K:PySem.W.Frag):List V→Hp→VK→Prop:=fun vs H Q=>∃ (a:Addr) (ns:List Int),vs=[V.ref a]∧aL K H a (ns.map V.int)∧Q (.int ns.sum) H
theorem Lr(hc:X.calm=true):jw X (.builtin "sum") (MU X.K):=by
 intro pins s σ H vs us Q I r h;obtain⟨a,ns,rfl,hs,q⟩:=h;obtain⟨its,rv,hl,_⟩:=I.list hs;rw[bo.ref1 r];exact Hy (I.ok.hd hc) hl.isList rv.ints fun h' tk t' hk=>⟨.int _,H,I.kept hk,⟨_,rfl⟩,q⟩
end
theorem AY{prog:Program}{w:World}{A:Around}{E:Value→Shared→Prop}{s:Shared}{l:Addr}{items:Array Value}{Q:Value→Shared→Prop}(hl:s.heap.IsList l items)
  (h:∀ s₂:Shared,s₂={ s with heap:=s.heap.push { cls:=.type "list_iterator",data:=.fields #[.ref l,.int 0 0] } } →
   (s₂.heap.IsListIter s.heap.objs.size l 0∧s₂.heap.IsList l items)→l≠s.heap.objs.size→Q (.ref s.heap.objs.size) s₂):wpAny (model prog w) A (pyIter (.ref l)) Q E s:=by
 have hlt:l<s.heap.objs.size:=by obtain⟨_,e,_⟩:=hl;exact Heap.lt_size e
 exact wpAny_pyIter_list hl (h _ rfl ⟨⟨_,Heap.get?_push_size _ rfl,rfl,rfl⟩,hl.push _⟩ (Nat.ne_of_lt hlt))
theorem rV{prog:Program}{w:World}{A:Around}{bs:List Bool}{its:List Value}(e:its=bs.map Value.bool) :
  TruthOf prog w A (fun i v=>its.toArray[i]?=some v) (fun i=>bs.getD i false):=fun i v s Q E hv hq=>by
 have hv':its[i]?=some v:=by simpa using hv
 rw[e,List.getElem?_map] at hv';obtain⟨b,hb,rfl⟩:=Option.map_eq_some_iff.mp hv';have hg:bs.getD i false=b:=by rw[List.getD_eq_getElem?_getD,hb]<;>rfl
 have hq':Q (bs.getD i false) s:=hq;rw[hg] at hq';exact wpAny_truthy_bool hq'
theorem yC:∀ bs:List Bool,(List.range bs.length).any (fun i=>bs.getD i false)=bs.any id
 | []=>rfl
 | b::bs=>by
  rw[List.length_cons,List.range_succ_eq_map,List.any_cons,List.any_map,List.any_cons,←yC bs]
  all_goals rfl
theorem yD:∀ bs:List Bool,(List.range bs.length).all (fun i=>bs.getD i false)=bs.all id
 | []=>rfl
 | b::bs=>by
  rw[List.length_cons,List.range_succ_eq_map,List.all_cons,List.all_map,List.all_cons,←yD bs]
  all_goals rfl
section
variable{X:Cx}
def KJ(K:PySem.W.Frag):List V→Hp→VK→Prop:=fun vs H Q=>∃ (a:Addr) (bs:List Bool),vs=[V.ref a]∧aL K H a (bs.map V.bl)∧Q (.bl (bs.any id)) H
def KL(K:PySem.W.Frag):List V→Hp→VK→Prop:=fun vs H Q=>∃ (a:Addr) (bs:List Bool),vs=[V.ref a]∧aL K H a (bs.map V.bl)∧Q (.bl (bs.all id)) H
theorem Ls(hc:X.calm=true):jw X (.builtin "any") (KJ X.K):=by
 intro pins s σ H vs us Q I r h;obtain⟨a,bs,rfl,hs,q⟩:=h;obtain⟨its,rv,hl,_⟩:=I.list hs;rw[bo.ref1 r];have hb:=rv.bls;refine call_any_walk (AY hl.isList fun s₂ e2 st hne=>?_)
 subst e2;refine⟨_,_,_,_,_,_,_,rfl,Walks.list (A:=X.A.in1) (I.ok.hd hc) _ a hne its.toArray,st,rV hb,fun h' tk hk=>?_⟩
 refine⟨.bl _,H,I.kept fun b o eo=>hk b o (fun hmem=>?_) (Heap.get?_push_of_some _ eo),?_,q⟩
 ·rcases List.mem_cons.mp hmem with e1 | hmem
  ·exact absurd (e1▸Heap.lt_size eo) (Nat.lt_irrefl _)
  ·cases hmem
 ·show Value.bool _=Value.bool _;rw[←yC,hb,List.size_toArray,List.length_map]
theorem Lu(hc:X.calm=true):jw X (.builtin "all") (KL X.K):=by
 intro pins s σ H vs us Q I r h;obtain⟨a,bs,rfl,hs,q⟩:=h;obtain⟨its,rv,hl,_⟩:=I.list hs;rw[bo.ref1 r];have hb:=rv.bls;refine call_all_walk (AY hl.isList fun s₂ e2 st hne=>?_)
 subst e2;refine⟨_,_,_,_,_,_,_,rfl,Walks.list (A:=X.A.in1) (I.ok.hd hc) _ a hne its.toArray,st,rV hb,fun h' tk hk=>?_⟩
 refine⟨.bl _,H,I.kept fun b o eo=>hk b o (fun hmem=>?_) (Heap.get?_push_of_some _ eo),?_,q⟩
 ·rcases List.mem_cons.mp hmem with e1 | hmem
  ·exact absurd (e1▸Heap.lt_size eo) (Nat.lt_irrefl _)
  ·cases hmem
 ·show Value.bool _=Value.bool _;rw[←yD,hb,List.size_toArray,List.length_map]
end
abbrev Hk(h:Heap)(c:Addr)(v:Option Value):Prop:=h.IsCell c v
def Od(scope sc:Scope):Scope :=
 { scope with names:=scope.names.map fun (n,k)=>if (k==.free&&sc.kind==.function&&sc.names.lookup n==some .cell) then (n,.cell) else (n,k) }
def cD(cells:List (Str×Addr)):List (Str×NameKind)→List (Str×Addr)→List (Str×Addr)
 | [],acc=>acc
 | (n,k)::r,acc=>if k==.free then cD cells r ((n,(cells.lookup n).getD 0)::acc) else cD cells r acc
theorem qE(env:Env)(f:Str×NameKind→List (Str×Addr)→Sem (ForInStep (List (Str×Addr))))
  (hf:∀ n k c,f (n,k) c=if k==.free then (do let a ←cellOf env n;pure (.yield ((n,a)::c))) else pure (.yield c)) :
  ∀ (names:List (Str×NameKind)) (acc:List (Str×Addr)),(∀ y∈names,y.2=.free→∃ c,env.cells.lookup y.1=some c)→forIn names acc f=pure (cD env.cells names acc)
 | [],acc,_=>by rw[List.forIn_nil];rfl
 | (n,k)::r,acc,h=>by
  rw[List.forIn_cons,hf];have ih:=fun acc=>qE env f hf r acc fun y hy=>h y (List.mem_cons_of_mem _ hy)
  unfold cD
  by_cases hk:(k==NameKind.free)=true
  ·rw[if_pos hk,if_pos hk];obtain⟨c,hc⟩:=h (n,k) List.mem_cons_self (by simpa using hk)
   have e:cellOf env n=pure c:=by unfold cellOf;rw[hc]
   rw[e];have e2:(env.cells.lookup n).getD 0=c:=by rw[hc];rfl
   rw[e2];exact ih _
  ·rw[if_neg hk,if_neg hk];exact ih _
theorem Dg{scope:Scope}{env:Env}(h:∀ y∈scope.names,y.2=.free→∃ c,env.cells.lookup y.1=some c):closureFor scope env=pure (cD env.cells scope.names []):=by
 simp only[closureFor];rw[qE env _ (fun n k c=>rfl) scope.names [] h]
 rfl
theorem oZ{α:Type}:∀ {l:List (Str×α)}{n:Str}{c:α},(n,c)∈l→∃ c',l.lookup n=some c'
 | (k,v)::r,n,c,h=>by
  rw[List.lookup_cons]
  cases hb:n==k with
  | true=>exact⟨_,rfl⟩
  | false =>
   rcases List.mem_cons.mp h with e | h
   ·cases e;simp at hb
   ·exact oZ h
theorem ju:∀ {names:List (Str×NameKind)}{acc:List (Str×Addr)}{n:Str}{c:Addr},(n,c)∈cD cells names acc→(n,c)∈acc∨((n,.free)∈names∧c=(cells.lookup n).getD 0)
 | [],_,_,_,h=>.inl h
 | (m,k)::r,acc,n,c,h=>by
  unfold cD at h
  split at h
  ·rename_i hk
   have hk:k=.free:=by simpa using hk
   rcases ju h with h | ⟨h1,h2⟩
   ·rcases List.mem_cons.mp h with e | h
    ·cases e;exact .inr ⟨hk▸List.mem_cons_self,rfl⟩
    ·exact .inl h
   ·exact .inr ⟨List.mem_cons_of_mem _ h1,h2⟩
  ·rcases ju h with h | ⟨h1,h2⟩
   ·exact .inl h
   ·exact .inr ⟨List.mem_cons_of_mem _ h1,h2⟩
theorem nj:∀ {names:List (Str×NameKind)}{acc:List (Str×Addr)}{p:Str×Addr},p∈acc→p∈cD cells names acc
 | [],_,_,h=>h
 | (m,k)::r,acc,p,h=>by
  unfold cD
  split
  ·exact nj (List.mem_cons_of_mem _ h)
  ·exact nj h
theorem ni:∀ {names:List (Str×NameKind)}{acc:List (Str×Addr)}{n:Str},(n,.free)∈names→(n,(cells.lookup n).getD 0)∈cD cells names acc
 | (m,k)::r,acc,n,h=>by
  unfold cD;rcases List.mem_cons.mp h with e | h
  ·cases e;exact nj List.mem_cons_self
  ·split
   ·exact ni h
   ·exact ni h
theorem kl:∀ {names:List (Str×NameKind)}{h:Heap}{acc:List (Str×Addr)}{x:Str}{c:Addr},(x,c)∈cellsFrom h.objs.size names acc →
  (x,c)∈acc∨((x,.cell)∈names∧h.objs.size≤c∧Hk (pushCells h names) c none)
 | [],_,_,_,_,h=>.inl h
 | (n,k)::r,h,acc,x,c,hm=>by
  unfold cellsFrom at hm;unfold pushCells
  split at hm
  ·rename_i hk
   rw[if_pos hk];have hk:k=.cell:=by simpa using hk
   rw[←Heap.size_push h { cls:=.type "cell",data:=.cell none }] at hm;rcases kl hm with hm | ⟨h1,h2,h3⟩
   ·rcases List.mem_cons.mp hm with e | hm
    ·cases e;exact .inr ⟨hk▸List.mem_cons_self,Nat.le_refl _,_,pushCells_keeps r _ _ _ (Heap.get?_push_size _ rfl),rfl⟩
    ·exact .inl hm
   ·rw[Heap.size_push] at h2;exact .inr ⟨List.mem_cons_of_mem _ h1,Nat.le_of_succ_le h2,h3⟩
  ·rename_i hk
   rw[if_neg hk];rcases kl hm with hm | ⟨h1,h2,h3⟩
   ·exact .inl hm
   ·exact .inr ⟨List.mem_cons_of_mem _ h1,h2,h3⟩
theorem nU:∀ {names:List (Str×NameKind)}{n:Nat}{acc:List (Str×Addr)}{p:Str×Addr},p∈acc→p∈cellsFrom n names acc
 | [],_,_,_,h=>h
 | (m,k)::r,n,acc,p,h=>by
  unfold cellsFrom
  split
  ·exact nU (List.mem_cons_of_mem _ h)
  ·exact nU h
theorem rQ:∀ {names:List (Str×NameKind)}{n:Nat}{acc:List (Str×Addr)}{x:Str},(x,.cell)∈names→∃ c,(x,c)∈cellsFrom n names acc
 | (m,k)::r,n,acc,x,h=>by
  unfold cellsFrom;rcases List.mem_cons.mp h with e | h
  ·cases e
   exact⟨n,nU List.mem_cons_self⟩
  ·split
   ·exact rQ h
   ·exact rQ h
theorem rP:∀ {names:List (Str×NameKind)}{h:Heap}{acc:List (Str×Addr)}{x y:Str}{c:Addr},(∀ p∈acc,p.2<h.objs.size)→(∀ x y c,(x,c)∈acc→(y,c)∈acc→x=y) →
  (x,c)∈cellsFrom h.objs.size names acc→(y,c)∈cellsFrom h.objs.size names acc→x=y
 | [],_,_,_,_,_,_,hi,h1,h2=>hi _ _ _ h1 h2
 | (n,k)::r,h,acc,x,y,c,hl,hi,h1,h2=>by
  unfold cellsFrom at h1 h2
  split at h1
  ·rename_i hk
   rw[if_pos hk] at h2;rw[←Heap.size_push h { cls:=.type "cell",data:=.cell none }] at h1 h2;refine rP (h:=h.push _) (fun p hp=>?_) (fun x y c a b=>?_) h1 h2
   ·rw[Heap.size_push];rcases List.mem_cons.mp hp with rfl | hp
    ·exact Nat.lt_succ_self _
    ·exact Nat.lt_succ_of_lt (hl p hp)
   ·rcases List.mem_cons.mp a with e | a<;>rcases List.mem_cons.mp b with e' | b
    ·cases e;cases e';rfl
    ·cases e;exact absurd (hl _ b) (Nat.lt_irrefl _)
    ·cases e';exact absurd (hl _ a) (Nat.lt_irrefl _)
    ·exact hi _ _ _ a b
  ·rename_i hk
   rw[if_neg hk] at h2;exact rP hl hi h1 h2
theorem AN{M:Model}{A:Around}{E:Value→Shared→Prop}{s:Shared}{scope:Scope}{globals:Addr}{closure:List (Str×Addr)}{qual:Str}{func:Option Addr}{code:Value}{around:Env}{builtins:Addr}{Q:Env→Shared→Prop}
  (h:Q (newEnv scope s.heap.objs.size globals (cellsFrom (s.heap.objs.size+1) scope.names closure) qual func code (some around) builtins)
   { s with heap:=pushCells (s.heap.push { cls:=.type "dict",data:=.dict #[] }) scope.names }) :
  wpAny M A (newFunctionEnv scope globals closure [] qual func code (some around) builtins) Q E s:=by
 simp only[newFunctionEnv,Option.isSome_some,if_true];refine wpAny_bind (wpAny_alloc ?_);refine wpAny_bind (wpAny_layCells _ (fun n k c=>rfl) scope.names closure _ _ ?_)
 rw[show ({ s with heap:=s.heap.push { cls:=.type "dict",data:=.dict #[] } }:Shared).heap.objs.size=s.heap.objs.size+1 from Heap.size_push ..]
 rw[List.forIn_nil];exact wpAny_bind (wpAny_pure (wpAny_pure h))
theorem mV{sc:Scope}:∀ {names:List (Str×NameKind)}{x:Str}{k:NameKind},
  (names.map fun (n,k)=>if (k==NameKind.free&&sc.kind==.function&&sc.names.lookup n==some .cell) then (n,NameKind.cell) else (n,k)).lookup x=some k →
  ∃ k',names.lookup x=some k'∧(k=k'∨(k'=.free∧k=.cell))
 | [],_,_,h=>by simp at h
 | (n,k₀)::r,x,k,h=>by
  have ih:=@mV sc r x k;have h':List.lookup x ((if (k₀==NameKind.free&&sc.kind==.function&&sc.names.lookup n==some .cell)=true then (n,NameKind.cell) else (n,k₀))::(r.map _))=some k:=h
  cases hx:x==n with
  | true =>
   simp only[List.lookup_cons,hx]
   by_cases hc:(k₀==NameKind.free&&sc.kind==.function&&sc.names.lookup n==some .cell)=true
   ·rw[if_pos hc] at h';simp only[List.lookup_cons,hx] at h'
    cases h'
    simp only[Bool.and_eq_true,beq_iff_eq] at hc
    exact⟨k₀,rfl,.inr ⟨hc.1.1,rfl⟩⟩
   ·rw[if_neg hc] at h';simp only[List.lookup_cons,hx] at h'
    cases h'
    exact⟨_,rfl,.inl rfl⟩
  | false =>
   simp only[List.lookup_cons,hx]
   by_cases hc:(k₀==NameKind.free&&sc.kind==.function&&sc.names.lookup n==some .cell)=true
   ·rw[if_pos hc] at h';simp only[List.lookup_cons,hx] at h';exact ih h'
   ·rw[if_neg hc] at h';simp only[List.lookup_cons,hx] at h';exact ih h'
structure BV(N:List Str)(sc scope:Scope)(own:List (Str×Nat)):Prop where
 kind:scope.kind=.function
 uniq:∀ y∈scope.names,scope.names.lookup y.1=some y.2
 ix:∀ p∈own,N[p.2]?=some p.1
 free:∀ y∈scope.names,y.2=.free→sc.names.lookup y.1=some .cell∨sc.names.lookup y.1=some .free
 own:∀ y∈scope.names,y.2=.local∨y.2=.cell→y.1∈own.map (·.1)∨y.1∉N
def bh(σ:St):List Nat→St
 | []=>σ
 | v::vs=>(bh σ vs).set v none
theorem lS(σ:St):∀ vs:List Nat,(bh σ vs).length=σ.length
 | []=>rfl
 | v::vs=>by unfold bh;rw[List.length_set,lS σ vs]
theorem qO:∀ {vs:List Nat},(bh σ vs)[i]?=some (some x)→σ[i]?=some (some x)∧i∉vs
 | [],h=>⟨h,by simp⟩
 | v::vs,h=>by
  unfold bh at h
  by_cases hi:v=i
  ·subst hi
   by_cases hv:v<(bh σ vs).length
   ·rw[List.getElem?_set_self hv] at h;cases h
   ·rw[List.getElem?_eq_none (by simpa using hv)] at h;cases h
  ·rw[List.getElem?_set_ne hi] at h;obtain⟨h1,h2⟩:=qO h
   exact⟨h1,by simp only[List.mem_cons,not_or];exact⟨fun e=>hi e.symm,h2⟩⟩
abbrev Cx.blk(X:Cx)(s:Shared)(H:Hp)(scope:Scope)(cenv:Env)(fp:List Addr):Cx:={ X with s_0:=s,H_0:=H,env:=cenv,outer:=X.stack,ex:=fp,fn:=fun x=>scope.names.lookup x==some .cell,pn:=[],xe:=fun _ _=>False }
section
variable{X:Cx}{pins:List (Addr×Obj)}{σ:St}{H:Hp}{s:Shared}
theorem BB{scope:Scope}{own:List (Str×Nat)}{fp:List Addr}(I:Inv X pins σ H s)(ok:BV X.N X.env.scope scope own)(hN:X.N.Nodup)(hfp:∀ b∈fp,tY X pins H b∧b<s.heap.objs.size) :
  Inv (X.blk s H scope (compEnvC scope (cellsFrom (s.heap.objs.size+1) scope.names (cD X.env.cells scope.names [])) s.heap.objs.size X.env) fp) [] (bh σ (own.map (·.2))) H { s with heap:=pushCells (s.heap.push { cls:=.type "dict",data:=.dict #[] }) scope.names }:=by
 have hfree:∀ y∈scope.names,y.2=.free→∃ c,X.env.cells.lookup y.1=some c:=fun y hy e=>by
  rcases ok.free y hy e with k | k
  ·exact I.ok.has _ (.inl k)
  ·exact I.ok.has _ (.inr k)
 generalize hcenv:compEnvC scope (cellsFrom (s.heap.objs.size+1) scope.names (cD X.env.cells scope.names [])) s.heap.objs.size X.env=cenv;have kp:∀ b o,s.heap.get? b=some o→(pushCells (s.heap.push { cls:=.type "dict",data:=.dict #[] }) scope.names).get? b=some o:=fun b o e=>pushCells_keeps _ _ _ _ (Heap.get?_push_of_some _ e)
 have hL:cenv.locals=s.heap.objs.size:=by rw[←hcenv];rfl
 have hcl:cenv.cells=cellsFrom (s.heap.objs.size+1) scope.names (cD X.env.cells scope.names []):=by rw[←hcenv];rfl
 have hsc:cenv.scope=Od scope X.env.scope:=by rw[←hcenv];rfl
 rw[←Heap.size_push s.heap { cls:=.type "dict",data:=.dict #[] }] at hcl;have cm:∀ {y c},(y,c)∈cD X.env.cells scope.names []→X.env.cells.lookup y=some c∧c<s.heap.objs.size:=fun {y c} hm=>by
  rcases ju hm with hm | ⟨h1,rfl⟩
  ·cases hm
  ·obtain⟨c,hc⟩:=hfree _ h1 rfl;rw[hc];obtain⟨w,z⟩:=I.cell _ _ hc
   exact⟨rfl,z.lt⟩
 have mem:∀ {y c},cenv.cells.lookup y=some c→(X.env.cells.lookup y=some c∧c<s.heap.objs.size)∨(s.heap.objs.size+1≤c∧Hk (pushCells (s.heap.push { cls:=.type "dict",data:=.dict #[] }) scope.names) c none):=fun {y c} e=>by
  rw[hcl] at e;rcases kl (PySem.mem_of_lookup e) with hm | ⟨_,h2,h3⟩
  ·exact .inl (cm hm)
  ·rw[Heap.size_push] at h2;exact .inr ⟨h2,h3⟩
 have look:∀ {y},scope.names.lookup y=some .free→∃ c,cenv.cells.lookup y=some c∧X.env.cells.lookup y=some c:=fun {y} hl=>by
  have hy:(y,NameKind.free)∈scope.names:=PySem.mem_of_lookup hl;obtain⟨c',e'⟩:=oZ (nU (names:=scope.names) (n:=(s.heap.push { cls:=.type "dict",data:=.dict #[] }).objs.size) (ni (cells:=X.env.cells) (acc:=[]) hy));rw[←hcl] at e';refine⟨c',e',?_⟩;rw[hcl] at e';rcases kl (PySem.mem_of_lookup e') with hm | ⟨h1,_,_⟩
  ·exact (cm hm).1
  ·have:=ok.uniq _ h1
   rw[hl] at this;cases this
 have okB:(X.blk s H scope cenv fp).Ok:=by
  refine⟨I.ok.mod,by show cenv.scope.kind=_;rw[hsc];exact ok.kind,by show cenv.globals=_;rw[←hcenv];exact I.ok.glob,by show cenv.builtins=_;rw[←hcenv];exact I.ok.blt,by show s.heap.objs.size≤cenv.locals;rw[hL];exact Nat.le_refl _,
   fun y z c e1 e2=>?_,fun y hy=>?_,fun y c z e=>?_,I.ok.hd,I.ok.frames,.inl rfl,fun b hb=>⟨?_,fun y c e z=>?_⟩,I.bs,Nat.le_trans I.ok.bsz I.sz,fun b o e hb=>?_,fun b hb z=>?_,I.stack,I.stkFree⟩
  ·have e1:cenv.cells.lookup y=some c:=e1;have e2:cenv.cells.lookup z=some c:=e2;rw[hcl] at e1 e2;refine rP (fun p hp=>?_) (fun y z c a b=>I.ok.inj y z c (cm a).1 (cm b).1) (PySem.mem_of_lookup e1) (PySem.mem_of_lookup e2)
   rw[Heap.size_push];exact Nat.lt_succ_of_lt (cm (y:=p.1) (c:=p.2) hp).2
  ·show ∃ c,cenv.cells.lookup y=some c;have key:∀ k,cenv.kindOf y=some k→(k=.cell∨k=.free)→∃ c,cenv.cells.lookup y=some c:=fun k hk hk'=>by
    unfold Env.kindOf at hk;rw[hsc] at hk;obtain⟨k',e,r⟩:=mV hk
    have:k'=.cell∨k'=.free:=by
     rcases r with rfl | ⟨rfl,_⟩
     ·exact hk'
     ·exact .inr rfl
    rcases this with rfl | rfl
    ·obtain⟨c,hm⟩:=rQ (n:=(s.heap.push { cls:=.type "dict",data:=.dict #[] }).objs.size) (acc:=cD X.env.cells scope.names []) (PySem.mem_of_lookup e);obtain⟨c',e'⟩:=oZ hm
     exact⟨c',by rw[hcl];exact e'⟩
    ·obtain⟨c,h1,_⟩:=look e
     exact⟨c,h1⟩
   rcases hy with hy | hy
   ·exact key _ hy (.inl rfl)
   ·exact key _ hy (.inr rfl)
  ·have z:(scope.names.lookup y==some NameKind.cell)=true:=z;have z:scope.names.lookup y=some .cell:=by simpa using z
   have e:cenv.cells.lookup y=some c:=e;rw[hcl] at e;rcases kl (PySem.mem_of_lookup e) with hm | ⟨_,h2,_⟩
   ·rcases ju hm with hm | ⟨h1,_⟩
    ·cases hm
    ·have q:=ok.uniq _ h1;rw[z] at q;cases q
   ·rw[Heap.size_push] at h2;exact Nat.le_of_succ_le h2
  ·show b≠cenv.locals;rw[hL];exact Nat.ne_of_lt (hfp b hb).2
  ·have e:cenv.cells.lookup y=some c:=e;rcases mem e with ⟨h1,_⟩ | ⟨h1,_⟩
   ·exact (hfp b hb).1.2.2.2.2.1 y c h1 z
   ·have h2:s.heap.objs.size+1≤b:=by rw[←z];exact h1
    exact absurd (Nat.lt_of_lt_of_le (hfp b hb).2 (Nat.le_of_succ_le h2)) (Nat.lt_irrefl _)
  ·rcases (hfp b hb).1.2.2.2.1 with z | z
   ·exact I.ok.noex b o e z
   ·exact absurd (Nat.lt_of_lt_of_le (Heap.lt_size e) (Nat.le_trans I.ok.bsz z)) (Nat.lt_irrefl _)
  ·rcases List.mem_cons.mp (I.stkSub b z) with z | z
   ·exact (hfp b hb).1.2.1 z
   ·exact (hfp b hb).1.2.2.1 z
 refine⟨okB,rfl,I.bare,Un.kept kp,⟨fun _=>none,?_,fun i y av e1 e2 e3=>?_⟩,fun y c e=>?_,?_,fun y c e=>?_,fun p hp=>?_,I.hok.kept kp,by rw[lS];exact I.len⟩
 ·show Heap.Ns _ cenv.locals _;rw[hL];exact Heap.Ns.keeps (Heap.Ns.new ..) fun b o e=>pushCells_keeps _ _ _ _ e
 ·obtain⟨e2,hne⟩:=qO e2;have hfr:scope.names.lookup y=some .free∧(cenv.kindOf y=some .cell∨cenv.kindOf y=some .free):=by
   have key:∀ k,cenv.scope.names.lookup y=some k→k=.local∨k=.cell∨k=.free→scope.names.lookup y=some .free∧(cenv.kindOf y=some .cell∨cenv.kindOf y=some .free):=fun k hk hk'=>by
    have hk0:=hk;rw[hsc] at hk;obtain⟨k',e,r⟩:=mV hk;have no:¬ (k'=.local∨k'=.cell):=fun hh=>by
     rcases ok.own _ (PySem.mem_of_lookup e) hh with e' | e'
     ·obtain⟨p,hp,hpy⟩:=List.mem_map.mp e';have e3:=ok.ix p hp
      have:p.1=y:=hpy
      rw[this] at e3;exact hne (List.mem_map.mpr ⟨p,hp,vt hN e3 e1⟩)
     ·exact e' (List.mem_of_getElem? e1)
    rcases r with rfl | ⟨rfl,rfl⟩
    ·rcases hk' with rfl | rfl | rfl
     ·exact absurd (.inl rfl) no
     ·exact absurd (.inr rfl) no
     ·exact⟨e,.inr hk0⟩
    ·exact⟨e,.inl hk0⟩
   have e3:LJ cenv.scope y:=e3;rcases e3 with e3 | e3 | e3
   ·exact key _ e3 (.inl rfl)
   ·exact key _ e3 (.inr (.inl rfl))
   ·exact key _ e3 (.inr (.inr rfl))
  obtain⟨m,hn,hl⟩:=I.loc;have hvis:LJ X.env.scope y:=(ok.free _ (PySem.mem_of_lookup hfr.1) rfl).elim (fun k=>.inr (.inl k)) (fun k=>.inr (.inr k))
  obtain⟨w,r,q⟩:=hl i y av e1 e2 hvis;refine⟨w,r,.inr ⟨hfr.2,?_⟩⟩;obtain⟨c,h1,h2⟩:=look hfr.1;rcases q with ⟨k,_⟩ | ⟨_,c',e',z⟩
  ·have k:X.env.scope.names.lookup y=some .local:=k;rcases ok.free _ (PySem.mem_of_lookup hfr.1) rfl with k' | k'<;>rw[show X.env.scope.names.lookup y=_ from k'] at k<;>cases k
  ·rw[h2] at e';cases e'
   exact⟨c,h1,z.keeps kp⟩
 ·have e:cenv.cells.lookup y=some c:=e;rcases mem e with ⟨h1,_⟩ | ⟨_,z⟩
  ·obtain⟨w,z⟩:=I.cell y c h1
   exact⟨w,z.keeps kp⟩
  ·exact⟨_,z⟩
 ·show H cenv.locals=none;rw[hL];exact I.hok.fresh (Nat.le_refl _)
 ·have e:cenv.cells.lookup y=some c:=e;rcases mem e with ⟨h1,_⟩ | ⟨h1,_⟩
  ·exact I.freeC y c h1
  ·exact I.hok.fresh (Nat.le_of_succ_le h1)
 ·exact absurd (show p∈([]:List (Addr×Obj))++[] from hp) (by simp)
theorem Ly{E:Value→Shared→Prop}{Q:Value→Shared→Prop}(I:Inv X pins σ H s)(hD:H D=some (.lst xs))(hz:xs.length<sizeLine)(r:cG y v)
  (h:∀ s',Inv X pins σ (upd H D (.lst (xs++[y]))) s'→Q .none s'):wpAny (model X.prog X.w) X.A (call (.builtin "list.append") [.ref D,v]) Q E s:=by
 obtain⟨hz',its,n,ri,e⟩:=I.hok D _ hD;have hl:=ri.length;refine append_at (hsz:=by rw[List.size_toArray];lia) e fun h' sb ho'=>?_
 refine h { s with heap:=h' } (I.write (t':=s.toks) (by rw[hD];trivial) (.inl rfl) (fun b u hb q=>(sb.2 b hb).trans q) ⟨_,ho'⟩ ⟨by rw[List.length_append];exact hz,its++[v],n+1,ri.append (.cons r .nil),?_⟩)
 rw[ho']
 simp
def NX(X:Cx)(ifs:List Expr)(t:TT):Prop :=
 ∀ (pins:List (Addr×Obj)) (s:Shared) (σ:St) (H:Hp) (Q:Bool→Hp→Prop),Inv X pins σ H s→t σ H Q →
  wpAny (model X.prog X.w) X.A (forIn ifs true fun c r=>if r=true then do let ok ←isTrue c X.env (eval c X.env);pure (ForInStep.yield ok) else pure (ForInStep.yield r)) (TP X pins σ Q) X.xe s
def Cb:TT:=fun _ H Q=>Q true H
theorem bE:NX X [] Cb:=fun _ _ _ H _ I h=>wpAny_tests_nil ⟨H,I,h⟩
end
theorem Ez{α:Type}{t:Sem α}{Q Q':α→Shared→Prop}{M:Model}{A:Around}{E:Value→Shared→Prop}{s:Shared}(h:wpAny M A t Q (fun _ _=>False) s)(hQ:∀ a s,Q a s→Q' a s):wpAny M A t Q' E s:=wpAny_mono h hQ fun _ _ z=>False.elim z
theorem zT{prog:Program}{w:World}{A:Around}{R:Result→Shared→Prop}{s:Shared}{elt target iter:Expr}{ifs:List Expr}{scope:Scope}{pos:Pos}{it acc:Value}{env:Env}(I:Nat→Shared→Prop)
  (turn:∀ n s,I n s→wpAny (model prog w) A (pyNext it) (fun r s₁=>match r with
   | none=>R (.ok .next) s₁
   | some v=>wpAny (model prog w) A (letOwnedTupleGo target it v) (fun _ s₁'=>wpAny (model prog w) A (assign target env v) (fun _ s₂ =>
     wpAny (model prog w) A (forIn ifs true fun c r=>if r=true then do let ok ←isTrue c env (eval c env);pure (ForInStep.yield ok) else pure (ForInStep.yield r)) (fun ok s₃ =>
      if ok=true then wpAny (model prog w) A (eval elt env) (fun x s₄ =>
       wpAny (model prog w) A (call (.builtin "list.append") [acc,x]) (fun _ s₅=>∃ m,m<n∧I m s₅) (notedBy (model prog w) A env fun e s'=>R (.error e) s') s₄) (notedBy (model prog w) A env fun e s'=>R (.error e) s') s₃
      else ∃ m,m<n∧I m s₃) (notedBy (model prog w) A env fun e s'=>R (.error e) s') s₂) (notedBy (model prog w) A env fun e s'=>R (.error e) s') s₁') (notedBy (model prog w) A env fun e s'=>R (.error e) s') s₁) (notedBy (model prog w) A env fun e s'=>R (.error e) s') s)
  (n:Nat) (h:I n s) :
  codeAny (model prog w) A (.compLoop (.ListComp elt [⟨target,iter,ifs,0⟩] scope pos) 0 it acc env) R s:=by
 refine codeAny_loop rfl I (fun n s hI=>?_) n h
 show wpAny _ A ((compTurn (.ListComp elt [⟨target,iter,ifs,0⟩] scope pos) 0 it acc env).onRaise (fun x=>do noteFrame x env;theTreesLotGoes x)) _ _ s
 refine wpAny_noted ?_
 rw[compTurn_list];refine wpAny_bind (wpAny_standAt (wpAny_bind (wpAny_mono (turn n s hI) (fun r s₁ h₁=>?_) fun _ _ h'=>h')))
 cases r with
 | none=>exact wpAny_pure h₁
 | some v =>
  refine wpAny_bind (wpAny_mono h₁ (fun _ s₁' h₁'=>?_) fun _ _ h'=>h')
  refine wpAny_bind (wpAny_mono h₁' (fun _ s₂ h₂=>wpAny_bind (wpAny_mono h₂ (fun ok s₃ h₃=>?_) fun _ _ h'=>h')) fun _ _ h'=>h')
  cases ok with
  | false=>exact wpAny_pure ⟨rfl,h₃⟩
  | true =>
   exact wpAny_bind (wpAny_bind (wpAny_mono h₃ (fun x s₄ h₄=>wpAny_bind (wpAny_mono h₄ (fun _ s₅ h₅=>wpAny_pure (wpAny_pure ⟨rfl,h₅⟩)) fun _ _ h'=>h')) fun _ _ h'=>h'))
section
variable{X:Cx}
def LW(wi:TI)(g:TG)(tt:TT)(te:TE)(vs:List Nat):TE:=fun σ H Q=>wi σ H fun J H1=>∀ D,H1 D=none→∃ W:Nat→Nat→Hp→Prop,(∃ m,W 0 m (upd H1 D (.lst [])))∧∀ i m H,W i m H →
 (J.stop i H∧Q (.ref D) H)∨(J.go i H∧∃ Nx:Hp→Prop,(∀ H',Nx H'→∃ m',m'<m∧W (i+1) m' H')∧∀ x H',J.yld i H x H'→g x (bh σ vs) H' fun σ2 H2=>bh σ2 vs=bh σ vs∧tt σ2 H2 fun b H3 =>
  if b=true then te σ2 H3 fun y H4=>∃ acc,H4 D=some (.lst acc)∧acc.length<sizeLine∧Nx (upd H4 D (.lst (acc++[y]))) else Nx H3)
theorem DX{pins:List (Addr×Obj)}{s:Shared}{σ:St}{H:Hp}{Q:VK}{elt tg iter:Expr}{ifs:List Expr}{scope:Scope}{own:List (Str×Nat)}{pos pos':Pos}{wi:TI}{g:TG}{tt:TT}{te:TE}{use:Option (Value→Sem Unit)}{Qf:Value→Shared→Prop}
  (hc:X.calm=true) (hN:X.N.Nodup) (I:Inv X pins σ H s) (hi:PI X tg iter wi) (ok:BV X.N X.env.scope scope own)
  (hg:∀ (s:Shared) (H:Hp) (C:Addr) (cl:List (Str×Addr)) (fp:List Addr),PG (X.blk s H scope (compEnvC scope cl C X.env) fp) tg g) (ht:∀ (s:Shared) (H:Hp) (C:Addr) (cl:List (Str×Addr)) (fp:List Addr),NX (X.blk s H scope (compEnvC scope cl C X.env) fp) ifs tt)
  (he:∀ (s:Shared) (H:Hp) (C:Addr) (cl:List (Str×Addr)) (fp:List Addr),PE (X.blk s H scope (compEnvC scope cl C X.env) fp) elt te) (hs:∀ x,foldedSetIterable iter X.env x=pure x)
  (h:LW wi g tt te (own.map (·.2)) σ H Q)
  (hRR:∀ D C s' m H',Inv X pins σ H' s'→Q (.ref D) H'→s'.heap.Ns C m→tY X pins H' C→compPost (model X.prog X.w) X.A X.xe use Qf (.ref D) C (.ok .next) s') :
  wpAny (model X.prog X.w) X.A (comprehension (.ListComp elt [⟨tg,iter,ifs,0⟩] scope pos) scope X.env pos' (newList []) false (eval iter X.env) use) Qf X.xe s:=by
 have hfree:∀ y∈scope.names,y.2=.free→∃ c,X.env.cells.lookup y.1=some c:=fun y hy e=>by
  rcases ok.free y hy e with k | k
  ·exact I.ok.has _ (.inl k)
  ·exact I.ok.has _ (.inr k)
 refine wpAny_comprehension_free (use:=use) rfl hs (Dg hfree) ok.kind (fun y hy e=>by rw[ok.uniq y hy,e])
  (dL (hi pins s σ H _ I h) fun xv s1 hx=>dL hx fun itv s2 h2=>?_)
 obtain⟨it,fp,tn,J,H2,e,I2,T,FH,f2,q⟩:=h2;subst e;refine wpAny_newObj_type (AN ?_) (by show 0≤sizeLine;decide)
 generalize hD:s2.heap.objs.size=D;have hDn:H2 D=none:=I2.hok.fresh (Nat.le_of_eq hD);obtain⟨W,⟨m0,w0⟩,turn⟩:=q D hDn;generalize hs3:({ s2 with heap:=s2.heap.push { cls:=.type "list",data:=.seq ([]:List Value).toArray } }:Shared)=s3
 have I3:Inv X pins σ (upd H2 D (.lst [])) s3:=by
  rw[←hs3];refine I2.laid (t':=s2.toks) (fun b o e=>Heap.get?_push_of_some _ e) (Nat.le_of_eq hD) ⟨Nat.zero_le _,[],0,.nil,?_⟩
  rw[←hD];exact Heap.get?_push_size _ rfl
 have h3:s3.heap=s2.heap.push { cls:=.type "list",data:=.seq ([]:List Value).toArray }:=by rw[←hs3]
 have sz:∀ b∈fp,b<s2.heap.objs.size:=fun b hb=>by
  obtain⟨o,e,_⟩:=T.obj _ _ FH b hb;exact Heap.lt_size e
 have f3:∀ b∈fp,tY X pins (upd H2 D (.lst [])) b∧b<s3.heap.objs.size:=fun b hb=>by
  have hlt:=sz b hb;refine⟨⟨?_,(f2 b hb).2⟩,by rw[h3,Heap.size_push];exact Nat.lt_succ_of_lt hlt⟩
  rw[ao (by rw[←hD];exact Nat.ne_of_lt hlt)]
  exact (f2 b hb).1
 have FV:tn 0 s3.heap:=T.keep _ _ _ FH fun b _ o e=>by rw[h3];exact Heap.get?_push_of_some _ e
 have I4:=BB I3 ok hN f3;have pg:=hg s3 (upd H2 D (.lst [])) s3.heap.objs.size (cellsFrom (s3.heap.objs.size+1) scope.names (cD X.env.cells scope.names [])) fp;have pt:=ht s3 (upd H2 D (.lst [])) s3.heap.objs.size (cellsFrom (s3.heap.objs.size+1) scope.names (cD X.env.cells scope.names [])) fp;have pe:=he s3 (upd H2 D (.lst [])) s3.heap.objs.size (cellsFrom (s3.heap.objs.size+1) scope.names (cD X.env.cells scope.names [])) fp;show codeAny _ _ (.compStart (.ListComp elt [⟨tg,iter,ifs,0⟩] scope pos) 0 (.ref it) (.ref D) (compEnvC scope (cellsFrom (s3.heap.objs.size+1) scope.names (cD X.env.cells scope.names [])) s3.heap.objs.size X.env)) (compPost (model X.prog X.w) X.A X.xe use Qf (.ref D) s3.heap.objs.size) { s3 with heap:=pushCells (s3.heap.push { cls:=.type "dict",data:=.dict #[] }) scope.names }
 have nfp:∀ b∈fp,(upd H2 D (.lst [])) b=none:=fun b hb=>(f3 b hb).1.1
 generalize hce:compEnvC scope (cellsFrom (s3.heap.objs.size+1) scope.names (cD X.env.cells scope.names [])) s3.heap.objs.size X.env=ce at I4 pg pt pe ⊢;have cL:ce.locals=s3.heap.objs.size:=by subst hce;rfl
 generalize hH3:upd H2 D (.lst [])=H3 at I3 I4 pg pt pe w0 nfp f3;generalize hs4:({ s3 with heap:=pushCells (s3.heap.push { cls:=.type "dict",data:=.dict #[] }) scope.names }:Shared)=s4 at I4 ⊢
 have FG:tn 0 s4.heap:=T.keep _ _ _ FV fun b _ o e=>by rw[←hs4];exact pushCells_keeps _ _ _ _ (Heap.get?_push_of_some _ e)
 have stat:∀ {σ':St}{H':Hp}{s':Shared},Inv (X.blk s3 H3 scope ce fp) [] σ' H' s'→(∀ b∈fp,H' b=none)→∀ b∈fp,tY (X.blk s3 H3 scope ce fp) [] H' b:=fun {σ' H' s'} I' hn b hb =>
  ⟨hn b hb,(I'.ok.exf b hb).1,I'.ok.exfs b hb,.inl hb,fun x c e=>(I'.ok.exf b hb).2 x c e,fun p hp=>absurd (show p∈([]:List (Addr×Obj))++[] from hp) (by simp)⟩
 have loop:codeAny (model X.prog X.w) X.A (.compLoop (.ListComp elt [⟨tg,iter,ifs,0⟩] scope pos) 0 (.ref it) (.ref D) ce) (compPost (model X.prog X.w) X.A X.xe use Qf (.ref D) s3.heap.objs.size) s4:=by
  refine zT (fun n s'=>∃ i H',Inv (X.blk s3 H3 scope ce fp) [] (bh σ (own.map (·.2))) H' s'∧tn i s'.heap∧(∀ b∈fp,H' b=none)∧W i n H') ?_ m0 ⟨0,H3,I4,FG,nfp,w0⟩
  rintro n s5 ⟨i,H5,I5,FF,n5,w5⟩
  rcases turn i n H5 w5 with ⟨stop,qq⟩ | ⟨go,Nx,hNx,step⟩
  ·have td:=T.done (X.blk s3 H3 scope ce fp) rfl rfl rfl hc i [] s5 _ H5 (fun _ _=>False) I5 (stat I5 n5) FF stop
   refine Ez td fun r s6 y=>?_
   obtain⟨hr,I6⟩:=y;subst hr;have I7:Inv X pins σ H5 s6:=I3.call' (ch:=fp) I6.os I6.base I6.hok I6.bare fun b hb=>⟨(f3 b hb).1.2.2.2.1,(f3 b hb).1.2.1,(f3 b hb).1.2.2.2.2.1,(f3 b hb).1.2.2.2.2.2⟩
   have nC:H5 s3.heap.objs.size=none:=by
    have z:H5 ce.locals=none:=I6.free;rw[cL] at z;exact z
   obtain⟨m,hn,_⟩:=I6.loc;have hn:s6.heap.Ns ce.locals m:=hn;rw[cL] at hn;exact hRR D s3.heap.objs.size s6 m H5 I7 qq hn (I3.fpOk (Nat.le_refl _) nC)
  ·have ti:=T.item (X.blk s3 H3 scope ce fp) rfl rfl rfl hc i [] s5 _ H5 (fun _ _=>False) I5 (stat I5 n5) FF go
   refine Ez ti fun r s6 y=>?_
   obtain⟨u,hr,h6⟩:=y;subst hr;refine Ez h6 fun _ s7 y=>?_
   obtain⟨x,H7,I7,r7,y7,FE,n7⟩:=y;have I7':=I7.pinned (stat I7 n7) (T.obj _ _ FE);refine Ez (pg _ s7 _ H7 x u _ I7' r7 (step x H7 y7)) fun _ s8 y=>?_
   obtain⟨σ8,H8,I8,hw8,q8⟩:=y;refine Ez (pt _ s8 σ8 H8 _ I8 q8) fun b s9 y=>?_
   obtain⟨H9,I9,q9⟩:=y;have dO:∀ {s':Shared}{H':Hp},Inv (X.blk s3 H3 scope ce fp) ([]++u6 fp s7.heap) σ8 H' s'→Nx H'→∃ m,m<n∧∃ i H',Inv (X.blk s3 H3 scope ce fp) [] (bh σ (own.map (·.2))) H' s'∧tn i s'.heap∧(∀ b∈fp,H' b=none)∧W i m H':=fun {s' H'} I' nx=>by
    obtain⟨m',hm,w'⟩:=hNx H' nx;have pin':∀ b∈fp,∀ o,s7.heap.get? b=some o→s'.heap.get? b=some o∧H' b=none:=fun b hb o e =>
     let z:=I'.pin (b,o) (List.mem_append_right _ (List.mem_append_right _ (oY hb e)))
     ⟨z.1,z.2.1⟩
    have hl:(bh σ (own.map (·.2))).length=σ8.length:=by rw[←hw8,lS]
    refine⟨m',hm,i+1,H',(I'.unpinned (pins:=[])).weak hl (fun j v e=>?_),T.keep _ _ _ FE fun b hb o e=>(pin' b hb o e).1,fun b hb=>?_,w'⟩
    ·rw[←hw8] at e;exact (qO e).1
    ·obtain⟨o,e,_⟩:=T.obj _ _ FE b hb;exact (pin' b hb o e).2
   cases b with
   | false =>
    simp only[Bool.false_eq_true,if_false] at q9 ⊢;exact dO I9 q9
   | true =>
    simp only[if_true] at q9 ⊢;refine Ez (pe _ s9 σ8 H9 _ I9 q9) fun z s10 y=>?_
    obtain⟨yv,H10,I10,r10,acc,hD10,hz10,nx⟩:=y;exact Ly (X:=X.blk s3 H3 scope ce fp) I10 hD10 hz10 r10 fun s11 I11=>dO I11 nx
 exact codeAny_compStart_list loop (T.self X.A 0 _ _ _ FG loop)
theorem dM{elt tg iter:Expr}{ifs:List Expr}{pos:Pos}{g:TG}{tt:TT}{te:TE}(hc:X.calm=true)(hN:X.N.Nodup)(hi:PI X tg iter wi)(ok:BV X.N X.env.scope scope own)
  (hg:∀ (s:Shared) (H:Hp) (C:Addr) (cl:List (Str×Addr)) (fp:List Addr),PG (X.blk s H scope (compEnvC scope cl C X.env) fp) tg g) (ht:∀ (s:Shared) (H:Hp) (C:Addr) (cl:List (Str×Addr)) (fp:List Addr),NX (X.blk s H scope (compEnvC scope cl C X.env) fp) ifs tt)
  (he:∀ (s:Shared) (H:Hp) (C:Addr) (cl:List (Str×Addr)) (fp:List Addr),PE (X.blk s H scope (compEnvC scope cl C X.env) fp) elt te) (hs:∀ x,foldedSetIterable iter X.env x=pure x:=by intro _;rfl) :
  PE X (.ListComp elt [⟨tg,iter,ifs,0⟩] scope pos) (LW wi g tt te (own.map (·.2))):=by
 intro pins s σ H Q I h;rw[eval_ListComp];refine DX hc hN I hi ok hg ht he hs h fun D C s' m H' I' q hn f=>⟨m,hn,fun h'' sb=>?_⟩
 obtain⟨f0,f1,f2,f3,f4,f5⟩:=f
 exact⟨.ref D,H',I'.turned (t':=s'.toks) (fun b o hb e=>(sb.2 b hb).trans e) f0 f1 f3 f4 f5,rfl,q⟩
theorem mH{py:Pos}{elt tg iter:Expr}{ifs:List Expr}{scope:Scope}{own:List (Str×Nat)}{pos spos:Pos}{wi:TI}{g:TG}{tt:TT}{te:TE}(hc:X.calm=true)(hN:X.N.Nodup)(hy:X.N[i]?=some y)(hyl:X.env.scope.names.lookup y=some .local)
  (hsw:swapsWith (.ListComp elt [⟨tg,iter,ifs,0⟩] scope pos) (some (.Name y py)) spos.line X.env=pure true) (hi:PI X tg iter wi) (ok:BV X.N X.env.scope scope own)
  (hg:∀ (s:Shared) (H:Hp) (C:Addr) (cl:List (Str×Addr)) (fp:List Addr),PG (X.blk s H scope (compEnvC scope cl C X.env) fp) tg g) (ht:∀ (s:Shared) (H:Hp) (C:Addr) (cl:List (Str×Addr)) (fp:List Addr),NX (X.blk s H scope (compEnvC scope cl C X.env) fp) ifs tt)
  (he:∀ (s:Shared) (H:Hp) (C:Addr) (cl:List (Str×Addr)) (fp:List Addr),PE (X.blk s H scope (compEnvC scope cl C X.env) fp) elt te) (hs:∀ x,foldedSetIterable iter X.env x=pure x:=by intro _;rfl) :
  PS X (.Assign [.Name y py] (.ListComp elt [⟨tg,iter,ifs,0⟩] scope pos) spos) (EB (LW wi g tt te (own.map (·.2))) (db i)):=by
 intro pins s σ H D I h;rw[exec_Assign_Name_used _ _ _ _ hsw];refine wpAny_bind (wpAny_standAt (wpAny_bind ?_));show wpAny _ X.A (do let _ ←comprehension (.ListComp elt [⟨tg,iter,ifs,0⟩] scope pos) scope X.env (firstIterPos [⟨tg,iter,ifs,0⟩] pos) (newList []) false (eval iter X.env) (some (assign (.Name y py) X.env))) _ _ s
 have h:LW wi g tt te (own.map (·.2)) σ H (fun x H1=>db i x σ H1 D.nx):=h
 refine wpAny_bind (dL (DX (Qf:=fun _ s'=>SP X pins D .next s') hc hN I hi ok hg ht he hs h fun L C s' m H' I' q hn f=>?_) fun _ s' hq=>wpAny_pure (wpAny_pure hq))
 show wpAny _ _ (assign (.Name y py) X.env (.ref L)) _ _ _;refine wpAny_assign_Name (xJ (v:=V.ref L) I' hN hy (.inl hyl) rfl (fun s2 I2 ⟨a,sb,ha⟩=>?_) (.inr hyl))
 obtain⟨f0,f1,f2,f3,f4,f5⟩:=f;have haC:C≠a:=by
  rcases ha with z | z
  ·rw[z];exact f1
  ·exact fun e=>f4 y a z e.symm
 refine⟨m,hn.sameBut sb haC,fun h3 sb3=>?_⟩
 exact⟨_,H',I2.turned (t':=s2.toks) (fun b o hb e=>(sb3.2 b hb).trans e) f0 f1 f3 f4 f5,q⟩
theorem pp{elt:Expr}{gs:List Comprehension}{scope:Scope}{l:Nat}(hk:env.scope.kind=.function)(hy:env.scope.names.lookup y=some .local)(hl:(py.line==pos.line)=true)
  (ha:(scope.names.any fun (n,k)=>n==y&&(k==.local||k==.cell))=false):swapsWith (.ListComp elt gs scope pos) (some (.Name y py)) l env=pure true:=by
 have ky:env.kindOf y=some .local:=hy;have hb:env.blockKind=.function:=by unfold Env.blockKind;rw[hk];rfl
 unfold swapsWith;simp only[hb,ky,ha,Expr.pos,hl];rfl
end
def Nj(N:List Str)(sc scope:Scope)(own:List (Str×Nat)):Bool :=
 (match scope.kind with | .function=>true | _=>false)&&(scope.names.all fun y=>decide (scope.names.lookup y.1=some y.2))&&(own.all fun p=>decide (N[p.2]?=some p.1)) &&
  (scope.names.all fun y=>match y.2 with
   | .free=>(match sc.names.lookup y.1 with | some .cell=>true | some .free=>true | _=>false)
   | .local=>decide (y.1∈own.map (·.1))||decide (y.1∉N)
   | .cell=>decide (y.1∈own.map (·.1))||decide (y.1∉N)
   | _=>true)
theorem aY(h:Nj N sc scope own=true):BV N sc scope own:=by
 unfold Nj at h;simp only[Bool.and_eq_true,List.all_eq_true,decide_eq_true_eq] at h;obtain⟨⟨⟨h1,h2⟩,h3⟩,h4⟩:=h;refine⟨?_,h2,h3,fun y hy e=>?_,fun y hy e=>?_⟩
 ·split at h1
  ·assumption
  ·cases h1
 ·have q:=h4 y hy;simp only[e] at q
  split at q<;>first | exact .inl (by assumption) | exact .inr (by assumption) | cases q
 ·have q:=h4 y hy;rcases e with e | e<;>(simp only[e,Bool.or_eq_true,decide_eq_true_eq] at q;exact q)
section
variable{X:Cx}{pins:List (Addr×Obj)}{σ:St}{H:Hp}{s:Shared}{h':Heap}
theorem Inv.turnedL{t':Nat}{ch:List Addr}(I:Inv X pins σ H s)(k:∀ b o,b∉ch→s.heap.get? b=some o→h'.get? b=some o)(hf:∀ b∈ch,tY X pins H b):Inv X pins σ H { s with heap:=h',toks:=t' }:=by
 have nit:∀ b u,H b=some u→b∉ch:=fun b u e z=>by
  have q:=(hf b z).1;rw[q] at e;cases e
 refine I.step (g':=s.gens) (d':=s.drawn) (ch:=ch) (fun b hb=>⟨(hf b hb).2.2.2.1,(hf b hb).2.1,(hf b hb).2.2.2.2.1,(hf b hb).2.2.2.2.2⟩) (fun b o _ _ hc e _=>k b o hc e) (fun b o _ _ hc e _=>⟨o.slots,k b o hc e⟩)
  (fun _ _ _ _ n=>n) (fun b o hc e=>⟨o,k b o hc e⟩) (fun _ _ e=>e) (fun _ _ _ e=>e) (fun b ps e=>⟨#[],by rw[e];simp⟩) (fun m hm=>?_) (fun b u e=>?_) I.bare
 ·obtain⟨o,es,ep,ho,r⟩:=hm
  exact⟨o,es,ep,k _ o (fun z=>(hf _ z).2.1 rfl) ho,r⟩
 ·refine (I.hok b u e).stay (fun c v hc q=>k c v ?_ q) (fun _ q=>q) fun _ _ q=>q
  rcases hc with z | z
  ·rw[z];exact nit b u e
  ·exact nit c _ z
theorem Inv.turnedNew{t':Nat}{ch:List Addr}{T:Addr}{ob:HO}(I:Inv X pins σ H s)(k:∀ b o,b∉ch→s.heap.get? b=some o→h'.get? b=some o)(hf:∀ b∈ch,tY X pins H b)(hT:s.heap.objs.size≤T)
  (new:gp X.prog X.w (upd H T ob) h' T ob):Inv X pins σ (upd H T ob) { s with heap:=h',toks:=t' }:=by
 have hn:H T=none:=I.hok.fresh hT;have nit:∀ b u,H b=some u→b∉ch:=fun b u e z=>by
  have q:=(hf b z).1;rw[q] at e;cases e
 refine I.step (g':=s.gens) (d':=s.drawn) (ch:=ch) (fun b hb=>⟨(hf b hb).2.2.2.1,(hf b hb).2.1,(hf b hb).2.2.2.2.1,(hf b hb).2.2.2.2.2⟩) (fun b o _ _ hc e _=>k b o hc e) (fun b o _ _ hc e _=>⟨o.slots,k b o hc e⟩)
  (fun b o _ e n=>?_) (fun b o hc e=>⟨o,k b o hc e⟩) (fun b xs e=>?_) (fun b o u e=>?_) (fun b ps e=>⟨#[],?_⟩) (fun m hm=>?_) (fun b u e=>?_) I.bare
 ·rw[ao (Nat.ne_of_lt (Nat.lt_of_lt_of_le (Heap.lt_size e) hT))];exact n
 ·rw[ao (au e hn)];exact e
 ·rw[ao (au e hn)];exact e
 ·rw[ao (au e hn),e];simp
 ·obtain⟨o,es,ep,ho,r⟩:=hm
  exact⟨o,es,ep,k _ o (fun z=>(hf _ z).2.1 rfl) ho,r⟩
 ·by_cases hb:b=T
  ·subst hb;rw[af] at e;cases e;exact new
  ·rw[ao hb] at e;refine (I.hok b u e).stay (fun c v hc q=>k c v ?_ q) (fun c q=>by rw[ao (au q hn)];exact q) fun c xs q=>by rw[ao (au q hn)];exact q
   rcases hc with z | z
   ·rw[z];exact nit b u e
   ·exact nit c _ z
end
section
variable{X:Cx}
theorem KR{tg:Expr}{R:It→Hp→Prop}{J:It}{tn:Nat→Heap→Prop}{tk:Nat}(I:Inv X pins σ H s)(o:Obj)
  (T:BN X.prog X.w X.K tg J [s.heap.objs.size] s.heap.objs.size tn) (st:tn 0 (s.heap.push o)) (q:R J H):OD X pins σ tg R (.ref s.heap.objs.size) { s with heap:=s.heap.push o,toks:=tk }:=by
 refine⟨s.heap.objs.size,[s.heap.objs.size],tn,J,H,rfl,I.kept fun b ob e=>Heap.get?_push_of_some _ e,T,st,fun b hb=>?_,q⟩
 have e:b=s.heap.objs.size:=by simpa using hb
 subst e;exact I.fpOk (Nat.le_refl _) (I.hok.fresh (Nat.le_refl _))
end
def Nz(lo c:Int)(n:Nat):It:=⟨fun i _=>i<n,fun i H x H'=>H'=H∧x=.int (lo+(i:Nat)*c),fun i _=>n≤i⟩
theorem Ad{P:Program}{w:World}{K:PySem.W.Frag}{tg:Expr}(it:Addr)(lo c:Int)(n:Nat):BN P w K tg (Nz lo c n) [it] it (fun i h=>IsRangeIter h it (lo+(i:Nat)*c) ((n:Int) - (i:Nat)) c) where
 mem:=by simp
 obj:=fun i h st b hb=>by
  have e:b=it:=by simpa using hb
  subst e
  exact⟨_,st,fun v z=>nomatch z⟩
 keep:=fun i h h' st k=>k it (by simp) _ st
 item:=by
  intro X hP hw hK hc i pins s σ H E I hf st hg;subst hP hw hK;obtain⟨f0,f1,f2,f3,f4,f5⟩:=hf it (by simp)
  have W:=Walks.range (prog:=X.prog) (w:=X.w) (I.ok.hd hc) it lo c n;refine W.item i s _ _ hg st fun v h' tk hv st' kk=>?_
  obtain⟨t,rfl⟩:=hv;have I1:Inv X pins σ H { s with heap:=h',toks:=tk }:=I.turned (fun b o hb e=>kk b o (by simpa using hb) e) f0 f1 f3 f4 f5
  exact⟨_,rfl,D5 (s:={ s with heap:=h',toks:=tk }) (n:="range_iterator") st' rfl rfl (by decide) ⟨.int (lo+(i:Nat)*c),H,I1,⟨t,rfl⟩,⟨rfl,rfl⟩,st',fun b hb=>(hf b hb).1⟩⟩
 done:=by
  intro X hP hw hK hc i pins s σ H E I hf st hg;subst hP hw hK;obtain⟨f0,f1,f2,f3,f4,f5⟩:=hf it (by simp)
  exact wpAny_pyNext_range_end (I.ok.hd hc) st (by have:n≤i:=hg;lia) fun h' eb=>⟨rfl,I.turned (t':=s.toks) (fun b o hb e=>eb b o hb e) f0 f1 f3 f4 f5⟩
 self:=fun A i s Q E st h=>wpAny_pyIter_rangeiter st h
def Np(i j c:Int)(n:Nat):Prop:=c≠0∧c.natAbs<1073741824∧Builtin.Range.small i j c=true∧Builtin.Range.rangeSize i j c=n
def JS(ta:TA):TI:=fun σ H R=>ta σ H fun vs H1=>∃ (i j c:Int) (n:Nat),vs=[.int i,.int j,.int c]∧Np i j c n∧R (Nz i c n) H1
section
variable{X:Cx}{tg:Expr}
theorem fT{p pos:Pos}(hg:Gl X "range")(hm:X.mg "range"=none)(ha:PA X [a,b,c] ta)
  (hs:starEach [a,b,c] X.env=(false,eval a X.env)::starEach [b,c] X.env:=by rfl) (hpl:(backTo pos (starEach [b,c] X.env)).any (·.1)=false:=by rfl) :
  PI X tg (.Call (.Name "range" p) [a,b,c] [] pos) (JS ta):=by
 intro pins s σ H R I h;refine Call_ (ra I hg hm boot_range (PyProof.Rows.callWith_type1 (dL (ha pos pins s σ H _ I h) fun us s1 ⟨vs,H1,I1,r1,q1⟩=>?_) hs hpl))
 obtain⟨i,j,k,n,e,⟨c0,c1,c2,c3⟩,q⟩:=q1;subst e
 cases r1 with
 | cons r rr =>
  cases rr with
  | cons r' rr =>
   cases rr with
   | cons r'' rr =>
    cases rr;obtain⟨t,rfl⟩:=r
    obtain⟨t',rfl⟩:=r';obtain⟨t'',rfl⟩:=r'';refine call_range_3 c0 ?_ (.inl (PyProof.noPylong_small c1));refine wpAny_pyIter_range (IsRange.new ..) c2 ?_
    have I2:Inv X pins σ H1 { s1 with heap:=s1.heap.push { cls:=.type "range",data:=.fields #[.int i t,.int j t',.int k t''] } }:=I1.kept (t':=s1.toks) fun b o e=>Heap.get?_push_of_some _ e
    refine KR (tk:=s1.toks) I2 _ (Ad _ i k n) ?_ q;have e1:i+((0:Nat):Int)*k=i:=by simp
    have e2:(n:Int) - ((0:Nat):Int)=Builtin.Range.rangeSize i j k:=by rw[c3];simp
    show IsRangeIter _ _ (i+((0:Nat):Int)*k) ((n:Int) - ((0:Nat):Int)) k;rw[e1,e2];exact Heap.get?_push_size _ rfl
end
def OF(K:PySem.W.Frag)(a:Addr):It :=
 ⟨fun i H=>∃ (xs:List V) (x:V),aL K H a xs∧xs[i]?=some x,fun i H v H'=>∃ T x,v=.ref T∧H T=none∧H'=upd H T (.tup [.int (i:Nat),x])∧∀ xs,aL K H a xs→xs[i]?=some x,fun i H=>∃ xs:List V,aL K H a xs∧xs.length≤i⟩
theorem Ew{P:Program}{w:World}{K:PySem.W.Frag}{elts:List Expr}{kk:Nat}{tpos:Pos}(a e it:Addr) :
  BN P w K (.Tuple elts kk tpos) (OF K a) [e,it] e (fun i h=>(∃ old,IsEnum h e it ((i:Nat):Int) old)∧h.IsListIter it a i∧e≠it) where
 mem:=by simp
 obj:=fun i h st b hb=>by
  obtain⟨⟨old,he⟩,⟨o,ho,hc,hd⟩,_⟩:=st;have e':b=e∨b=it:=by simpa using hb
  rcases e' with z | z
  ·rw[z];exact⟨_,he,fun v q=>nomatch q⟩
  ·rw[z];exact⟨o,ho,fun v q=>by rw[hd] at q;cases q⟩
 keep:=fun i h h' st k=>let ⟨⟨old,he⟩,hi,hne⟩:=st;⟨⟨old,k e (by simp) _ he⟩,hi.at fun o q=>k it (by simp) o q,hne⟩
 item:=by
  intro X hP hw hK hc i pins s σ H E I hf st hg;subst hP hw hK;obtain⟨⟨old,he⟩,hit,hne⟩:=st;obtain⟨xs,x,hq,hx⟩:=hg;obtain⟨its,rv,p,hz⟩:=I.list hq;obtain⟨u,hu,ru⟩:=rv.get hx;have hel:e<s.heap.objs.size:=Heap.lt_size he;have hil:it<s.heap.objs.size:=by obtain⟨_,q,_⟩:=hit;exact Heap.lt_size q
  refine wpAny_pyNext_enum_item he hit p.isList (x:=u) (by simpa using hu) hne fun h' ho hit' hT hsz hk=>?_
  refine⟨_,rfl,wpAny_letOwnedTupleGo_enum (s:={ s with heap:=h',toks:=s.toks+1 }) ho fun h'' he' sb=>?_⟩
  have hT2:h''.get? s.heap.objs.size=some { cls:=.type "tuple",data:=.seq #[.int i s.toks,u] }:=(sb.2 _ (Nat.ne_of_gt hel)).trans hT;have new:gp X.prog X.w (upd H s.heap.objs.size (.tup [.int (i:Nat),x])) h'' s.heap.objs.size (.tup [.int (i:Nat),x]) :=
   ⟨by show 2≤sizeLine;decide,[.int i s.toks,u],.cons ⟨_,rfl⟩ (.cons ru .nil),⟨_,hT2,rfl,_,rfl⟩⟩
  have I1:Inv X pins σ (upd H s.heap.objs.size (.tup [.int (i:Nat),x])) { s with heap:=h'',toks:=s.toks+1 } :=
   I.turnedNew (ch:=[e,it]) (fun b ob hb q=>(sb.2 b (fun z=>hb (by simp[z]))).trans (hk b ob (fun z=>hb (by simp[z])) (fun z=>hb (by simp[z])) q)) hf (Nat.le_refl _) new
  refine⟨.ref s.heap.objs.size,_,I1,rfl,⟨_,x,rfl,I.hok.fresh (Nat.le_refl _),rfl,fun ys hy=>by rw[I.list_inj hy hq];exact hx⟩,⟨⟨u,?_⟩,hit'.at fun o q=>(sb.2 it (Ne.symm hne)).trans q,hne⟩,fun b hb=>?_⟩
  ·have e1:((i+1:Nat):Int)=(i:Int)+1:=by lia
   rw[e1];exact he'
  ·have hb':b<s.heap.objs.size:=by
    have e':b=e∨b=it:=by simpa using hb
    rcases e' with z | z
    ·rw[z];exact hel
    ·rw[z];exact hil
   rw[ao (Nat.ne_of_lt hb')];exact (hf b hb).1
 done:=by
  intro X hP hw hK hc i pins s σ H E I hf st hg;subst hP hw hK;obtain⟨⟨old,he⟩,hit,hne⟩:=st;obtain⟨xs,hq,hx⟩:=hg;obtain⟨its,rv,p,hz⟩:=I.list hq;obtain⟨f0,f1,f2,f3,f4,f5⟩:=hf it (by simp)
  have hl:=rv.length;exact wpAny_pyNext_enum_end (I.ok.hd hc) he hit p.isList (by simp;lia) fun h' eb=>⟨rfl,I.turned (t':=s.toks) (fun b o hb q=>eb b o hb q) f0 f1 f3 f4 f5⟩
 self:=fun A i s Q E st h=>let ⟨⟨_,he⟩,_⟩:=st;wpAny_pyIter_enum he h
def GP(K:PySem.W.Frag)(ta:TA):TI:=fun σ H R=>ta σ H fun vs H1=>∃ a xs,vs=[.ref a]∧aL K H1 a xs∧R (OF K a) H1
theorem Ig{p pos tpos:Pos}{elts:List Expr}{kk:Nat}(hg:Gl X "enumerate")(hm:X.mg "enumerate"=none)(ha:PA X [e] ta)(hs:starEach [e] X.env=[(false,eval e X.env)]:=by rfl) :
  PI X (.Tuple elts kk tpos) (.Call (.Name "enumerate" p) [e] [] pos) (GP X.K ta):=by
 intro pins s σ H R I h;refine Call_ (ra I hg hm boot_enumerate (PyProof.Rows.callWith_type1 (dL (ha pos pins s σ H _ I h) fun us s1 ⟨vs,H1,I1,r1,q1⟩=>?_) hs rfl))
 obtain⟨a,xs,ex,hq,q⟩:=q1;subst ex
 cases r1 with
 | cons r rr =>
  cases rr;cases r
  obtain⟨its,rv,p',hz⟩:=I1.list hq;refine call_enumerate_list p'.isList fun h' he hit hsz hk=>wpAny_pyIter_enum he ?_
  have I2:Inv X pins σ H1 { s1 with heap:=h' }:=I1.kept (t':=s1.toks) hk
  refine⟨s1.heap.objs.size+1,[s1.heap.objs.size+1,s1.heap.objs.size],_,_,H1,rfl,I2,Ew a (s1.heap.objs.size+1) s1.heap.objs.size,⟨⟨.none,he⟩,hit,Nat.succ_ne_self _⟩,fun b hb=>?_,q⟩
  have e':b=s1.heap.objs.size+1∨b=s1.heap.objs.size:=by simpa using hb
  have hle:s1.heap.objs.size≤b:=by
   rcases e' with z | z
   ·rw[z];exact Nat.le_add_right _ _
   ·rw[z];exact Nat.le_refl _
  exact I1.fpOk hle (I1.hok.fresh hle)
theorem Fu:bootBuiltins "zip"=some (.type "zip"):=by decide +kernel
def Ny(K:PySem.W.Frag)(a b:Addr):It :=
 ⟨fun i H=>∃ (xs ys:List V) (x y:V),aL K H a xs∧aL K H b ys∧xs[i]?=some x∧ys[i]?=some y,
  fun i H v H'=>∃ T x y,v=.ref T∧H T=none∧H'=upd H T (.tup [x,y])∧(∀ xs,aL K H a xs→xs[i]?=some x)∧∀ ys,aL K H b ys→ys[i]?=some y,
  fun i H=>∃ xs ys:List V,aL K H a xs∧aL K H b ys∧(xs.length≤i∨ys.length≤i)⟩
theorem FP{P:Program}{w:World}{K:PySem.W.Frag}{elts:List Expr}{kk:Nat}{tpos:Pos}{a b z TI TO i1 i2:Addr}(D:ZipApart z TI TO i1 i2 a b) :
  BN P w K (.Tuple elts kk tpos) (Ny K a b) [z,TI,TO,i1,i2] z (fun i h=>IsZip h z TI TO .none∧IsPair h TI (.ref i1) (.ref i2)∧(∃ x y,IsPair h TO x y)∧h.IsListIter i1 a i∧h.IsListIter i2 b i) where
 mem:=by simp
 obj:=fun i h st c hc=>by
  obtain⟨hz,hTI,⟨x,y,hTO⟩,⟨o1,e1,_,d1⟩,⟨o2,e2,_,d2⟩⟩:=st;have e':c=z∨c=TI∨c=TO∨c=i1∨c=i2:=by simpa using hc
  rcases e' with q | q | q | q | q
  ·rw[q];exact⟨_,hz,fun v q=>nomatch q⟩
  ·rw[q];exact⟨_,hTI,fun v q=>nomatch q⟩
  ·rw[q];exact⟨_,hTO,fun v q=>nomatch q⟩
  ·rw[q];exact⟨o1,e1,fun v q=>by rw[d1] at q;cases q⟩
  ·rw[q];exact⟨o2,e2,fun v q=>by rw[d2] at q;cases q⟩
 keep:=fun i h h' st k=>by
  obtain⟨hz,hTI,⟨x,y,hTO⟩,h1,h2⟩:=st
  exact⟨k z (by simp) _ hz,k TI (by simp) _ hTI,⟨x,y,k TO (by simp) _ hTO⟩,h1.at fun o q=>k i1 (by simp) o q,h2.at fun o q=>k i2 (by simp) o q⟩
 item:=by
  intro X hP hw hK hc i pins s σ H E I hf st hg;subst hP hw hK;obtain⟨hz,hTI,⟨x0,y0,hTO⟩,h1,h2⟩:=st;obtain⟨xs,ys,x,y,hqx,hqy,hx,hy⟩:=hg;obtain⟨its,rv,p,_⟩:=I.list hqx;obtain⟨its2,rv2,p2,_⟩:=I.list hqy;obtain⟨u,hu,ru⟩:=rv.get hx;obtain⟨u2,hu2,ru2⟩:=rv2.get hy;have hzl:z<s.heap.objs.size:=Heap.lt_size hz;refine wpAny_pyNext_zip_item D hz hTI hTO h1 h2 p.isList p2.isList (x:=u) (y:=u2) (by simpa using hu) (by simpa using hu2) fun h' z' TO' h1' h2' hT hsz hk=>?_
  refine⟨_,rfl,wpAny_letOwnedTupleGo_zip (s:={ s with heap:=h' }) z' fun h'' z'' sb=>?_⟩
  have hT2:h''.get? s.heap.objs.size=some { cls:=.type "tuple",data:=.seq #[u,u2] }:=(sb.2 _ (Nat.ne_of_gt hzl)).trans hT;have new:gp X.prog X.w (upd H s.heap.objs.size (.tup [x,y])) h'' s.heap.objs.size (.tup [x,y]) :=
   ⟨by show 2≤sizeLine;decide,[u,u2],.cons ru (.cons ru2 .nil),⟨_,hT2,rfl,_,rfl⟩⟩
  have I1:Inv X pins σ (upd H s.heap.objs.size (.tup [x,y])) { s with heap:=h'' } :=
   I.turnedNew (t':=s.toks) (ch:=[z,TI,TO,i1,i2]) (fun c o hb q=>(sb.2 c (fun q'=>hb (by simp[q']))).trans (hk c o (fun q'=>hb (by simp[q'])) (fun q'=>hb (by simp[q'])) (fun q'=>hb (by simp[q'])) (fun q'=>hb (by simp[q'])) q)) hf (Nat.le_refl _) new
  refine⟨.ref s.heap.objs.size,_,I1,rfl,⟨_,x,y,rfl,I.hok.fresh (Nat.le_refl _),rfl,fun l hl=>by rw[I.list_inj hl hqx];exact hx,fun l hl=>by rw[I.list_inj hl hqy];exact hy⟩,⟨z'',?_,⟨u,u2,?_⟩,?_,?_⟩,fun c hcm=>?_⟩
  ·exact (sb.2 _ D.TIz).trans (hk _ _ D.TIz D.TITO D.TIi1 D.TIi2 hTI)
  ·exact (sb.2 _ D.TOz).trans TO'
  ·exact h1'.at fun o q=>(sb.2 _ D.i1z).trans q
  ·exact h2'.at fun o q=>(sb.2 _ D.i2z).trans q
  ·have hlt:c<s.heap.objs.size:=by
    have e':c=z∨c=TI∨c=TO∨c=i1∨c=i2:=by simpa using hcm
    rcases e' with q | q | q | q | q
    ·rw[q];exact hzl
    ·rw[q];exact Heap.lt_size hTI
    ·rw[q];exact Heap.lt_size hTO
    ·rw[q];obtain⟨_,e1,_⟩:=h1;exact Heap.lt_size e1
    ·rw[q];obtain⟨_,e2,_⟩:=h2;exact Heap.lt_size e2
   rw[ao (Nat.ne_of_lt hlt)];exact (hf c hcm).1
 done:=by
  intro X hP hw hK hc i pins s σ H E I hf st hg;subst hP hw hK;obtain⟨hz,hTI,⟨x0,y0,hTO⟩,h1,h2⟩:=st;obtain⟨xs,ys,hqx,hqy,hend⟩:=hg;obtain⟨its,rv,p,_⟩:=I.list hqx;obtain⟨its2,rv2,p2,_⟩:=I.list hqy;have l1:=rv.length;have l2:=rv2.length;have he:its.toArray[i]?=none∨its2.toArray[i]?=none:=by
   rcases hend with q | q
   ·exact .inl (by simp;lia)
   ·exact .inr (by simp;lia)
  exact wpAny_pyNext_zip_end (I.ok.hd hc) D hz hTI hTO h1 h2 p.isList p2.isList he fun h' hk=>⟨rfl,I.turnedL (t':=s.toks) (ch:=[z,TI,TO,i1,i2]) (fun c o hb q =>
   hk c o (fun q'=>hb (by simp[q'])) (fun q'=>hb (by simp[q'])) (fun q'=>hb (by simp[q'])) (fun q'=>hb (by simp[q'])) q) hf⟩
 self:=fun A i s Q E st h=>wpAny_pyIter_zip st.1 h
def Le(K:PySem.W.Frag)(ta:TA):TI:=fun σ H R=>ta σ H fun vs H1=>∃ a b xs ys,vs=[.ref a,.ref b]∧aL K H1 a xs∧aL K H1 b ys∧R (Ny K a b) H1
theorem KP{X:Cx}{e e2:Expr}{ta:TA}{p pos tpos:Pos}{elts:List Expr}{kk:Nat}(hg:Gl X "zip")(hm:X.mg "zip"=none)(ha:PA X [e,e2] ta)
  (hs:starEach [e,e2] X.env=(false,eval e X.env)::starEach [e2] X.env:=by rfl) (hpl:(backTo pos (starEach [e2] X.env)).any (·.1)=false:=by rfl) :
  PI X (.Tuple elts kk tpos) (.Call (.Name "zip" p) [e,e2] [] pos) (Le X.K ta):=by
 intro pins s σ H R I h;refine Call_ (ra I hg hm Fu (PyProof.Rows.callWith_type1 (dL (ha pos pins s σ H _ I h) fun us s1 ⟨vs,H1,I1,r1,q1⟩=>?_) hs hpl))
 obtain⟨a,b,xs,ys,ex,hqx,hqy,q⟩:=q1;subst ex
 cases r1 with
 | cons r rr =>
  cases rr with
  | cons r' rr =>
   cases rr;cases r
   cases r'
   obtain⟨its,rv,p1,_⟩:=I1.list hqx;obtain⟨its2,rv2,p2,_⟩:=I1.list hqy;have la:a<s1.heap.objs.size:=p1.lt;have lb:b<s1.heap.objs.size:=p2.lt;refine call_zip_2 p1.isList p2.isList fun h' hz hTI hTO h1 h2 hsz hk=>wpAny_pyIter_zip hz ?_
   have I2:Inv X pins σ H1 { s1 with heap:=h' }:=I1.kept (t':=s1.toks) hk
   refine⟨s1.heap.objs.size+4,[s1.heap.objs.size+4,s1.heap.objs.size+2,s1.heap.objs.size+3,s1.heap.objs.size,s1.heap.objs.size+1],_,_,H1,rfl,I2,FP (PySem.W.ktu_apart s1.heap.objs.size a b la lb),⟨hz,hTI,⟨_,_,hTO⟩,h1,h2⟩,fun c hcm=>?_,q⟩
   have e':c=s1.heap.objs.size+4∨c=s1.heap.objs.size+2∨c=s1.heap.objs.size+3∨c=s1.heap.objs.size∨c=s1.heap.objs.size+1:=by simpa using hcm
   have hle:s1.heap.objs.size≤c:=by
    rcases e' with z | z | z | z | z
    ·rw[z];exact Nat.le_add_right _ _
    ·rw[z];exact Nat.le_add_right _ _
    ·rw[z];exact Nat.le_add_right _ _
    ·rw[z];exact Nat.le_refl _
    ·rw[z];exact Nat.le_add_right _ _
   exact I1.fpOk hle (I1.hok.fresh hle)
end L2
section
namespace Bits
open PySem PyProof.Rows
theorem BH(k:Nat)(hx:0≤x):Builtin.bitAnd x (2 ^ k - 1)=x % 2 ^ k:=by
 obtain⟨n,rfl⟩:=Int.eq_ofNat_of_zero_le hx;have hp:0<2 ^ k:=Nat.two_pow_pos k;rw[two_pow_cast];have e:((2 ^ k:Nat):Int) - 1=((2 ^ k - 1:Nat):Int):=by
  generalize (2:Nat) ^ k=m at hp;lia
 rw[e,bitAnd_pp (by lia) (by lia),Int.toNat_natCast,Int.toNat_natCast,Nat.and_two_pow_sub_one_eq_mod]
 first
  | rfl
  | exact Int.natCast_emod _ _
  | simp
end Bits
end
namespace L2
open PySem PySem.Spec PyProof.Rows
def aP(s:Stmt)(j:Nat):Stmt:=match s with
 | .ClassDef _ _ _ body _ _ _ _ _ _ _=>body.getD j (.Pass ⟨0,0,0,0⟩)
 | _=>.Pass ⟨0,0,0,0⟩
def fC(s:Stmt):Arguments:=match s with
 | .FunctionDef _ a _ _ _ _ _ _ _ _=>a
 | _=>{ posonlyargs:=[],args:=[],vararg:=none,kwonlyargs:=[],kw_defaults:=[],kwarg:=none,defaults:=[] }
def fj(s:Stmt):List Stmt:=match s with
 | .FunctionDef _ _ b _ _ _ _ _ _ _=>b
 | _=>[]
def aC(s:Stmt):Scope:=match s with
 | .FunctionDef _ _ _ _ _ _ sc _ _ _=>sc
 | _=>{ kind:=.function,names:=[],isGenerator:=false,isCoroutine:=false }
abbrev FK:FC:=fun _ _ _ _ _ _=>False
abbrev E0:XK:=fun _ _ _=>False
theorem u9:kX FK X E0:=fun _ _ _ _ _ _ _ h=>h.elim
structure wF(K:PySem.W.Frag)(x qual:Str)(st:Stmt)(f:Addr)(fd:FuncData):Prop where
 ex:∃ (oc:Value) (od:Option Addr) (kV doc pm:Value) (an:Option Addr) (cdv ct:Value) (osl:Array (Option Value)),
  fd=PySem.W.fnOf x qual (fC st) (fj st) (aC st) .none kV doc pm an cdv ct∧K.lookup f=some ⟨oc,od,.func fd,osl⟩∧PySem.W.codeIn K cdv qual=true
 kp:PySem.W.keepIn K (.ref f)=true
section
variable{P:Program}{w:World}{K:PySem.W.Frag}{mg:Str→Option Value}{base:Heap}
theorem wF.ok{x qual:Str}{st:Stmt}{f:Addr}{fd:FuncData}{N ps:List Str}{k:Nat}{sp:Sp}(F:wF K x qual st f fd)(S:jv N ps (aC st))(len:∀ vs H Q E,sp vs H Q E→vs.length=ps.length)
  (hbody:∀ (cdv:Value) (A:Around) (outer:List Env) (s:Shared) (H:Hp) (vs:List V) (Q:VK) (E:XK),eJ k (A.deeper (envOfC qual (aC st) s.heap.objs.size f cdv))→sp vs H Q E →
   ∃ t,BY (Bx FK P w K mg base N qual (aC st) f cdv A outer s H E).nox (fj st) t∧t { nx:=fun _ H'=>Q .non H',rt:=Q } (start N vs) H):ii P w K mg base FK (k+1) f fd ps sp:=by
 obtain⟨oc,od,kV,doc,pm,an,cdv,ct,osl,rfl,lk,hcd⟩:=F.ex;refine Ng lk hcd S len fun A outer s H vs Q E hr hsp=>?_
 obtain⟨t,h,q⟩:=hbody cdv A outer s H vs Q E hr hsp
 exact⟨t,h.nox,q⟩
theorem wF.binds{x qual:Str}{st:Stmt}{f:Addr}{fd:FuncData}{ps:List Str}(F:wF K x qual st f fd)
  (h:∀ (kV doc pm:Value) (an:Option Addr) (cdv ct:Value) (us:List Value),us.length=ps.length→bindArgs (PySem.W.fnOf x qual (fC st) (fj st) (aC st) .none kV doc pm an cdv ct) ⟨us,[]⟩=pure (ps.zip us)):io K fd ps []:=by
 obtain⟨oc,od,kV,doc,pm,an,cdv,ct,osl,rfl,lk,hcd⟩:=F.ex;exact .all (h kV doc pm an cdv ct)
theorem CV{x qual:Str}{st:Stmt}{f:Addr}{oc:Value}{od an:Option Addr}{osl:Array (Option Value)}{kV doc pm cdv ct:Value}(l:K.lookup f=some ⟨oc,od,.func (PySem.W.fnOf x qual (fC st) (fj st) (aC st) .none kV doc pm an cdv ct),osl⟩)
  (c:PySem.W.codeIn K cdv qual=true) (k:PySem.W.keepIn K (.ref f)=true):wF K x qual st f (PySem.W.fnOf x qual (fC st) (fj st) (aC st) .none kV doc pm an cdv ct):=⟨⟨oc,od,kV,doc,pm,an,cdv,ct,osl,rfl,l,c⟩,k⟩
end
section
variable{X:Cx}
theorem pv(i:Nat){pos:Pos}(hN:X.N[i]?=some x:=by rfl)(hv:LJ X.env.scope x:=by first | exact Or.inl rfl | exact Or.inr (Or.inl rfl) | exact Or.inr (Or.inr rfl))(hd:(x==("__debug__":Str))=false:=by decide)
  (hcd:(x==("__classdict__":Str))=false:=by decide):PE X (.Name x pos) (EA i):=KT hN hv hd hcd
end
theorem aN{c A B:Prop} [Decidable c] (h1:c→A) (h2:¬ c→B):if c then A else B:=by
 by_cases h:c
 ·rw[if_pos h];exact h1 h
 ·rw[if_neg h];exact h2 h
def ai(H H':Hp):Prop:=∀ b o,H b=some o→H' b=some o
theorem ai.trans{H H1 H2:Hp}(a:ai H H1)(b:ai H1 H2):ai H H2:=fun c o h=>b c o (a c o h)
theorem ai.free{H H':Hp}(e:ai H H'){l:Addr}(h:H' l=Option.none):H l=Option.none:=by
 cases q:H l with
 | none=>rfl
 | some o =>
  rw[e l o q] at h;cases h
theorem ai.seq{K:PySem.W.Frag}{H H':Hp}{a:Addr}{xs:List V}(e:ai H H')(h:aL K H a xs):aL K H' a xs:=by
 rcases h with (h | ⟨o,h⟩) | h
 ·exact .inl (.inl (e _ _ h))
 ·exact .inl (.inr ⟨o,e _ _ h⟩)
 ·exact .inr h
theorem Eo{xs:List V}{z:Int}{j:Nat}{v:V}(e:z=(j:Int))(h:xs[j]?=some v):JZ xs z=some v:=by
 rw[e];exact Jf h
end L2
section
set_option maxHeartbeats 2000000
namespace L2
open PySem PySem.Spec PyProof.Rows
open PySem.W (WData Codec OpenSpec Well WellAll ReadsW ReadsAllW)
mutual
inductive Dw(K:PySem.W.Frag)(H:Hp):V→WData→Prop
 | non:Dw K H .non .none
 | bl (b:Bool):Dw K H (.bl b) (.bool b)
 | int (i:Int):Dw K H (.int i) (.int i)
 | str (x:Str):Dw K H (.str x) (.str x)
 | byt (b:Array UInt8):Dw K H (.byt b) (.bytes b.toList)
 | lst {a:Addr}{xs:List V}{ds:List WData}:aL K H a xs→lB K H xs ds→Dw K H (.ref a) (.list ds)
 | tup {a:Addr}{xs:List V}{ds:List WData}:lP K H a xs→lB K H xs ds→Dw K H (.ref a) (.tuple ds)
inductive lB(K:PySem.W.Frag)(H:Hp):List V→List WData→Prop
 | nil:lB K H [] []
 | cons {v:V}{vs:List V}{d:WData}{ds:List WData}:Dw K H v d→lB K H vs ds→lB K H (v::vs) (d::ds)
end
theorem Ee{K:PySem.W.Frag}{H:Hp}:∀ ns:List Int,lB K H (ns.map V.int) (ns.map WData.int)
 | []=>.nil
 | n::r=>.cons (.int n) (Ee r)
theorem D0{K:PySem.W.Frag}{H:Hp}:∀ (ns:List Int) (xs:List V),lB K H xs (ns.map WData.int)→xs=ns.map V.int
 | [],xs,h=>by
  cases h;rfl
 | n::r,xs,h=>by
  cases h with
  | cons h1 h2 =>
   cases h1;rw[D0 r _ h2]<;>rfl
section
variable{P:Program}{w:World}{K:PySem.W.Frag}{H:Hp}{h:Heap}{R:PySem.W.WRecords}{cl:Str→Option Addr}
theorem Kd(hok:qI P w H h)(KX:K.In h)(q:aL K H a xs):∃ (its:List Value) (o:Obj) (n:Nat),bo xs its∧h.get? a=some o∧o.cls=.type "list"∧o.data=.seq its.toArray n:=by
 rcases q with q | ⟨o,its,n,e,hc,_,hd,_,hv⟩
 ·obtain⟨_,its,n,hv,e⟩:=(show gp P w H h a (.lst xs) from q.ok hok)
  exact⟨its,_,n,hv,e,rfl,rfl⟩
 ·exact⟨its.toList,o,n,hv,KX _ _ e,hc,by simp[hd]⟩
theorem Kc(hok:qI P w H h)(KX:K.In h)(q:lP K H a xs):∃ (its:List Value) (o:Obj) (n:Nat),bo xs its∧h.get? a=some o∧o.cls=.type "tuple"∧o.data=.seq its.toArray n:=by
 rcases q with q | ⟨o,its,n,e,hc,hd,_,hv⟩
 ·obtain⟨_,its,hv,o,e,hc,n,hd⟩:=(show gp P w H h a (.tup xs) from q.ok hok)
  exact⟨its,o,n,hv,e,hc,hd⟩
 ·exact⟨its.toList,o,n,hv,KX _ _ e,hc,by simp[hd]⟩
mutual
theorem Dw.reads(hok:qI P w H h)(KX:K.In h):∀ (d:WData) (v:V) (u:Value),Dw K H v d→cG v u→∃ as,ReadsW R cl h u d as
 | .none,_,_,x,r=>by
  cases x;cases r
  exact⟨_,ReadsW.none⟩
 | .bool b,_,_,x,r=>by
  cases x;cases r
  exact⟨_,ReadsW.bool b⟩
 | .int i,_,_,x,r=>by
  cases x;obtain⟨t,rfl⟩:=r
  exact⟨_,ReadsW.int i t⟩
 | .str s,_,_,x,r=>by
  cases x;obtain⟨t,rfl⟩:=r
  exact⟨_,ReadsW.str s t⟩
 | .bytes b,_,_,x,r=>by
  cases x;obtain⟨t,rfl⟩:=r
  exact⟨_,ReadsW.bytes _ t⟩
 | .list ds,_,_,x,r=>by
  cases x with
  | lst hs ha =>
   cases r;obtain⟨its,o,n,rv,ho,hc,hd⟩:=Kd hok KX hs
   obtain⟨as,hr⟩:=Dw.readsAll hok KX ds _ its ha rv
   exact⟨_,ReadsW.list ho hc hd hr⟩
 | .tuple ds,_,_,x,r=>by
  cases x with
  | tup hs ha =>
   cases r;obtain⟨its,o,n,rv,ho,hc,hd⟩:=Kc hok KX hs
   obtain⟨as,hr⟩:=Dw.readsAll hok KX ds _ its ha rv
   exact⟨_,ReadsW.tuple ho hc hd hr⟩
 | .float _,_,_,x,_=>by cases x
 | .dict _,_,_,x,_=>by cases x
 | .bytearray _,_,_,x,_=>by cases x
 | .set _,_,_,x,_=>by cases x
 | .frozenset _,_,_,x,_=>by cases x
 | .obj _ _,_,_,x,_=>by cases x
theorem Dw.readsAll(hok:qI P w H h)(KX:K.In h):∀ (ds:List WData) (vs:List V) (us:List Value),lB K H vs ds→bo vs us→∃ as,ReadsAllW R cl h us ds as
 | [],_,_,x,r=>by
  cases x;cases r
  exact⟨_,ReadsAllW.nil⟩
 | d::ds,_,_,x,r=>by
  cases x with
  | cons h1 h2 =>
   cases r with
   | cons r1 r2 =>
    obtain⟨as,q1⟩:=Dw.reads hok KX d _ _ h1 r1;obtain⟨bs,q2⟩:=Dw.readsAll hok KX ds _ _ h2 r2
    exact⟨_,ReadsAllW.cons q1 q2⟩
end
end
mutual
def DM:WData→Bool
 | .none=>true
 | .bool _=>true
 | .int _=>true
 | .str _=>true
 | .bytes _=>true
 | .list xs=>tj xs
 | .tuple xs=>tj xs
 | _=>false
def tj:List WData→Bool
 | []=>true
 | x::r=>DM x&&tj r
end
theorem Ax{α:Type}{f:α→WData}(h:∀ a,DM (f a)=true):∀ l:List α,tj (l.map f)=true
 | []=>rfl
 | x::r=>by
  show (DM (f x)&&tj (r.map f))=true;rw[h x,Ax h r]<;>rfl
theorem mK:∀ (c:Codec) (a:c.denote),DM (c.enc a)=true
 | .unit,_=>rfl
 | .bool,_=>rfl
 | .int _ _,_=>rfl
 | .nat _ _,_=>rfl
 | .u8,_=>rfl
 | .bytes _ _,_=>rfl
 | .text _ _ _ _,_=>rfl
 | .list _ _ c,a=>Ax (fun x=>mK c x) a
 | .pair c d,a=>by
  show (DM (c.enc a.1)&&(DM (d.enc a.2)&&true))=true;rw[mK c a.1,mK d a.2]<;>rfl
 | .triple c d e,a=>by
  show (DM (c.enc a.1)&&(DM (d.enc a.2.1)&&(DM (e.enc a.2.2)&&true)))=true;rw[mK c a.1,mK d a.2.1,mK e a.2.2]<;>rfl
 | .option c,none=>rfl
 | .option c,some x=>mK c x
theorem x5:∀ (cs:List Codec) (a:Codec.denoteAll cs),tj (Codec.encAll cs a)=true
 | [],_=>rfl
 | c::cs,a=>by
  show (DM (c.enc a.1)&&tj (Codec.encAll cs a.2))=true;rw[mK c a.1,x5 cs a.2]<;>rfl
theorem oJ:∀ {xs:List WData}{d:WData},d∈xs→d.weight≤WData.weightAll xs
 | [],d,h=>absurd h (by simp)
 | x::r,d,h=>by
  show d.weight≤x.weight+1+WData.weightAll r;rcases List.mem_cons.mp h with e | m
  ·rw[e];lia
  ·have z:=oJ m;lia
def Ae:Value→V
 | .none=>.non
 | .bool b=>.bl b
 | .int i _=>.int i
 | .str x _=>.str x
 | .bytes b _=>.byt b
 | .ref a=>.ref a
 | _=>.non
def Fy(A:List Addr):Value→Prop
 | .none=>True
 | .bool _=>True
 | .int _ _=>True
 | .str _ _=>True
 | .bytes _ _=>True
 | .ref a=>a∈A
 | _=>False
theorem Fy.mono(h:∀ a∈A,a∈B):∀ {u:Value},Fy A u→Fy B u:=fun {u} x=>by
 cases u with
 | ref a=>exact h a x
 | none=>trivial
 | bool b=>trivial
 | int i t=>trivial
 | str s t=>trivial
 | bytes b t=>trivial
 | _=>exact False.elim x
theorem F8(x:Fy A u):cG (Ae u) u:=by
 cases u with
 | ref a=>rfl
 | none=>rfl
 | bool b=>rfl
 | int i t=>exact⟨t,rfl⟩
 | str s t=>exact⟨t,rfl⟩
 | bytes b t=>exact⟨t,rfl⟩
 | _=>exact False.elim x
theorem jW:∀ {vs:List Value},(∀ u∈vs,Fy A u)→bo (vs.map Ae) vs
 | [],_=>.nil
 | u::r,h=>.cons (F8 (h u (List.mem_cons_self ..))) (jW fun x hx=>h x (List.mem_cons_of_mem _ hx))
def lC(h:Heap)(A:List Addr)(a:Addr):Prop:=∃ vs:List Value,vs.length≤sizeLine∧(∀ u∈vs,Fy A u) ∧
 (h.get? a=some { cls:=.type "list",data:=.seq vs.toArray }∨h.get? a=some { cls:=.type "tuple",data:=.seq vs.toArray })
theorem lC.mono(k:∀ a∈A,a∈B)(x:lC h A a):lC h B a:=by
 obtain⟨vs,h1,h2,h3⟩:=x
 exact⟨vs,h1,fun u hu=>(h2 u hu).mono k,h3⟩
theorem ji:∀ {vs:List Value}{ds:List WData},WellAll P h vs ds→vs.length=ds.length
 | _,_,.nil=>rfl
 | _,_,.cons _ b=>by
  show _+1=_+1;rw[ji b]
theorem xG(x:Well P h v (.list ds)):∃ (a:Addr) (vs:List Value),v=.ref a∧h.get? a=some { cls:=.type "list",data:=.seq vs.toArray }∧WellAll P h vs ds:=by
 cases x with
 | list ho hall=>exact⟨_,_,rfl,ho,hall⟩
theorem um(x:Well P h v (.tuple ds)):∃ (a:Addr) (vs:List Value),v=.ref a∧h.get? a=some { cls:=.type "tuple",data:=.seq vs.toArray }∧WellAll P h vs ds:=by
 cases x with
 | tuple ho hall=>exact⟨_,_,rfl,ho,hall⟩
theorem xH(x:WellAll P h us (d::ds)):∃ (v:Value) (vs:List Value),us=v::vs∧Well P h v d∧WellAll P h vs ds:=by
 cases x with
 | cons a b=>exact⟨_,_,rfl,a,b⟩
theorem DW(h:n≤1048576):n≤sizeLine:=Nat.le_trans h (by decide)
section
variable{P:Params}{h:Heap}
mutual
theorem Hg:∀ (d:WData) (v:Value),Well P h v d→DM d=true→d.weight≤1048576→∃ A:List Addr,Fy A v∧∀ a∈A,lC h A a
 | .none,_,x,_,_=>by
  cases x
  exact⟨[],trivial,fun a m=>absurd m (by simp)⟩
 | .bool b,_,x,_,_=>by
  cases x
  exact⟨[],trivial,fun a m=>absurd m (by simp)⟩
 | .int i,_,x,_,_=>by
  cases x
  exact⟨[],trivial,fun a m=>absurd m (by simp)⟩
 | .str s,_,x,_,_=>by
  cases x
  exact⟨[],trivial,fun a m=>absurd m (by simp)⟩
 | .bytes b,_,x,_,_=>by
  cases x
  exact⟨[],trivial,fun a m=>absurd m (by simp)⟩
 | .list ds,_,x,p,z=>by
  obtain⟨a,vs,rfl,ho,hall⟩:=xG x;have z2:WData.weightAll ds≤1048576:=z;obtain⟨A,h1,h2⟩:=qH ds _ hall p fun d hd=>Nat.le_trans (oJ hd) z2
  have k:∀ b∈A,b∈a::A:=fun b hb=>List.mem_cons_of_mem _ hb
  refine⟨a::A,List.mem_cons_self ..,fun b hb=>?_⟩
  rcases List.mem_cons.mp hb with e | m
  ·rw[e]
   exact⟨vs,DW (by rw[ji hall];exact Nat.le_trans (PySem.W.length_le_weightAllW ds) z2),fun u hu=>(h1 u hu).mono k,.inl ho⟩
  ·exact (h2 b m).mono k
 | .tuple ds,_,x,p,z=>by
  obtain⟨a,vs,rfl,ho,hall⟩:=um x;have z2:WData.weightAll ds≤1048576:=z;obtain⟨A,h1,h2⟩:=qH ds _ hall p fun d hd=>Nat.le_trans (oJ hd) z2
  have k:∀ b∈A,b∈a::A:=fun b hb=>List.mem_cons_of_mem _ hb
  refine⟨a::A,List.mem_cons_self ..,fun b hb=>?_⟩
  rcases List.mem_cons.mp hb with e | m
  ·rw[e]
   exact⟨vs,DW (by rw[ji hall];exact Nat.le_trans (PySem.W.length_le_weightAllW ds) z2),fun u hu=>(h1 u hu).mono k,.inr ho⟩
  ·exact (h2 b m).mono k
 | .float _,_,_,p,_=>Bool.noConfusion (show false=true from p)
 | .dict _,_,_,p,_=>Bool.noConfusion (show false=true from p)
 | .bytearray _,_,_,p,_=>Bool.noConfusion (show false=true from p)
 | .set _,_,_,p,_=>Bool.noConfusion (show false=true from p)
 | .frozenset _,_,_,p,_=>Bool.noConfusion (show false=true from p)
 | .obj _ _,_,_,p,_=>Bool.noConfusion (show false=true from p)
theorem qH:∀ (ds:List WData) (vs:List Value),WellAll P h vs ds→tj ds=true→(∀ d∈ds,d.weight≤1048576)→∃ A:List Addr,(∀ u∈vs,Fy A u)∧∀ a∈A,lC h A a
 | [],_,x,_,_=>by
  cases x
  exact⟨[],fun u m=>absurd m (by simp),fun a m=>absurd m (by simp)⟩
 | d::ds,_,x,p,z=>by
  obtain⟨v,vs,rfl,x1,x2⟩:=xH x;have q:DM d=true∧tj ds=true:=Bool.and_eq_true_iff.mp p;obtain⟨A,a1,a2⟩:=Hg d v x1 q.1 (z d (List.mem_cons_self ..));obtain⟨B,b1,b2⟩:=qH ds vs x2 q.2 fun e he=>z e (List.mem_cons_of_mem _ he)
  have kA:∀ b∈A,b∈A++B:=fun b hb=>List.mem_append.mpr (.inl hb)
  have kB:∀ b∈B,b∈A++B:=fun b hb=>List.mem_append.mpr (.inr hb)
  refine⟨A++B,fun u hu=>?_,fun b hb=>?_⟩
  ·rcases List.mem_cons.mp hu with e | m
   ·rw[e];exact a1.mono kA
   ·exact (b1 u m).mono kB
  ·rcases List.mem_append.mp hb with m | m
   ·exact (a2 b m).mono kA
   ·exact (b2 b m).mono kB
end
end
def IJ(o:Obj):Option HO:=match o.data with
 | .seq vs _=>if (o.cls==Value.type "list")=true then some (.frz o (.lst (vs.toList.map Ae))) else some (.frz o (.tup (vs.toList.map Ae)))
 | _=>none
def kW(K:PySem.W.Frag)(h:Heap)(A:List Addr):Hp:=fun b=>if b∈A then (if (K.lookup b).isNone=true then (h.get? b).bind IJ else none) else none
def BP(H:Hp):Prop:=∀ b,H b=none∨∃ o u,H b=some (.frz o u)
theorem A1(vs:List Value):IJ { cls:=.type "list",data:=.seq vs.toArray }=some (.frz { cls:=.type "list",data:=.seq vs.toArray } (.lst (vs.map Ae))):=by
 show (if (Value.type "list"==Value.type "list")=true then some (HO.frz { cls:=.type "list",data:=.seq vs.toArray } (.lst (vs.toArray.toList.map Ae))) else some (HO.frz { cls:=.type "list",data:=.seq vs.toArray } (.tup (vs.toArray.toList.map Ae))))=_
 rw[if_pos (beq_self_eq_true _)]
theorem A0(vs:List Value):IJ { cls:=.type "tuple",data:=.seq vs.toArray }=some (.frz { cls:=.type "tuple",data:=.seq vs.toArray } (.tup (vs.map Ae))):=by
 show (if (Value.type "tuple"==Value.type "list")=true then some (HO.frz { cls:=.type "tuple",data:=.seq vs.toArray } (.lst (vs.toArray.toList.map Ae))) else some (HO.frz { cls:=.type "tuple",data:=.seq vs.toArray } (.tup (vs.toArray.toList.map Ae))))=_
 rw[if_neg (by decide)]
section
variable{P:Program}{w:World}{K:PySem.W.Frag}{h:Heap}{A:List Addr}
theorem uj(hb:b∈A)(hk:K.lookup b=none)(e:h.get? b=some o):kW K h A b=IJ o:=by
 unfold kW;rw[if_pos hb,hk,if_pos (show (none:Option Obj).isNone=true from rfl),e]<;>rfl
theorem Iv(q:kW K h A b=some u):b∈A∧K.lookup b=none:=by
 unfold kW at q
 by_cases hb:b∈A
 ·rw[if_pos hb] at q
  cases hk:K.lookup b with
  | none=>exact⟨hb,rfl⟩
  | some o =>
   rw[hk,if_neg (by simp)] at q
   cases q
 ·rw[if_neg hb] at q;cases q
theorem ui(ar:∀ a∈A,lC h A a)(q:kW K h A b=some u):K.lookup b=none∧∃ vs:List Value,vs.length≤sizeLine∧(∀ u∈vs,Fy A u) ∧
  ((h.get? b=some { cls:=.type "list",data:=.seq vs.toArray }∧u=.frz { cls:=.type "list",data:=.seq vs.toArray } (.lst (vs.map Ae))) ∨
   (h.get? b=some { cls:=.type "tuple",data:=.seq vs.toArray }∧u=.frz { cls:=.type "tuple",data:=.seq vs.toArray } (.tup (vs.map Ae)))):=by
 obtain⟨hb,hk⟩:=Iv q;obtain⟨vs,h1,h2,h3⟩:=ar b hb;refine⟨hk,vs,h1,h2,?_⟩;rcases h3 with e | e
 ·rw[uj hb hk e,A1] at q;exact .inl ⟨e,(Option.some.inj q).symm⟩
 ·rw[uj hb hk e,A0] at q;exact .inr ⟨e,(Option.some.inj q).symm⟩
theorem Fw(ar:∀ a∈A,lC h A a):BP (kW K h A):=fun b=>by
 cases q:kW K h A b with
 | none=>exact .inl rfl
 | some u =>
  obtain⟨_,vs,_,_,⟨_,e⟩ | ⟨_,e⟩⟩:=ui ar q
  ·exact .inr ⟨_,_,by rw[e]⟩
  ·exact .inr ⟨_,_,by rw[e]⟩
theorem Jg(ar:∀ a∈A,lC h A a):qI P w (kW K h A) h:=fun b u q=>by
 obtain⟨_,vs,h1,h2,⟨e,rfl⟩ | ⟨e,rfl⟩⟩:=ui ar q
 ·exact⟨e,by rw[List.length_map];exact h1,vs,_,jW h2,e⟩
 ·exact⟨e,by rw[List.length_map];exact h1,vs,jW h2,_,e,rfl,_,rfl⟩
theorem t6{c c':Value}{vs us:List Value}(e:(some { cls:=c,data:=.seq vs.toArray }:Option Obj)=some { cls:=c',data:=.seq us.toArray }):c=c'∧vs=us:=by
 have e1:=Option.some.inj e;have e2:c=c':=congrArg Obj.cls e1;have e3:Data.seq vs.toArray=Data.seq us.toArray:=congrArg Obj.data e1
 injection e3 with e4
 refine⟨e2,?_⟩;have e5:=congrArg Array.toList e4
 simpa using e5
theorem Ox(KX:K.In h)(ar:∀ a∈A,lC h A a){a:Addr}{vs:List Value}(ha:a∈A)(e:h.get? a=some { cls:=.type "list",data:=.seq vs.toArray }):(∀ u∈vs,Fy A u)∧aL K (kW K h A) a (vs.map Ae):=by
 obtain⟨us,h1,h2,h3⟩:=ar a ha;have hu:us=vs:=by
  rcases h3 with q | q
  ·rw[e] at q;exact (t6 q).2.symm
  ·rw[e] at q;exact absurd (Value.type.inj (t6 q).1) (by decide)
 subst hu;refine⟨h2,?_⟩
 cases hk:K.lookup a with
 | none=>exact .inl (.inr ⟨_,by rw[uj ha hk e,A1]⟩)
 | some o =>
  have e2:=KX a o hk;rw[e] at e2;obtain rfl:=Option.some.inj e2;exact .inr ⟨_,us.toArray,_,hk,rfl,rfl,rfl,by rw[List.size_toArray];exact h1,by simpa using jW h2⟩
theorem Ow(KX:K.In h)(ar:∀ a∈A,lC h A a){a:Addr}{vs:List Value}(ha:a∈A)(e:h.get? a=some { cls:=.type "tuple",data:=.seq vs.toArray }):(∀ u∈vs,Fy A u)∧lP K (kW K h A) a (vs.map Ae):=by
 obtain⟨us,h1,h2,h3⟩:=ar a ha;have hu:us=vs:=by
  rcases h3 with q | q
  ·rw[e] at q;exact absurd (Value.type.inj (t6 q).1) (by decide)
  ·rw[e] at q;exact (t6 q).2.symm
 subst hu;refine⟨h2,?_⟩
 cases hk:K.lookup a with
 | none=>exact .inl (.inr ⟨_,by rw[uj ha hk e,A0]⟩)
 | some o =>
  have e2:=KX a o hk;rw[e] at e2;obtain rfl:=Option.some.inj e2;exact .inr ⟨_,us.toArray,_,hk,rfl,rfl,by rw[List.size_toArray];exact h1,by simpa using jW h2⟩
mutual
theorem Lp{Pm:Params}(KX:K.In h)(ar:∀ a∈A,lC h A a):∀ (d:WData) (v:Value),Well Pm h v d→DM d=true→Fy A v→Dw K (kW K h A) (Ae v) d
 | .none,_,x,_,_=>by
  cases x;exact .non
 | .bool b,_,x,_,_=>by
  cases x;exact .bl b
 | .int i,_,x,_,_=>by
  cases x;exact .int i
 | .str s,_,x,_,_=>by
  cases x;exact .str s
 | .bytes b,_,x,_,_=>by
  cases x;have z:=Dw.byt (K:=K) (H:=kW K h A) b.toArray
  exact z
 | .list ds,_,x,p,hu=>by
  obtain⟨a,vs,rfl,ho,hall⟩:=xG x;obtain⟨h2,hs⟩:=Ox KX ar hu ho;exact .lst hs (zP KX ar ds _ hall p h2)
 | .tuple ds,_,x,p,hu=>by
  obtain⟨a,vs,rfl,ho,hall⟩:=um x;obtain⟨h2,hs⟩:=Ow KX ar hu ho;exact .tup hs (zP KX ar ds _ hall p h2)
 | .float _,_,_,p,_=>Bool.noConfusion (show false=true from p)
 | .dict _,_,_,p,_=>Bool.noConfusion (show false=true from p)
 | .bytearray _,_,_,p,_=>Bool.noConfusion (show false=true from p)
 | .set _,_,_,p,_=>Bool.noConfusion (show false=true from p)
 | .frozenset _,_,_,p,_=>Bool.noConfusion (show false=true from p)
 | .obj _ _,_,_,p,_=>Bool.noConfusion (show false=true from p)
theorem zP(KX:K.In h)(ar:∀ a∈A,lC h A a):∀ (ds:List WData) (vs:List Value),WellAll Pm h vs ds→tj ds=true→(∀ u∈vs,Fy A u)→lB K (kW K h A) (vs.map Ae) ds
 | [],_,x,_,_=>by
  cases x;exact .nil
 | d::ds,_,x,p,hu=>by
  obtain⟨v,vs,rfl,x1,x2⟩:=xH x;have q:DM d=true∧tj ds=true:=Bool.and_eq_true_iff.mp p;exact .cons (Lp KX ar d v x1 q.1 (hu _ (List.mem_cons_self ..))) (zP KX ar ds vs x2 q.2 fun u m=>hu u (List.mem_cons_of_mem _ m))
end
end
theorem ED{P:Program}{w:World}{K:PySem.W.Frag}{mg mb:Str→Option Value}{CX:FC}{k:Nat}{fa:Addr}{fd:FuncData}{ps:List Str}{sp:Sp}{s₁:Shared}{vals:List Value}{ds:List WData}{R:PySem.W.WRecords}{cl:Str→Option Addr}{d0:WData}
  (KX:K.In s₁.heap) (hns:s₁.heap.Ns mainGlobals mg) (hb:s₁.heap.Ns builtinsNs mb) (hbb:∀ x:Str,x≠"__name__"→mb x=bootBuiltins x) (hlim:s₁.heap.NoLimit) (hg:s₁.gens=#[])
  (hwl:WellAll w.params s₁.heap vals ds) (hpl:tj ds=true) (hwt:∀ d∈ds,d.weight≤1048576) (hr:eJ k callerA)
  (F:∀ base:Heap,K.In base→base.Ns mainGlobals mg→ii P w K mg base CX k fa fd ps sp) (hbind:∀ (s:Shared) (us:List Value),us.length=ps.length→BindsTo s fd ⟨us,[]⟩ (ps.zip us)) (hlen:ds.length=ps.length)
  (hsp:∀ (H:Hp) (xs:List V),BP H→lB K H xs ds→sp xs H (fun v H'=>Dw K H' v d0) fun _ _ _=>False)
  (hCX:∀ H e s',CX [] H s₁ (fun _ _ _=>False) e s'→False) :
  codeAny (model P w) callerA (.call (.ref fa) ⟨vals,[]⟩) (fun r s'=>∃ u as,r=.ok (.ret u)∧ReadsW R cl s'.heap u d0 as∧OldK s₁.heap s'.heap∧s'.os=s₁.os∧AllBare s'.gens) s₁:=by
 obtain⟨A,ho,ar⟩:=qH ds vals hwl hpl hwt;have hO:BP (kW K s₁.heap A):=Fw ar;have hok:qI P w (kW K s₁.heap A) s₁.heap:=Jg ar;have hS:=zP KX ar ds vals hwl hpl ho;have hV:=jW ho;have hK:∀ b u,kW K s₁.heap A b=some u→K.lookup b=none:=fun b u q=>(ui ar q).1
 have noA:∀ {b:Addr}{o:Obj}{es:Array DictEntry}{ep:Nat},s₁.heap.get? b=some o→o.data=.dict es ep→kW K s₁.heap A b=none:=fun {b o es ep} e d=>by
  cases q:kW K s₁.heap A b with
  | none=>rfl
  | some u =>
   obtain⟨_,vs,_,_,⟨e2,_⟩ | ⟨e2,_⟩⟩:=ui ar q
   ·rw[e2] at e;cases e;have d':Data.seq vs.toArray _=Data.dict es ep:=d
    cases d'
   ·rw[e2] at e;cases e;have d':Data.seq vs.toArray _=Data.dict es ep:=d
    cases d'
 generalize kW K s₁.heap A=H at hO hok hS hK noA;have base_of:∀ {b:Addr}{o:Obj},s₁.heap.get? b=some o→H b=none→(zk s₁.heap H).get? b=some o:=fun e n=>GS e n
 have nsK:∀ {b:Addr}{m:Str→Option Value},s₁.heap.Ns b m→(zk s₁.heap H).Ns b m:=fun {b m} ⟨o,es,ep,e,d,r⟩=>⟨o,es,ep,base_of e (noA e d),d,r⟩
 have nK:∀ b o,K.lookup b=some o→H b=none:=fun b o e=>by
  cases q:H b with
  | none=>rfl
  | some u =>
   rw[hK b u q] at e;cases e
 have hKb:K.In (zk s₁.heap H):=fun b o e=>base_of (KX b o e) (nK b o e)
 have hM:Mod K mg (zk s₁.heap H):=⟨hKb,nsK hns,⟨mb,nsK hb,hbb⟩,let ⟨mc,h1,h2⟩:=hlim;⟨mc,nsK h1,h2⟩⟩;have e0:Dq P w K mg (zk s₁.heap H) callerA [] s₁ H:=⟨rfl,hM,fun b o e=>Iu e,Nat.le_of_eq (E4 _ _),trivial,fun b hb=>absurd (show b∈([]:List Addr) from hb) (by simp),hok,.of_eq hg⟩
 have hl:vals.length=ps.length:=by rw[ji hwl];exact hlen
 refine codeAny_mono ((F _ hKb (nsK hns)).run callerA [] s₁ H ⟨vals,[]⟩ vals (vals.map Ae) _ _ hr e0 (hbind s₁ vals hl) hV (hsp H _ hO hS)) fun r s' x=>?_
 cases r with
 | error e=>exact (hCX H e s' x).elim
 | ok fl =>
  cases fl with
  | next=>exact False.elim x
  | brk=>exact False.elim x
  | cont=>exact False.elim x
  | ret u =>
   obtain⟨v,H',os,bare,un,hok',r',q⟩:=x;have kept:∀ b o,s₁.heap.get? b=some o→s'.heap.get? b=some o:=fun b o e=>by
    cases q2:H b with
    | none=>exact un.keep b o e q2 (by intro z;exact absurd (show b∈([]:List Addr) from z) (by simp)) (by simp)
    | some u2 =>
     rcases hO b with z | ⟨ob,u3,z⟩
     ·rw[q2] at z;cases z
     ·have z2:=un.frzs b ob _ z;obtain⟨e1,_⟩:=hok b _ z;obtain⟨e2,_⟩:=hok' b _ z2;rw[e] at e1;cases e1;exact e2
   have KX':K.In s'.heap:=fun b o e=>kept b o (KX b o e)
   obtain⟨as,hrd⟩:=Dw.reads (R:=R) (cl:=cl) hok' KX' d0 v u q r'
   exact⟨u,as,rfl,hrd,OldK.of_keep kept,os,bare⟩
theorem vB(h:WData.layableAll ds=true):∀ d∈ds,d.weight≤1048576:=fun d hd =>
 (PySem.W.layableW_iff.mp (List.all_eq_true.mp h d hd)).2.2
theorem wp:∀ (cs:List Codec) (a:Codec.denoteAll cs),(Codec.encAll cs a).length=cs.length
 | [],_=>rfl
 | c::cs,a=>by
  show (Codec.encAll cs a.2).length+1=cs.length+1;rw[wp cs a.2]
theorem Eu{r:OpenSpec}{k:Nat}{q:Program}{loose:List Str}{XP:(Str→Option Value)→Heap→Prop}{YP:World→Heap→Prop}{d:DefRec}{K:Params→PySem.W.Frag}{CX:World→FC}{ps:List Str}{sp:World→Sp}
  (hwell:r.wellSaid=true) (hdf:d.params.defaults=[]) (hlen:r.args.length=ps.length) (hr:eJ k callerA)
  (hY:∀ (w:World) (h:Heap),YP w h→(K w.params).In h)
  (F:∀ (w:World) (mg:Str→Option Value) (fa:Addr) (h:Heap),YP w h→(K w.params).In h→h.Ns mainGlobals mg→mg d.name=some (.ref fa) →
   ∃ fd:FuncData,(∀ (s:Shared) (us:List Value),us.length=ps.length→BindsTo s fd ⟨us,[]⟩ (ps.zip us)) ∧
    ∀ base:Heap,(K w.params).In base→base.Ns mainGlobals mg→ii r.prog w (K w.params) mg base (CX w) k fa fd ps (sp w))
  (hsp:∀ (w:World) (H:Hp) (xs:List V) (a:Codec.denoteAll r.args),BP H→Codec.withinAll r.args a=true→Codec.app r.args r.asked a=true→lB (K w.params) H xs (Codec.encAll r.args a) →
   sp w xs H (fun v H'=>Dw (K w.params) H' v (r.ret.enc (Codec.app r.args r.f a))) fun _ _ _=>False)
  (hCX:∀ (w:World) (H:Hp) (s:Shared) (e:Value) (s':Shared),CX w [] H s (fun _ _ _=>False) e s'→False) :
  PySem.W.WalkOS q loose XP YP r d [] (fun f vs=>PySem.call f vs):=by
 intro w s_0 s₁ mg mb G Y fa o pm cd doc dV kV ho hd hcd hD hmg hg args vals as hpre hlay hrd hwl hlo;obtain⟨a,e1,e2⟩:=PySem.W.os_pre_some hpre;obtain⟨e3,hwi⟩:=Codec.encAll_of_decAll r.args args a e1;subst e3;have KX:=hY w _ Y;obtain⟨fd,hb,hF⟩:=F w mg fa _ Y KX G.T.g hmg;refine PySem.W.enter_call (codeAny_mono (ED (R:=[]) (cl:=classAt s_0.heap) (d0:=r.ret.enc (Codec.app r.args r.f a)) KX G.T.g G.T.b G.T.builtins G.T.nolimit hg hwl (x5 _ _) (vB hlay) hr hF hb (by rw[wp];exact hlen)
  (fun H xs hO hS=>hsp w H xs a hO hwi e2 hS) fun H e s'=>hCX w H s₁ e s') fun r' s' hq=>?_)
 obtain⟨u,as',rfl,h1,h2,h3,h4⟩:=hq
 exact⟨.inl ⟨u,_,as',rfl,fun _=>rfl,h1,(OpenSpec.post_iff hwell hwi _ _).mpr rfl,fun z=>Bool.noConfusion (show false=true from z)⟩,h2,h3,h4⟩
theorem B4{r:OpenSpec}{k:Nat}{q:Program}{loose:List Str}{XP:(Str→Option Value)→Heap→Prop}{YP:World→Heap→Prop}{d:DefRec}{K:Params→PySem.W.Frag}{CX:FC}{ps:List Str}{sp:PySem.W.Frag→Sp}
  (hwell:r.wellSaid=true) (hdf:d.params.defaults=[]) (hlen:r.args.length=ps.length) (hr:eJ k callerA)
  (hY:∀ (w:World) (h:Heap),YP w h→(K w.params).In h)
  (F:∀ (w:World) (mg:Str→Option Value) (fa:Addr) (h:Heap),YP w h→(K w.params).In h→h.Ns mainGlobals mg→mg d.name=some (.ref fa) →
   ∃ fd:FuncData,(∀ (s:Shared) (us:List Value),us.length=ps.length→BindsTo s fd ⟨us,[]⟩ (ps.zip us)) ∧
    ∀ base:Heap,(K w.params).In base→base.Ns mainGlobals mg→ii r.prog w (K w.params) mg base CX k fa fd ps (sp (K w.params)))
  (hsp:∀ (K:PySem.W.Frag) (H:Hp) (xs:List V) (a:Codec.denoteAll r.args),BP H→Codec.withinAll r.args a=true→Codec.app r.args r.asked a=true→lB K H xs (Codec.encAll r.args a) →
   sp K xs H (fun v H'=>Dw K H' v (r.ret.enc (Codec.app r.args r.f a))) fun _ _ _=>False)
  (hCX:∀ (H:Hp) (s:Shared) (e:Value) (s':Shared),CX [] H s (fun _ _ _=>False) e s'→False) :
  PySem.W.WalkOS q loose XP YP r d [] (fun f vs=>PySem.call f vs) :=
 Eu (K:=K) (CX:=fun _=>CX) (sp:=fun w=>sp (K w.params)) hwell hdf hlen hr hY F (fun w H xs a h1 h2 h3 h4=>hsp (K w.params) H xs a h1 h2 h3 h4) fun _ H s e s'=>hCX H s e s'
end L2
end
end
open List (mem_range filterMap_cons mem_cons_self mem_cons_of_mem mem_cons mem_append mem_append_left getElem?_set_self getElem?_set_ne mem_append_right length_cons map_cons length_map append_nil nodup_cons of_mem_zip length_take getElem?_append_right getElem?_append_left getElem?_map mem_of_getElem? length_append length_replicate length_drop size_toArray length_set all_cons any_cons replicate_succ flatten_cons append_assoc foldl_cons nil_append map_nil take_of_length_le getD_eq_getElem?_getD range_succ_eq_map all_map lookup_cons getElem?_eq_none mem_map all_eq_true zipIdx_cons foldl_nil range_succ foldl_append map_append sum_cons cons_append flatMap_append length_range flatMap_cons flatMap_nil zip_cons_cons getElem?_range map_congr_left map_map ext_getElem? getElem?_drop flatMap_map mem_or_eq_of_mem_set getElem?_eq_getElem getElem?_zip_eq_some getElem?_set drop_eq_getElem_cons map_flatMap mem_flatMap ext_getElem getElem_map getElem_range getElem_take getElem_drop range_one getElem_mem headD_cons map_take map_drop drop_zero zip_nil_left getElem?_take mem_singleton mapM_cons map_set map_id length_nil getElem?_of_mem drop_eq_nil_of_le length_zip take_add_one mem_of_mem_take take_length map_replicate drop_succ_cons eq_of_mem_replicate drop_drop)
namespace QM
open Qw
def bl(v:Int):Nat:=if v==0 then 0 else v.natAbs.log2+1
def bA(v:Int):Int :=
 if (bl v:Int) - 24 - 1<0 then v else
  (if v / 2 ^ ((bl v:Int) - 24 - 1).toNat % 2=1 then
    v / 2 ^ ((bl v:Int) - 24 - 1).toNat+(if v / 2 ^ ((bl v:Int) - 24 - 1).toNat*2 ^ ((bl v:Int) - 24 - 1).toNat=v∧v / 2 ^ ((bl v:Int) - 24 - 1).toNat % 4=1 then -1 else 1)
   else v / 2 ^ ((bl v:Int) - 24 - 1).toNat)*2 ^ ((bl v:Int) - 24 - 1).toNat
theorem log2_lt(h:a≠0):a.log2<n↔a<2 ^ n:=Nat.log2_lt h
theorem le_log2(h:a≠0):n≤a.log2↔2 ^ n≤a:=Nat.le_log2 h
theorem two_pow_pos(n:Nat):0<2 ^ n:=Nat.two_pow_pos n
theorem Oj{P K r:Nat}(hP:0<P)(hr:r<P) :
  (if P*2<2*((P*K+r) % (P*2))∨(2*((P*K+r) % (P*2))=P*2∧(P*K+r) / (P*2) % 2=1) then (P*K+r) / (P*2)+1 else (P*K+r) / (P*2)) =
  (if K % 2=1∧(0<r∨K % 4=3) then K / 2+1 else K / 2):=by
 obtain⟨m,b,hb,rfl⟩:∃ m b,b<2∧K=2*m+b:=⟨K / 2,K % 2,by lia,by lia⟩
 have e:P*(2*m+b)+r=P*2*m+(P*b+r):=by
  rw[Nat.mul_add,←Nat.mul_assoc];lia
 have hlt:P*b+r<P*2:=by
  match b,hb with
  | 0,_=>lia
  | 1,_=>lia
 rw[e,Nat.mul_add_mod,Nat.mod_eq_of_lt hlt,Nat.mul_add_div (by lia),Nat.div_eq_of_lt hlt,Nat.add_zero]
 match b,hb with
 | 0,_ =>
  rw[if_neg (by lia),if_neg (by lia)];lia
 | 1,_ =>
  by_cases h0:r=0
  ·subst h0
   by_cases h3:m % 2=1
   ·rw[if_pos (by lia),if_pos (by lia)];lia
   ·rw[if_neg (by lia),if_neg (by lia)];lia
  ·rw[if_pos (by lia),if_pos (by lia)];lia
theorem uT(v:Int):Qw.rounded v=bA v:=by
 by_cases hv:v=0
 ·subst hv;rfl
 have ha:v.natAbs≠0:=by lia
 have hbl:bl v=v.natAbs.log2+1:=by unfold bl;rw[if_neg (by simpa using hv)]
 unfold Qw.rounded bA;rw[hbl];dsimp only
 by_cases hs:v.natAbs<2 ^ 24
 ·have h1:v.natAbs.log2<24:=(log2_lt ha).2 hs;rw[if_pos hs,if_pos (by lia)]
 ·have h1:24≤v.natAbs.log2:=(le_log2 ha).2 (by lia)
  rw[if_neg hs,if_neg (show ¬ ((v.natAbs.log2+1:Nat):Int) - 24 - 1<0 by lia)]
  generalize hL:v.natAbs.log2=L at *;have e1:(((L+1:Nat):Int) - 24 - 1).toNat=L - 24:=by lia
  rw[e1];obtain⟨s,rfl⟩:∃ s,L=s+24:=⟨L - 24,by lia⟩
  have e2:s+24 - 24=s:=by lia
  have e3:s+24 - 23=s+1:=by lia
  rw[e2,e3,Nat.pow_succ];have hP:0<2 ^ s:=two_pow_pos s;have eP:((2:Int) ^ s)=((2 ^ s:Nat):Int):=by simp
  rw[eP];generalize hPP:2 ^ s=P at *;obtain⟨K,r,hr,eA⟩:∃ K r,r<P∧v.natAbs=P*K+r:=⟨v.natAbs / P,v.natAbs % P,Nat.mod_lt _ hP,(Nat.div_add_mod _ _).symm⟩;rw[eA,Oj hP hr];have hPi:(0:Int)<(P:Int):=by lia
  have eAi:(v.natAbs:Int)=(P:Int)*(K:Int)+(r:Int):=by rw[eA];simp
  by_cases hn:v<0
  ·rw[if_pos hn];have ev:v=-((P:Int)*(K:Int)+(r:Int)):=by lia
   by_cases h0:r=0
   ·subst h0;have ek:v / (P:Int)=-(K:Int):=by
     rw[ev]
     have:-((P:Int)*(K:Int)+((0:Nat):Int))=(P:Int)*(-(K:Int)):=by simp[Int.mul_neg]
     rw[this,Int.mul_ediv_cancel_left _ (by lia)]
    rw[ek];have ekv:-(K:Int)*(P:Int)=v:=by rw[ev];rw[Int.mul_comm,Int.mul_neg];simp
    by_cases hodd:K % 2=1
    ·rw[if_pos (show (-(K:Int)) % 2=1 by lia)]
     by_cases h3:K % 4=3
     ·rw[if_pos (by lia),if_pos ⟨ekv,by lia⟩]
      have:((K / 2+1:Nat)*(P*2):Nat)=(K+1)*P:=by
       have:K+1=(K / 2+1)*2:=by lia
       rw[this,Nat.mul_assoc,Nat.mul_comm 2 P]
      rw[this];simp[Int.neg_mul];rw[←Int.neg_mul];congr 1;lia
     ·rw[if_neg (by lia),if_neg (by intro z;lia)]
      have:((K / 2:Nat)*(P*2):Nat)=(K - 1)*P:=by
       have:K - 1=(K / 2)*2:=by lia
       rw[this,Nat.mul_assoc,Nat.mul_comm 2 P]
      rw[this,Int.natCast_mul,←Int.neg_mul]
      congr 1;lia
    ·rw[if_neg (by lia),if_neg (show ¬ (-(K:Int)) % 2=1 by lia)]
     have:((K / 2:Nat)*(P*2):Nat)=K*P:=by
      have:K=(K / 2)*2:=by lia
      rw[Nat.mul_comm P 2,←Nat.mul_assoc,←this]
     rw[this,Int.natCast_mul,←Int.neg_mul]
   ·have ek:v / (P:Int)=-(K:Int) - 1:=by
     rw[ev]
     have:-((P:Int)*(K:Int)+(r:Int))=((P:Int) - (r:Int))+(P:Int)*(-(K:Int) - 1):=by
      rw[Int.mul_sub,Int.mul_neg];lia
     rw[this,Int.add_mul_ediv_left _ _ (by lia),Int.ediv_eq_zero_of_lt (by lia) (by lia)];lia
    rw[ek]
    by_cases hodd:K % 2=1
    ·rw[if_pos (by lia),if_neg (show ¬ (-(K:Int) - 1) % 2=1 by lia)]
     have:((K / 2+1:Nat)*(P*2):Nat)=(K+1)*P:=by
      have:K+1=(K / 2+1)*2:=by lia
      rw[this,Nat.mul_assoc,Nat.mul_comm 2 P]
     rw[this,Int.natCast_mul,←Int.neg_mul]
     congr 1;lia
    ·rw[if_neg (by lia),if_pos (show (-(K:Int) - 1) % 2=1 by lia)]
     have hne:¬ ((-(K:Int) - 1)*(P:Int)=v∧(-(K:Int) - 1) % 4=1):=by
      rintro⟨z,_⟩
      rw[ev,Int.sub_mul,Int.neg_mul,Int.mul_comm (P:Int) (K:Int)] at z;lia
     rw[if_neg hne]
     have:((K / 2:Nat)*(P*2):Nat)=K*P:=by
      have:K=(K / 2)*2:=by lia
      rw[Nat.mul_comm P 2,←Nat.mul_assoc,←this]
     rw[this,Int.natCast_mul,←Int.neg_mul]
     congr 1;lia
  ·rw[if_neg hn];have ev:v=(P:Int)*(K:Int)+(r:Int):=by lia
   have ek:v / (P:Int)=(K:Int):=by
    rw[ev,Int.add_comm,Int.add_mul_ediv_left _ _ (by lia),Int.ediv_eq_zero_of_lt (by lia) (by lia)];lia
   rw[ek]
   by_cases hodd:K % 2=1
   ·rw[if_pos (show ((K:Int)) % 2=1 by lia)]
    by_cases hh:0<r∨K % 4=3
    ·rw[if_pos ⟨hodd,hh⟩];have hne:¬ ((K:Int)*(P:Int)=v∧(K:Int) % 4=1):=by
      rintro⟨z,y⟩
      rw[ev,Int.mul_comm (P:Int) (K:Int)] at z;lia
     rw[if_neg hne]
     have:((K / 2+1:Nat)*(P*2):Nat)=(K+1)*P:=by
      have:K+1=(K / 2+1)*2:=by lia
      rw[this,Nat.mul_assoc,Nat.mul_comm 2 P]
     rw[this,Int.natCast_mul]
     congr 1
    ·rw[if_neg (by lia)]
     have h0:r=0:=by lia
     subst h0;rw[if_pos ⟨by rw[ev,Int.mul_comm];simp,by lia⟩]
     have:((K / 2:Nat)*(P*2):Nat)=(K - 1)*P:=by
      have:K - 1=(K / 2)*2:=by lia
      rw[this,Nat.mul_assoc,Nat.mul_comm 2 P]
     rw[this,Int.natCast_mul]
     congr 1;lia
   ·rw[if_neg (by lia),if_neg (show ¬ ((K:Int)) % 2=1 by lia)]
    have:((K / 2:Nat)*(P*2):Nat)=K*P:=by
     have:K=(K / 2)*2:=by lia
     rw[Nat.mul_comm P 2,←Nat.mul_assoc,←this]
    rw[this,Int.natCast_mul]
end QM
namespace QM
open Qw
theorem iB{a:Nat}(h:a≠0)(k:Nat):(a*2 ^ k).log2=a.log2+k:=by
 have hp:0<2 ^ k:=two_pow_pos k;have h1:a*2 ^ k≠0:=by
  intro z;rcases Nat.mul_eq_zero.1 z with z | z<;>lia
 refine Nat.le_antisymm ?_ ?_
 ·refine Nat.le_of_lt_succ ((log2_lt h1).2 ?_)
  have:a<2 ^ (a.log2+1):=(log2_lt h).1 (Nat.lt_succ_self _)
  calc a*2 ^ k<2 ^ (a.log2+1)*2 ^ k:=Nat.mul_lt_mul_of_pos_right this hp
   _=2 ^ (a.log2+k+1):=by rw[←Nat.pow_add];congr 1;lia
 ·refine (le_log2 h1).2 ?_
  rw[Nat.pow_add];exact Nat.mul_le_mul_right _ ((le_log2 h).1 (Nat.le_refl _))
theorem g8(k:Nat):((2:Int) ^ k)=((2 ^ k:Nat):Int):=by simp
theorem gj(v:Int)(k:Nat):(v*2 ^ k).natAbs=v.natAbs*2 ^ k:=by
 rw[Int.natAbs_mul,g8,Int.natAbs_natCast]
theorem fY{v:Int}{k:Nat}:v*2 ^ k<0↔v<0:=by
 have hp:(0:Int)<2 ^ k:=by rw[g8];have:=two_pow_pos k;lia
 constructor
 ·intro h
  by_cases z:v<0
  ·exact z
  ·exact absurd h (Int.not_lt.2 (Int.mul_nonneg (by lia) (by lia)))
 ·intro h;exact Int.mul_neg_of_neg_of_pos h hp
theorem wI(v:Int)(k:Nat):Qw.rounded (v*2 ^ k)=Qw.rounded v*2 ^ k:=by
 by_cases hv:v=0
 ·subst hv;simp[Qw.rounded]
 have ha:v.natAbs≠0:=by lia
 have hp:0<2 ^ k:=two_pow_pos k;unfold Qw.rounded;dsimp only;rw[gj,iB ha];generalize hA:v.natAbs=a at *
 by_cases hs:a<2 ^ 24
 ·rw[if_pos hs];have hl:a.log2≤23:=by have:=(log2_lt ha).2 hs;lia
  by_cases hs':a*2 ^ k<2 ^ 24
  ·rw[if_pos hs']
  ·rw[if_neg hs'];have hk:24≤a.log2+k:=by
    rw[←iB ha];exact (le_log2 (by lia)).2 (by lia)
   obtain⟨d,hd⟩:∃ d,k=(a.log2+k - 23)+d:=⟨k - (a.log2+k - 23),by lia⟩
   generalize hu:a.log2+k - 23=e at *;have e1:a*2 ^ k=2 ^ e*(a*2 ^ d):=by
    rw[hd,Nat.pow_add,Nat.mul_left_comm]
   have hpe:0<2 ^ e:=two_pow_pos e;have e2:a*2 ^ k % 2 ^ e=0:=by rw[e1,Nat.mul_mod_right]
   have e3:a*2 ^ k / 2 ^ e*2 ^ e=a*2 ^ k:=by rw[e1,Nat.mul_div_cancel_left _ hpe,Nat.mul_comm]
   rw[e2,if_neg (show ¬ (2 ^ e<2*0∨2*0=2 ^ e∧a*2 ^ k / 2 ^ e % 2=1) by lia),e3]
   by_cases hn:v<0
   ·rw[if_pos (fY.2 hn)]
    have:v=-(a:Int):=by lia
    rw[this,Int.natCast_mul,Int.neg_mul,g8]
   ·rw[if_neg (fun z=>hn (fY.1 z))]
    have:v=(a:Int):=by lia
    rw[this,Int.natCast_mul,g8]
 ·have h24:24≤a.log2:=(le_log2 ha).2 (by lia)
  have hge:¬ a*2 ^ k<2 ^ 24:=by
   have:a*1≤a*2 ^ k:=Nat.mul_le_mul_left _ hp
   lia
  rw[if_neg hs,if_neg hge];have e1:a.log2+k - 23=(a.log2 - 23)+k:=by lia
  rw[e1,Nat.pow_add];have hu:0<2 ^ (a.log2 - 23):=two_pow_pos _;generalize 2 ^ (a.log2 - 23)=u at *;generalize hP:2 ^ k=P at *;rw[Nat.mul_mod_mul_right,Nat.mul_div_mul_right _ _ hp];have c1:(u*P<2*(a % u*P)∨2*(a % u*P)=u*P∧a / u % 2=1)↔(u<2*(a % u)∨2*(a % u)=u∧a / u % 2=1):=by
   rw[←Nat.mul_assoc,Nat.mul_lt_mul_right hp]
   constructor
   ·rintro (z | ⟨z,y⟩)
    ·exact .inl z
    ·exact .inr ⟨Nat.eq_of_mul_eq_mul_right hp z,y⟩
   ·rintro (z | ⟨z,y⟩)
    ·exact .inl z
    ·exact .inr ⟨by rw[z],y⟩
  have c2:(if u*P<2*(a % u*P)∨2*(a % u*P)=u*P∧a / u % 2=1 then a / u+1 else a / u)=(if u<2*(a % u)∨2*(a % u)=u∧a / u % 2=1 then a / u+1 else a / u):=by
   by_cases z:(u<2*(a % u)∨2*(a % u)=u∧a / u % 2=1)
   ·rw[if_pos z,if_pos (c1.2 z)]
   ·rw[if_neg z,if_neg (fun y=>z (c1.1 y))]
  rw[c2];generalize (if u<2*(a % u)∨2*(a % u)=u∧a / u % 2=1 then a / u+1 else a / u)=q
  have e4:q*(u*P)=q*u*P:=by rw[Nat.mul_assoc]
  rw[e4]
  by_cases hn:v<0
  ·rw[if_pos hn,if_pos (fY.2 hn),Int.natCast_mul (q*u) P,Int.neg_mul];rw[←hP,g8]
  ·rw[if_neg hn,if_neg (fun z=>hn (fY.1 z)),Int.natCast_mul (q*u) P]
   rw[←hP,g8]
theorem ie(v:Int)(k:Nat):Qw.rounded (v*2 ^ k)=bA v*2 ^ k:=by
 rw[wI,uT]
def dQ(number sign fraction least:Int):Int :=
 if number % sign=0 then 0 else
  if number<sign then (fraction+number % sign % fraction)*2 ^ (number % sign / fraction - least).toNat
  else -((fraction+number % sign % fraction)*2 ^ (number % sign / fraction - least).toNat)
def df(number sign fraction least most:Int):Bool :=
 decide (number % sign=0)||(decide (least≤number % sign / fraction)&&decide (number % sign / fraction≤most))
theorem lV(hb:b<2 ^ 32):Qw.singleRight b=df (b:Int) 2147483648 8388608 27 227:=by
 unfold Qw.singleRight df;have e:(b:Int) % 2147483648 / 8388608=((b / 2 ^ 23 % 256:Nat):Int):=by lia
 have e2:((b:Int) % 2147483648=0)↔b % 2 ^ 31=0:=by lia
 rw[e]
 by_cases h0:b % 2 ^ 31=0
 ·rw[decide_eq_true (e2.2 h0),Bool.true_or]
  have:(b % 2 ^ 31==0)=true:=by simpa using h0
  rw[this,Bool.true_or]
 ·rw[decide_eq_false (fun z=>h0 (e2.1 z))]
  have:(b % 2 ^ 31==0)=false:=by simpa using h0
  rw[this,Bool.false_or,Bool.false_or]
  congr 1
  ·exact decide_eq_decide.2 (by lia)
  ·exact decide_eq_decide.2 (by lia)
theorem jA(hw:w<2 ^ 16):Qw.shortRight w=df (w:Int) 32768 128 87 167:=by
 unfold Qw.shortRight df;have e:(w:Int) % 32768 / 128=((w / 2 ^ 7 % 256:Nat):Int):=by lia
 have e2:((w:Int) % 32768=0)↔w % 2 ^ 15=0:=by lia
 rw[e]
 by_cases h0:w % 2 ^ 15=0
 ·rw[decide_eq_true (e2.2 h0),Bool.true_or]
  have:(w % 2 ^ 15==0)=true:=by simpa using h0
  rw[this,Bool.true_or]
 ·rw[decide_eq_false (fun z=>h0 (e2.1 z))]
  have:(w % 2 ^ 15==0)=false:=by simpa using h0
  rw[this,Bool.false_or,Bool.false_or]
  congr 1
  ·exact decide_eq_decide.2 (by lia)
  ·exact decide_eq_decide.2 (by lia)
theorem yG(hb:b<2 ^ 32)(hr:Qw.singleRight b=true):Qw.worth b=dQ (b:Int) 2147483648 8388608 27*2 ^ 26:=by
 unfold Qw.worth dQ;dsimp only
 by_cases h0:b % 2 ^ 31=0
 ·have e2:((b:Int) % 2147483648=0):=by omega
  rw[if_pos e2,if_pos (show b / 2 ^ 23 % 256=0 by omega)]
  have:b % 2 ^ 23=0:=by omega
  rw[this];simp
 ·have e2:¬ ((b:Int) % 2147483648=0):=by omega
  have hlo:27≤b / 2 ^ 23 % 256:=by
   unfold Qw.singleRight at hr
   have:(b % 2 ^ 31==0)=false:=by simpa using h0
   rw[this,Bool.false_or,Bool.and_eq_true] at hr;exact of_decide_eq_true hr.1
  rw[if_neg e2,if_neg (show ¬ b / 2 ^ 23 % 256=0 by omega)]
  have e:(b:Int) % 2147483648 / 8388608 - 27=((b / 2 ^ 23 % 256 - 27:Nat):Int):=by omega
  have em:(b:Int) % 2147483648 % 8388608=((b % 2 ^ 23:Nat):Int):=by omega
  rw[e,em,Int.toNat_natCast];generalize b / 2 ^ 23 % 256=x at *;have ex:x - 1=(x - 27)+26:=by omega
  have eN:(2 ^ 23+b % 2 ^ 23)*2 ^ (x - 1)=(2 ^ 23+b % 2 ^ 23)*2 ^ (x - 27)*2 ^ 26:=by rw[ex,Nat.pow_add,Nat.mul_assoc]
  rw[eN];have eC:(((2 ^ 23+b % 2 ^ 23)*2 ^ (x - 27)*2 ^ 26:Nat):Int)=((8388608:Int)+((b % 2 ^ 23:Nat):Int))*2 ^ (x - 27)*2 ^ 26:=by
   rw[Int.natCast_mul,Int.natCast_mul,Int.natCast_add];simp
  rw[eC]
  by_cases hn:(b:Int)<2147483648
  ·rw[if_pos hn,if_neg (by omega)]
  ·rw[if_neg hn,if_pos (by omega),Int.neg_mul]
theorem rT(hw:w<2 ^ 16)(hr:Qw.shortRight w=true):Qw.shortWorth w=dQ (w:Int) 32768 128 87*2 ^ 102:=by
 unfold Qw.shortWorth Qw.worth dQ;dsimp only
 by_cases h0:w % 2 ^ 15=0
 ·have e2:((w:Int) % 32768=0):=by lia
  rw[if_pos e2,if_pos (show w*2 ^ 16 / 2 ^ 23 % 256=0 by lia)]
  have:w*2 ^ 16 % 2 ^ 23=0:=by lia
  rw[this];simp
 ·have e2:¬ ((w:Int) % 32768=0):=by lia
  have hlo:87≤w / 2 ^ 7 % 256:=by
   unfold Qw.shortRight at hr
   have:(w % 2 ^ 15==0)=false:=by simpa using h0
   rw[this,Bool.false_or,Bool.and_eq_true] at hr;exact of_decide_eq_true hr.1
  have e0:w*2 ^ 16 / 2 ^ 23 % 256=w / 2 ^ 7 % 256:=by lia
  rw[if_neg e2,e0,if_neg (show ¬ w / 2 ^ 7 % 256=0 by lia)]
  have e:(w:Int) % 32768 / 128 - 87=((w / 2 ^ 7 % 256 - 87:Nat):Int):=by lia
  have em:(w:Int) % 32768 % 128=((w % 2 ^ 7:Nat):Int):=by lia
  have em':w*2 ^ 16 % 2 ^ 23=(w % 2 ^ 7)*2 ^ 16:=by lia
  rw[e,em,em',Int.toNat_natCast];generalize w / 2 ^ 7 % 256=x at *;have ex:x - 1+16=(x - 87)+102:=by lia
  have eN:(2 ^ 23+w % 2 ^ 7*2 ^ 16)*2 ^ (x - 1)=(128+w % 2 ^ 7)*2 ^ (x - 87)*2 ^ 102:=by
   have:2 ^ 23+w % 2 ^ 7*2 ^ 16=(128+w % 2 ^ 7)*2 ^ 16:=by lia
   rw[this,Nat.mul_assoc,Nat.mul_assoc,←Nat.pow_add,←Nat.pow_add,Nat.add_comm 16,ex]
  rw[eN];have eC:(((128+w % 2 ^ 7)*2 ^ (x - 87)*2 ^ 102:Nat):Int)=((128:Int)+((w % 2 ^ 7:Nat):Int))*2 ^ (x - 87)*2 ^ 102:=by
   rw[Int.natCast_mul,Int.natCast_mul,Int.natCast_add];simp
  rw[eC]
  by_cases hn:(w:Int)<32768
  ·rw[if_pos hn,if_neg (by lia)]
  ·rw[if_neg hn,if_pos (by omega),Int.neg_mul]
def fI(v:Int):Int :=
 if v=0 then 0 else
  let spare:Int:=(bl (v.natAbs:Int):Int) - 24
  let digits:Int:=if spare>0 then (v.natAbs:Int) / 2 ^ spare.toNat else (v.natAbs:Int)*2 ^ (-spare).toNat
  let number:=(27+spare)*8388608+digits - 8388608
  if v>0 then number else number+2147483648
theorem xM(v:Int):(Qw.single (v*2 ^ 26):Int)=fI v:=by
 unfold fI Qw.single;dsimp only;rw[gj]
 by_cases hv:v=0
 ·subst hv;rfl
 have ha:v.natAbs≠0:=by lia
 rw[if_neg hv,iB ha];have hbl:bl (v.natAbs:Int)=v.natAbs.log2+1:=by
  unfold bl;rw[if_neg (by simpa using ha),Int.natAbs_natCast]
 rw[hbl];generalize hA:v.natAbs=a at *;have hge:¬ a*2 ^ 26<2 ^ 23:=by lia
 rw[if_neg hge];have hlt:a<2 ^ (a.log2+1):=(log2_lt ha).1 (Nat.lt_succ_self _);have hle:2 ^ a.log2≤a:=(le_log2 ha).1 (Nat.le_refl _);generalize hL:a.log2=L at *;have eD:((if ((L+1:Nat):Int) - 24>0 then (a:Int) / 2 ^ (((L+1:Nat):Int) - 24).toNat else (a:Int)*2 ^ (-(((L+1:Nat):Int) - 24)).toNat))=((a*2 ^ 26 / 2 ^ (L+26 - 23):Nat):Int):=by
  by_cases hs:((L+1:Nat):Int) - 24>0
  ·rw[if_pos hs];have e1:(((L+1:Nat):Int) - 24).toNat=L - 23:=by lia
   have e2:L+26 - 23=(L - 23)+26:=by lia
   rw[e1,e2,Nat.pow_add,Nat.mul_div_mul_right _ _ (two_pow_pos 26),g8,Int.natCast_ediv]
  ·rw[if_neg hs];have e1:(-(((L+1:Nat):Int) - 24)).toNat=23 - L:=by lia
   have e2:26=(23 - L)+(L+26 - 23):=by lia
   have e3:a*2 ^ 26=a*2 ^ (23 - L)*2 ^ (L+26 - 23):=by
    rw[Nat.mul_assoc,←Nat.pow_add,←e2]
   rw[e1,e3,Nat.mul_div_cancel _ (two_pow_pos _),Int.natCast_mul,g8]
 rw[eD];have hd:2 ^ 23≤a*2 ^ 26 / 2 ^ (L+26 - 23):=by
  rw[Nat.le_div_iff_mul_le (two_pow_pos _),←Nat.pow_add];have e2:23+(L+26 - 23)=L+26:=by lia
  rw[e2,Nat.pow_add];exact Nat.mul_le_mul_right _ hle
 generalize a*2 ^ 26 / 2 ^ (L+26 - 23)=D at *
 by_cases hn:v<0
 ·rw[if_pos (fY.2 hn),if_neg (by lia)]
  lia
 ·rw[if_neg (fun z=>hn (fY.1 z)),if_pos (by lia)]
  lia
end QM
namespace QM
open Qw
theorem A2(x:Array Nat)(i v p d:Nat):(x.setIfInBounds i v).getD p d=if p=i∧i<x.size then v else x.getD p d:=by
 rw[Array.getD_eq_getD_getElem?,Array.getElem?_setIfInBounds]
 by_cases h:i=p
 ·subst h
  by_cases h2:i<x.size
  ·rw[if_pos rfl,if_pos h2,if_pos ⟨rfl,h2⟩];rfl
  ·rw[if_pos rfl,if_neg h2,if_neg (fun z=>h2 z.2)]
   have:x[i]?=none:=Array.getElem?_eq_none (by lia)
   rw[Array.getD_eq_getD_getElem?,this]
 ·rw[if_neg h,if_neg (fun z=>h z.1.symm),←Array.getD_eq_getD_getElem?]
theorem mW:∀ (l:List Nat) (k b:Nat) (x:Array Nat) (p d:Nat),
  ((l.zipIdx k).foldl (fun (a:Array Nat) (y:Nat×Nat)=>a.setIfInBounds (b+y.2) y.1) x).getD p d =
   if b+k≤p∧p<b+k+l.length∧p<x.size then l.getD (p - (b+k)) d else x.getD p d
 | [],k,b,x,p,d=>by
  rw[if_neg (by simp;lia)];rfl
 | v::l,k,b,x,p,d=>by
  rw[zipIdx_cons,foldl_cons,mW l (k+1) b,A2,Array.size_setIfInBounds,length_cons]
  by_cases h1:p=b+k
  ·subst h1;rw[if_neg (by lia)]
   by_cases h2:b+k<x.size
   ·rw[if_pos ⟨rfl,h2⟩,if_pos ⟨by lia,by lia,h2⟩];simp
   ·rw[if_neg (fun z=>h2 z.2),if_neg (fun z=>h2 z.2.2)]
  ·rw[if_neg (show ¬ (p=b+k∧b+k<x.size) from fun z=>h1 z.1)]
   by_cases h2:b+(k+1)≤p∧p<b+(k+1)+l.length∧p<x.size
   ·rw[if_pos h2,if_pos ⟨by lia,by lia,h2.2.2⟩]
    have:p - (b+k)=(p - (b+(k+1)))+1:=by lia
    rw[this,List.getD_cons_succ]
   ·rw[if_neg h2,if_neg (by lia)]
theorem rg:∀ (l:List Nat) (k b:Nat) (x:Array Nat),
  ((l.zipIdx k).foldl (fun (a:Array Nat) (y:Nat×Nat)=>a.setIfInBounds (b+y.2) y.1) x).size=x.size
 | [],_,_,_=>rfl
 | v::l,k,b,x=>by
  rw[zipIdx_cons,foldl_cons,rg l (k+1) b,Array.size_setIfInBounds]
theorem kG(x:Tile)(i:Nat)(s:Bytes)(p:Nat) :
  (putRow x i s).getD p 0=if 64*i≤p∧p<64*i+s.length∧p<x.size then s.getD (p - 64*i) 0 else x.getD p 0:=by
 have:=mW s 0 (64*i) x p 0
 simp only[Nat.add_zero] at this;exact this
theorem sB(x:Tile)(i:Nat)(s:Bytes):(putRow x i s).size=x.size:=rg s 0 (64*i) x
theorem ut(s:Bytes)(p:Nat)(hp:p<1024):(tileOf s).getD p 0=s.getD p 0:=by
 have:=mW s 0 0 zeros p 0
 unfold tileOf;simp only[Nat.zero_add] at this;rw[this];have hz:(zeros:Tile).size=1024:=by unfold zeros;simp[HIGH,WIDE]
 have hz0:(zeros:Tile).getD p 0=0:=by
  unfold zeros;rw[Array.getD_eq_getD_getElem?,Array.getElem?_replicate]
  split<;>rfl
 rw[hz,hz0]
 by_cases h:p<s.length
 ·rw[if_pos ⟨by lia,by lia,hp⟩];rfl
 ·rw[if_neg (by lia)]
  rw[getD_eq_getElem?_getD,getElem?_eq_none (by lia)];rfl
theorem iE:(zeros:Tile).size=1024:=by unfold zeros;simp[HIGH,WIDE]
theorem jV(p:Nat):(zeros:Tile).getD p 0=0:=by
 unfold zeros;rw[Array.getD_eq_getD_getElem?,Array.getElem?_replicate]
 split<;>rfl
theorem Aw(x:Tile)(i j v p:Nat) :
  (putWord x i j v).getD p 0=if 64*i+4*j≤p∧p<64*i+4*j+4∧p<x.size then v / 256 ^ (p - (64*i+4*j)) % 256 else x.getD p 0:=by
 unfold putWord;have e:List.range 4=[0,1,2,3]:=rfl;rw[e];simp only[foldl_cons,foldl_nil,A2,Array.size_setIfInBounds,WIDE];generalize 64*i+4*j=b
 by_cases h3:p=b+3
 ·subst h3
  by_cases hx:b+3<x.size
  ·rw[if_pos ⟨rfl,hx⟩,if_pos ⟨by lia,by lia,hx⟩];congr 3;lia
  ·rw[if_neg (by lia),if_neg (by lia),if_neg (by lia),if_neg (by lia),if_neg (by lia)]
 ·rw[if_neg (fun z=>h3 z.1)]
  by_cases h2:p=b+2
  ·subst h2
   by_cases hx:b+2<x.size
   ·rw[if_pos ⟨rfl,hx⟩,if_pos ⟨by lia,by lia,hx⟩];congr 3;lia
   ·rw[if_neg (by lia),if_neg (by lia),if_neg (by lia),if_neg (by lia)]
  ·rw[if_neg (fun z=>h2 z.1)]
   by_cases h1:p=b+1
   ·subst h1
    by_cases hx:b+1<x.size
    ·rw[if_pos ⟨rfl,hx⟩,if_pos ⟨by lia,by lia,hx⟩];congr 3;lia
    ·rw[if_neg (by lia),if_neg (by lia),if_neg (by lia)]
   ·rw[if_neg (fun z=>h1 z.1)]
    by_cases h0:p=b+0
    ·have h0':p=b:=h0;subst h0'
     by_cases hx:p<x.size
     ·rw[if_pos ⟨rfl,hx⟩,if_pos ⟨by lia,by lia,hx⟩];congr 3;lia
     ·rw[if_neg (by lia),if_neg (by lia)]
    ·rw[if_neg (fun z=>h0 z.1),if_neg (by lia)]
theorem yR(x:Tile)(i j v:Nat):(putWord x i j v).size=x.size:=by
 unfold putWord;have e:List.range 4=[0,1,2,3]:=rfl;rw[e];simp only[foldl_cons,foldl_nil,Array.size_setIfInBounds]
theorem sx(V:Nat→Nat)(i n:Nat)(a:Tile):((List.range n).foldl (fun (b:Tile) (j:Nat)=>putWord b i j (V j)) a).size=a.size:=by
 induction n with
 | zero=>rfl
 | succ n ih=>rw[range_succ,foldl_append,foldl_cons,foldl_nil,yR,ih]
theorem uS(V:Nat→Nat)(i n:Nat)(a:Tile)(p:Nat) :
  ((List.range n).foldl (fun (b:Tile) (j:Nat)=>putWord b i j (V j)) a).getD p 0 =
   if 64*i≤p∧p<64*i+4*n∧p<a.size then V ((p - 64*i) / 4) / 256 ^ ((p - 64*i) % 4) % 256 else a.getD p 0:=by
 induction n with
 | zero=>rw[if_neg (by lia)];rfl
 | succ n ih =>
  rw[range_succ,foldl_append,foldl_cons,foldl_nil,Aw,sx,ih]
  by_cases h:64*i+4*n≤p∧p<64*i+4*n+4∧p<a.size
  ·rw[if_pos h,if_pos (by lia)]
   have e1:(p - 64*i) / 4=n:=by lia
   have e2:(p - 64*i) % 4=p - (64*i+4*n):=by lia
   rw[e1,e2]
  ·rw[if_neg h]
   by_cases h2:64*i≤p∧p<64*i+4*n∧p<a.size
   ·rw[if_pos h2,if_pos (by lia)]
   ·rw[if_neg h2,if_neg (by lia)]
theorem sY(V:Nat→Nat→Nat)(h n:Nat)(x:Tile):((List.range h).foldl (fun (a:Tile) (i:Nat)=>(List.range n).foldl (fun (b:Tile) (j:Nat)=>putWord b i j (V i j)) a) x).size=x.size:=by
 induction h with
 | zero=>rfl
 | succ h ih=>rw[range_succ,foldl_append,foldl_cons,foldl_nil,sx,ih]
theorem Dj(V:Nat→Nat→Nat)(h n:Nat)(hn:n≤16)(x:Tile)(i c:Nat)(hc:c<64)(hx:64*i+c<x.size) :
  ((List.range h).foldl (fun (a:Tile) (i:Nat)=>(List.range n).foldl (fun (b:Tile) (j:Nat)=>putWord b i j (V i j)) a) x).getD (64*i+c) 0 =
   if i<h∧c<4*n then V i (c / 4) / 256 ^ (c % 4) % 256 else x.getD (64*i+c) 0:=by
 induction h with
 | zero=>rw[if_neg (by lia)];rfl
 | succ h ih =>
  rw[range_succ,foldl_append,foldl_cons,foldl_nil,uS,sY,ih]
  by_cases e:i=h
  ·subst e
   by_cases h2:c<4*n
   ·rw[if_pos (by lia),if_pos (by lia)]
    have:64*i+c - 64*i=c:=by lia
    rw[this]
   ·rw[if_neg (by lia),if_neg (by lia),if_neg (by lia)]
  ·rw[if_neg (by lia)]
   by_cases h2:i<h∧c<4*n
   ·rw[if_pos h2,if_pos (by lia)]
   ·rw[if_neg h2,if_neg (by lia)]
theorem Bw(kind:Nat)(x y z:Tile)(h n rows:Nat):(Qw.dot kind x y z h n rows).size=x.size :=
 sY (fun i j=>dotted kind (wordIn x i j) y z rows i j) h n x
theorem G7(kind:Nat)(x y z:Tile)(h n rows:Nat)(hn:n≤16)(hc:c<64)(hx:64*i+c<x.size) :
  at_ (Qw.dot kind x y z h n rows) i c=if i<h∧c<4*n then dotted kind (wordIn x i (c / 4)) y z rows i (c / 4) / 256 ^ (c % 4) % 256 else at_ x i c :=
 Dj (fun i j=>dotted kind (wordIn x i j) y z rows i j) h n hn x i c hc hx
end QM
namespace QM
open Qw
abbrev nI(l:List Nat):List Int:=l.map fun (n:Nat)=>(n:Int)
def aI(x:Tile)(h w:Nat):List (List Int):=(List.range h).map fun (i:Nat)=>nI (rowOf x i w)
def lR(x:Tile):Prop:=∀ p,x.getD p 0<256
theorem lR.at_(h:lR x)(i c:Nat):at_ x i c<256:=h _
theorem qN(x:Tile)(i j:Nat):wordIn x i j=at_ x i (4*j)+256*(at_ x i (4*j+1)+256*(at_ x i (4*j+2)+256*at_ x i (4*j+3))):=by
 unfold wordIn;have e:List.range 4=[0,1,2,3]:=rfl;rw[e];simp only[map_cons,map_nil,numOf,Nat.add_zero,Nat.mul_zero]
theorem qM(h:lR x)(i j:Nat):wordIn x i j<2 ^ 32:=by
 rw[qN]
 have:=h.at_ i (4*j);have:=h.at_ i (4*j+1);have:=h.at_ i (4*j+2);have:=h.at_ i (4*j+3)
 lia
theorem uD(x:Tile)(i q:Nat):shortIn x i q=at_ x i (2*q)+256*at_ x i (2*q+1):=by
 unfold shortIn;simp only[numOf,Nat.add_zero,Nat.mul_zero]
theorem iF(h:lR x)(i q:Nat):shortIn x i q<2 ^ 16:=by
 rw[uD]
 have:=h.at_ i (2*q);have:=h.at_ i (2*q+1)
 lia
def bD(l:List (Int×Int)):Int:=l.foldl (fun t p=>bA (t+p.1*p.2)) 0
def hv(w:Int):Int:=dQ w 32768 128 87
def sv(b:Int):Int:=dQ b 2147483648 8388608 27
def pZ(word:Int)(l u:List (Int×Int)):Int:=fI (bA (sv word+bA (bD l+bD u)*536870912))
theorem oP(y z:Tile)(hy:lR y)(hz:lR z)(i j odd:Nat):∀ (n:Nat),(∀ k,k<n→shortRight (shortIn y i (2*k+odd))=true∧shortRight (shortIn z k (2*j+odd))=true) →
  pairSum y z i j odd n=bD ((List.range n).map fun k=>(hv (shortIn y i (2*k+odd)),hv (shortIn z k (2*j+odd))))*2 ^ 55
 | 0,_=>by simp[pairSum,bD]
 | n+1,h=>by
  have ih:=oP y z hy hz i j odd n fun k hk=>h k (by lia)
  obtain⟨h1,h2⟩:=h n (by lia)
  unfold pairSum;rw[ih,rT (iF hy _ _) h1,rT (iF hz _ _) h2];have e:dQ (↑(shortIn y i (2*n+odd))) 32768 128 87*2 ^ 102*(dQ (↑(shortIn z n (2*j+odd))) 32768 128 87*2 ^ 102) / (2:Int) ^ 149=(hv (shortIn y i (2*n+odd))*hv (shortIn z n (2*j+odd)))*2 ^ 55:=by
   unfold hv;generalize dQ (↑(shortIn y i (2*n+odd))) 32768 128 87=a;generalize dQ (↑(shortIn z n (2*j+odd))) 32768 128 87=b
   have:a*2 ^ 102*(b*2 ^ 102)=(a*b*2 ^ 55)*2 ^ 149:=by
    have e1:(2:Int) ^ 55*2 ^ 149=2 ^ 102*2 ^ 102:=by decide
    rw[Int.mul_assoc (a*b),e1];generalize (2:Int) ^ 102=P;rw[Int.mul_assoc a P,Int.mul_left_comm P b P,←Int.mul_assoc a b]
   rw[this,Int.mul_ediv_cancel _ (by decide)]
  rw[e,←Int.add_mul,ie,range_succ,map_append,map_cons,map_nil];unfold bD;rw[foldl_append,foldl_cons,foldl_nil]
theorem qA(y z:Tile)(hy:lR y)(hz:lR z)(x rows i j:Nat)(hx:x<2 ^ 32)(rx:singleRight x=true)
  (h:∀ k q,k<rows→q<2→shortRight (shortIn y i (2*k+q))=true∧shortRight (shortIn z k (2*j+q))=true) :
  (dotted 4 x y z rows i j:Int)=pZ x ((List.range rows).map fun k=>(hv (shortIn y i (2*k)),hv (shortIn z k (2*j)))) ((List.range rows).map fun k=>(hv (shortIn y i (2*k+1)),hv (shortIn z k (2*j+1)))):=by
 unfold dotted pZ;rw[if_neg (by decide)]
 rw[oP y z hy hz i j 0 rows fun k hk=>h k 0 hk (by decide),oP y z hy hz i j 1 rows fun k hk=>h k 1 hk (by decide)]
 rw[←Int.add_mul,ie,yG hx rx];simp only[Nat.add_zero];generalize bA (bD _+bD _)=S;have e:dQ (↑x) 2147483648 8388608 27*2 ^ 26+S*2 ^ 55=(sv x+S*536870912)*2 ^ 26:=by
  unfold sv
  have:(2:Int) ^ 55=536870912*2 ^ 26:=by decide
  rw[this,Int.add_mul,Int.mul_assoc]
 rw[e,ie,xM]
def sg(s:Bool)(b:Int):Int:=if s then (if b<128 then b else b - 256) else b
theorem EG(s:Bool)(b:Nat):signed s b=sg s b:=by
 unfold signed sg
 cases s with
 | false=>simp
 | true =>
  by_cases h:(b:Int)<128
  ·rw[if_neg (by lia)];simp[h]
  ·rw[if_pos ⟨rfl,by lia⟩];simp[h]
theorem FT(l:List Int):Qw.sum l=l.sum:=by
 unfold Qw.sum
 have:∀ (l:List Int) (a:Int),l.foldl (fun a b=>a+b) a=a+l.sum:=by
  intro l
  induction l with
  | nil=>intro a;simp
  | cons b l ih=>intro a;rw[foldl_cons,ih,sum_cons];lia
 rw[this];lia
def dD(l r:List Int):Int:=((l.zip r).map fun p=>p.1*p.2).sum
theorem ux(a b:List Int):(a++b).sum=a.sum+b.sum:=by
 induction a with
 | nil=>simp
 | cons x a ih=>rw[cons_append,sum_cons,sum_cons,ih];lia
theorem zj(h:a.length=c.length):dD (a++b) (c++d)=dD a c+dD b d:=by
 unfold dD;rw[List.zip_append h,map_append,ux]
theorem AV(f:Nat→Nat→Int):∀ rows:Nat,((List.range rows).flatMap fun k=>(List.range 4).map fun q=>f k q).length=4*rows
 | 0=>rfl
 | rows+1=>by
  rw[range_succ (n:=rows),flatMap_append,length_append,AV f rows]
  simp
  lia
theorem wB(kind:Nat)(y z:Tile)(i j:Nat):∀ (rows:Nat),
  byteSum kind y z rows i j=dD ((List.range (4*rows)).map fun c=>sg (ySigned kind) (at_ y i c)) ((List.range rows).flatMap fun k=>(List.range 4).map fun q=>sg (zSigned kind) (at_ z k (4*j+q)))
 | 0=>by simp[byteSum,Qw.sum,dD]
 | rows+1=>by
  have ih:=wB kind y z i j rows;unfold byteSum at ih ⊢;rw[FT] at ih ⊢;rw[range_succ (n:=rows),map_append,ux,ih,flatMap_append];have e:List.range (4*(rows+1))=List.range (4*rows)++[4*rows,4*rows+1,4*rows+2,4*rows+3]:=by
   rw[show 4*(rows+1)=4*rows+1+1+1+1 by lia]
   simp only[range_succ,append_assoc,cons_append,nil_append]
  rw[e,map_append,zj (by rw[length_map,length_range];exact (AV (fun k q=>sg (zSigned kind) (at_ z k (4*j+q))) rows).symm)]
  congr 1
  have e4:List.range 4=[0,1,2,3]:=rfl;simp only[map_cons,map_nil,flatMap_cons,flatMap_nil,append_nil,e4,sum_cons,List.sum_nil,FT,dD,zip_cons_cons,List.zip_nil_right,EG,Nat.add_zero,Int.add_zero]
theorem qB(kind:Nat)(hk:kind<4)(x:Nat)(y z:Tile)(rows i j:Nat) :
  (dotted kind x y z rows i j:Int)=((x:Int)+dD ((List.range (4*rows)).map fun c=>sg (ySigned kind) (at_ y i c)) ((List.range rows).flatMap fun k=>(List.range 4).map fun q=>sg (zSigned kind) (at_ z k (4*j+q)))) % 4294967296:=by
 unfold dotted;rw[if_pos hk,wB];have e:(2:Int) ^ 32=4294967296:=by decide
 rw[e];generalize dD _ _=S;lia
end QM
namespace QM
open Qw
def gh(m:Mach)(left:Nat):Nat:=2*left+2+(if m.shape.start=0 then 0 else 1)
theorem pV(h:rowStep m store s=.free u):m.shape.start≠0∧u.shape.start=0:=by
 unfold rowStep at h
 split at h
 ·cases h
 ·split at h
  ·rename_i h1 h2
   injection h with h
   subst h;refine⟨fun z=>?_,rfl⟩
   apply h1;unfold Mach.there;rw[z] at h2
   have:m.height s.x=0:=by lia
   rw[this];rfl
  ·dsimp only at h
   split at h<;>cases h
theorem zQ(h:dotStep m dry k s=.free u):False:=by
 unfold dotStep at h
 split at h
 ·cases h
 ·split at h
  ·cases h
  ·split at h<;>cases h
theorem Aj(h:stepOf m dry p s=.free u):m.shape.start≠0∧u.shape.start=0:=by
 unfold stepOf at h
 split at h
 ·cases h
 ·split at h
  ·cases h
  ·split at h
   ·cases h
   ·split at h<;>cases h
  ·cases h
  ·split at h<;>cases h
  ·exact pV h
  ·exact pV h
  ·cases h
  ·cases h
  ·cases h
  ·dsimp only at h
   split at h<;>cases h
  ·exact (zQ h).elim
theorem qZ(h:look dry m=.free u):m.shape.start≠0∧u.shape.start=0:=by
 unfold look at h
 split at h
 ·cases h
 ·split at h
  ·cases h
  ·exact Aj h
theorem qY(h:m.shape.start≠0∧u.shape.start=0):gh u left<gh m left:=by
 unfold gh;rw[if_neg h.1,if_pos h.2];lia
theorem iU(m u:Mach)(h:left≠0):gh u (left - 1)<gh m left:=by
 unfold gh
 split<;>split<;>lia
theorem nG(dry:Bool):∀ (f g:Nat) (m:Mach) (left:Nat) (t:Tally),gh m left≤f→gh m left≤g→runs dry f m left t=runs dry g m left t
 | 0,_,m,left,_,h,_=>by unfold gh at h;lia
 | _+1,0,m,left,_,_,h=>by unfold gh at h;lia
 | f+1,g+1,m,left,t,h1,h2=>by
  unfold runs
  cases e:look dry m with
  | fault c=>rfl
  | done=>rfl
  | free u =>
   have:=qY (left:=left) (qZ e)
   exact nG dry f g u left t (by lia) (by lia)
  | act u =>
   dsimp only
   by_cases hl:left=0
   ·rw[if_pos hl,if_pos hl]
   ·rw[if_neg hl,if_neg hl]
    have:=iU m { u with paid:=m.paid+1 } hl
    exact nG dry f g _ (left - 1) t (by lia) (by lia)
  | row store x place width =>
   dsimp only
   by_cases hl:left=0
   ·rw[if_pos hl,if_pos hl]
   ·rw[if_neg hl,if_neg hl]
    split
    ·rfl
    ·exact nG dry f g _ (left - 1) _ (Nat.le_of_lt_succ (Nat.lt_of_lt_of_le (iU m _ hl) h1)) (Nat.le_of_lt_succ (Nat.lt_of_lt_of_le (iU m _ hl) h2))
def cP(dry:Bool)(m:Mach)(left:Nat)(t:Tally):End×Mach×Tally:=runs dry (gh m left) m left t
theorem t7(dry:Bool)(h:gh m left≤f):runs dry f m left t=cP dry m left t:=nG dry _ _ _ _ _ h (Nat.le_refl _)
theorem D9(dry:Bool)(m:Mach)(n:Nat)(t:Tally):runs dry (fuel n) m n t=cP dry m n t:=t7 dry (by unfold gh fuel;split<;>lia)
theorem cy(dry:Bool)(m:Mach)(left:Nat)(t:Tally):cP dry m left t=match look dry m with
  | .fault c=>(.fault c,m,t)
  | .done=>(.done,m,t)
  | .free u=>cP dry u left t
  | .act u=>if left=0 then (.paused,m,t) else cP dry { u with paid:=m.paid+1 } (left - 1) t
  | .row store x place width=>if left=0 then (.paused,m,t) else
   match (if dry=true then none else (pagesOf place width).find? fun (p:Nat)=>!m.opens store p) with
   | some p=>(.closed p store,m,t)
   | none=>cP dry (if dry=true then { m.atRow (m.shape.start+1) with paid:=m.paid+1 } else m.moved store x place width) (left - 1) (t.add store (pagesOf place width)):=by
 obtain⟨f,hf⟩:∃ f,gh m left=f+1:=⟨gh m left - 1,by unfold gh;lia⟩
 unfold cP;rw[hf]
 conv=>lhs;unfold runs
 cases e:look dry m with
 | fault c=>rfl
 | done=>rfl
 | free u =>
  have:=qY (left:=left) (qZ e)
  exact t7 dry (by lia)
 | act u =>
  dsimp only
  by_cases hl:left=0
  ·rw[if_pos hl,if_pos hl]
  ·rw[if_neg hl,if_neg hl]
   have:=iU m { u with paid:=m.paid+1 } hl
   exact t7 dry (by lia)
 | row store x place width =>
  dsimp only
  by_cases hl:left=0
  ·rw[if_pos hl,if_pos hl]
  ·rw[if_neg hl,if_neg hl]
   cases (if dry=true then none else (pagesOf place width).find? fun (p:Nat)=>!m.opens store p) with
   | some p=>rfl
   | none=>exact t7 dry (Nat.le_of_lt_succ (Nat.lt_of_lt_of_le (iU m _ hl) (Nat.le_of_eq hf)))
end QM
namespace QM
open Qw
def bI(l:List Int):List Int:=(List.range (l.length / 4)).map fun q=>l.getD (4*q) 0+l.getD (4*q+1) 0*2 ^ 8+l.getD (4*q+2) 0*2 ^ 16+l.getD (4*q+3) 0*2 ^ 24
def mG(ws:List Int):List Int:=ws.flatMap fun w=>[w % 256,w / 2 ^ 8 % 256,w / 2 ^ 16 % 256,w / 2 ^ 24]
def bX(l:List Int):List Int:=(List.range (l.length / 2)).map fun q=>l.getD (2*q) 0+l.getD (2*q+1) 0*2 ^ 8
def bP(l:List Int):List Int:=l.map fun v=>if v<128 then v else v - 256
def bw(zs:List (List Int))(j:Nat):List Int:=zs.flatMap fun row=>(row.drop (4*j)).take 4
def eF(kind:Nat)(xw ys zs:List (List Int)):List (List Int) :=
 let ys':=if kind=0∨kind=1 then ys.map bP else ys
 let zs':=if kind=0∨kind=2 then zs.map bP else zs
 let cols:=(List.range ((zs'.headD []).length / 4)).map (bw zs')
 (xw.zip ys').map fun p=>(p.1.zip cols).map fun q=>(q.1+dD p.2 q.2) % 4294967296
def aw(l:List Int):List Int:=(bX l).map hv
def cX(l:List Int)(first:Nat):List Int:=(List.range ((l.length - first+1) / 2)).map fun q=>l.getD (first+2*q) 0
def gJ(word:Int)(y z:List Int×List Int):Int:=pZ word (y.1.zip z.1) (y.2.zip z.2)
def eE(xw ys zs:List (List Int)):List (List Int) :=
 let zv:=zs.map aw
 let cols:=(List.range ((zs.headD []).length / 4)).map fun j=>(zv.map fun r=>r.getD (2*j) 0,zv.map fun r=>r.getD (2*j+1) 0)
 (xw.zip ys).map fun p=>(p.1.zip cols).map fun q=>gJ q.1 (cX (aw p.2) 0,cX (aw p.2) 1) q.2
def ik(kind:Nat)(xw ys zs:List (List Int)):List (List Int):=if kind=4 then eE xw ys zs else eF kind xw ys zs
theorem t8(x:Tile)(i w:Nat):(nI (rowOf x i w)).length=w:=by simp[nI,rowOf]
theorem nH(h:c<w):(nI (rowOf x i w)).getD c 0=(at_ x i c:Int):=by
 unfold nI rowOf;rw[getD_eq_getElem?_getD,getElem?_map,getElem?_map,getElem?_range h];rfl
theorem nB(x:Tile)(i n:Nat):bI (nI (rowOf x i (4*n)))=(List.range n).map fun j=>(wordIn x i j:Int):=by
 unfold bI;rw[t8,Nat.mul_div_cancel_left n (by decide)]
 refine map_congr_left fun q hq=>?_
 have hq':q<n:=mem_range.1 hq;rw[nH (by lia),nH (by lia),nH (by lia),nH (by lia),qN]
 lia
theorem vG(x:Tile)(i n:Nat):bX (nI (rowOf x i (2*n)))=(List.range n).map fun q=>(shortIn x i q:Int):=by
 unfold bX;rw[t8,Nat.mul_div_cancel_left n (by decide)]
 refine map_congr_left fun q hq=>?_
 have hq':q<n:=mem_range.1 hq;rw[nH (by lia),nH (by lia),uD]
 lia
theorem fG(x:Tile)(h w:Nat):(aI x h w).length=h:=by simp[aI]
theorem sw(hh:0<h):((aI x h w).headD []).length=w:=by
 obtain⟨k,rfl⟩:∃ k,h=k+1:=⟨h - 1,by lia⟩
 unfold aI;rw[range_succ_eq_map,map_cons];exact t8 x 0 w
theorem Al(x:Tile)(i w:Nat)(s:Bool):(if s=true then bP (nI (rowOf x i w)) else nI (rowOf x i w))=(List.range w).map fun c=>sg s (at_ x i c):=by
 cases s with
 | false =>
  rw[if_neg (by decide)]
  unfold nI rowOf sg;rw[map_map];exact map_congr_left fun c _=>by simp
 | true =>
  rw[if_pos rfl];unfold bP nI rowOf sg;rw[map_map,map_map];exact map_congr_left fun c _=>by simp
theorem tf(f:Nat→Int)(n j:Nat)(h:j<n):(((List.range (4*n)).map f).drop (4*j)).take 4=(List.range 4).map fun q=>f (4*j+q):=by
 apply ext_getElem?;intro q
 by_cases hq:q<4
 ·rw[List.getElem?_take_of_lt hq,getElem?_drop,getElem?_map,getElem?_map,getElem?_range (by lia),getElem?_range hq];rfl
 ·rw[getElem?_eq_none (by simp;lia),getElem?_eq_none (by simp;lia)]
def jB(s:Bool)(x:Tile)(h w:Nat):List (List Int):=(List.range h).map fun i=>(List.range w).map fun c=>sg s (at_ x i c)
theorem xN(s:Bool)(x:Tile)(h w:Nat):(if s=true then (aI x h w).map bP else aI x h w)=jB s x h w:=by
 unfold aI jB
 cases s with
 | false =>
  rw[if_neg (by decide)]
  exact map_congr_left fun i _=>Al x i w false
 | true =>
  rw[if_pos rfl,map_map];exact map_congr_left fun i _=>Al x i w true
theorem Fp(s:Bool)(z:Tile)(rows n j:Nat)(h:j<n):bw (jB s z rows (4*n)) j=(List.range rows).flatMap fun k=>(List.range 4).map fun q=>sg s (at_ z k (4*j+q)):=by
 unfold bw jB;rw[flatMap_map]
 have:∀ k,(((List.range (4*n)).map fun c=>sg s (at_ z k c)).drop (4*j)).take 4=(List.range 4).map fun q=>sg s (at_ z k (4*j+q)):=fun k=>tf (fun c=>sg s (at_ z k c)) n j h
 simp only[this]
theorem dC{α β:Type}(n:Nat)(f:Nat→α)(g:Nat→β):((List.range n).map f).zip ((List.range n).map g)=(List.range n).map fun i=>(f i,g i):=by
 rw[List.zip_map']
theorem Dh(kind:Nat)(hk:kind<4)(x y z:Tile)(h n rows:Nat)(hr:0<rows) :
  eF kind ((aI x h (4*n)).map bI) (aI y h (4*rows)) (aI z rows (4*n)) =
   (List.range h).map fun i=>(List.range n).map fun j=>(dotted kind (wordIn x i j) y z rows i j:Int):=by
 unfold eF;dsimp only;have ey:(if kind=0∨kind=1 then (aI y h (4*rows)).map bP else aI y h (4*rows))=jB (ySigned kind) y h (4*rows):=by
  rw[←xN]
  have:(kind=0∨kind=1)↔ySigned kind=true:=by unfold ySigned;simp
  simp only[this]
 have ez:(if kind=0∨kind=2 then (aI z rows (4*n)).map bP else aI z rows (4*n))=jB (zSigned kind) z rows (4*n):=by
  rw[←xN]
  have:(kind=0∨kind=2)↔zSigned kind=true:=by unfold zSigned;simp
  simp only[this]
 rw[ey,ez];have eh:((jB (zSigned kind) z rows (4*n)).headD []).length / 4=n:=by
  obtain⟨k,rfl⟩:∃ k,rows=k+1:=⟨rows - 1,by lia⟩
  unfold jB;rw[range_succ_eq_map,map_cons]
  simp
 rw[eh];unfold jB aI;rw[map_map,dC,map_map];refine map_congr_left fun i _=>?_
 dsimp only[Function.comp];rw[nB,dC,map_map];refine map_congr_left fun j hj=>?_
 have hj':j<n:=mem_range.1 hj;dsimp only[Function.comp];rw[qB kind hk]
 have:=Fp (zSigned kind) z rows n j hj'
 unfold jB at this;rw[this]
end QM
namespace QM
open Qw
theorem mY(x:Tile)(i n:Nat):aw (nI (rowOf x i (2*n)))=(List.range n).map fun q=>hv (shortIn x i q):=by
 unfold aw;rw[vG,map_map];rfl
theorem pB(f:Nat→Int)(n first:Nat)(h:first<2):cX ((List.range (2*n)).map f) first=(List.range n).map fun k=>f (2*k+first):=by
 unfold cX;rw[length_map,length_range]
 have:(2*n - first+1) / 2=n:=by lia
 rw[this];refine map_congr_left fun q hq=>?_
 have hq':q<n:=mem_range.1 hq;rw[getD_eq_getElem?_getD,getElem?_map,getElem?_range (by lia)]
 show f (first+2*q)=f (2*q+first)
 rw[Nat.add_comm]
theorem kP(f:Nat→Int)(h:q<n):((List.range n).map f).getD q 0=f q:=by
 rw[getD_eq_getElem?_getD,getElem?_map,getElem?_range h];rfl
theorem Cz(x y z:Tile)(hx:lR x)(hy:lR y)(hz:lR z)(h n rows:Nat)(hr:0<rows)(hd:dotRight 4 x y z h n rows=true) :
  eE ((aI x h (4*n)).map bI) (aI y h (4*rows)) (aI z rows (4*n)) =
   (List.range h).map fun i=>(List.range n).map fun j=>(dotted 4 (wordIn x i j) y z rows i j:Int):=by
 unfold eE;dsimp only;rw[sw hr,Nat.mul_div_cancel_left n (by decide)]
 have ew:(aI x h (4*n)).map bI=(List.range h).map fun i=>(List.range n).map fun j=>(wordIn x i j:Int):=by
  unfold aI;rw[map_map];exact map_congr_left fun i _=>nB x i n
 rw[ew];unfold aI;rw[dC,map_map];refine map_congr_left fun i hi=>?_
 have hi':i<h:=mem_range.1 hi;dsimp only[Function.comp];rw[dC,map_map];refine map_congr_left fun j hj=>?_
 have hj':j<n:=mem_range.1 hj;dsimp only[Function.comp];have e4:4*rows=2*(2*rows):=by lia
 have e4n:4*n=2*(2*n):=by lia
 rw[e4,mY,pB _ _ _ (by decide),pB _ _ _ (by decide)]
 unfold gJ;dsimp only;have ez:∀ odd,odd<2→((((List.range rows).map fun i=>nI (rowOf z i (4*n))).map aw).map fun r:List Int=>r.getD (2*j+odd) 0)=(List.range rows).map fun k=>hv (shortIn z k (2*j+odd)):=by
  intro odd ho;rw[map_map,map_map];refine map_congr_left fun k _=>?_
  dsimp only[Function.comp];rw[e4n,mY,kP _ (by lia)]
 have ez0:=ez 0 (by decide)
 have ez1:=ez 1 (by decide)
 simp only[Nat.add_zero] at ez0;rw[ez0,ez1,dC,dC];unfold dotRight at hd;have hrow:=(all_eq_true.1 hd) i hi;unfold rowRight at hrow;simp only[bne_self_eq_false,Bool.false_or,Bool.and_eq_true] at hrow;obtain⟨h1,h2,h3⟩:=hrow;have hxr:=(all_eq_true.1 h1) j hj;rw[qA y z hy hz (wordIn x i j) rows i j (qM hx i j) hxr]
 ·simp only[Nat.add_zero]
 ·intro k q hk hq;refine⟨(all_eq_true.1 h2) _ (mem_range.2 (by lia)),?_⟩
  exact (all_eq_true.1 ((all_eq_true.1 h3) k (mem_range.2 hk))) _ (mem_range.2 (by lia))
theorem Df(kind:Nat)(hk:kind≤4)(x y z:Tile)(hx:lR x)(hy:lR y)(hz:lR z)(h n rows:Nat)(hr:0<rows)(hd:dotRight kind x y z h n rows=true) :
  ik kind ((aI x h (4*n)).map bI) (aI y h (4*rows)) (aI z rows (4*n)) =
   (List.range h).map fun i=>(List.range n).map fun j=>(dotted kind (wordIn x i j) y z rows i j:Int):=by
 unfold ik
 by_cases e:kind=4
 ·subst e;rw[if_pos rfl];exact Cz x y z hx hy hz h n rows hr hd
 ·rw[if_neg e];exact Dh kind (by lia) x y z h n rows hr
theorem wW(h:a<2 ^ (n+1)):a.log2≤n:=by
 by_cases z:a=0
 ·subst z;simp
 ·have:=(log2_lt z).2 h;lia
theorem yM(f:Nat→Nat)(n:Nat)(hf:∀ j,j<n→f j<2 ^ 32):mG ((List.range n).map fun j=>(f j:Int))=(List.range (4*n)).map fun c=>((f (c / 4) / 256 ^ (c % 4) % 256:Nat):Int):=by
 induction n with
 | zero=>rfl
 | succ n ih =>
  have ih':=ih fun j hj=>hf j (by lia)
  have hn:=hf n (by lia)
  unfold mG at ih' ⊢;rw[range_succ,map_append,flatMap_append,ih'];have e:List.range (4*(n+1))=List.range (4*n)++[4*n,4*n+1,4*n+2,4*n+3]:=by
   rw[show 4*(n+1)=4*n+1+1+1+1 by lia]
   simp only[range_succ,append_assoc,cons_append,nil_append]
  rw[e,map_append]
  congr 1
  have d0:4*n / 4=n:=by lia
  have d1:(4*n+1) / 4=n:=by lia
  have d2:(4*n+2) / 4=n:=by lia
  have d3:(4*n+3) / 4=n:=by lia
  have m0:4*n % 4=0:=by lia
  have m1:(4*n+1) % 4=1:=by lia
  have m2:(4*n+2) % 4=2:=by lia
  have m3:(4*n+3) % 4=3:=by lia
  simp only[map_cons,map_nil,flatMap_cons,flatMap_nil,append_nil,d0,d1,d2,d3,m0,m1,m2,m3];generalize f n=v at *;have p1:256 ^ 1=256:=rfl;have p2:256 ^ 2=65536:=rfl;have p3:256 ^ 3=16777216:=rfl;have p0:256 ^ 0=1:=rfl;rw[p0,p1,p2,p3];have q8:(2:Int) ^ 8=256:=rfl;have q16:(2:Int) ^ 16=65536:=rfl;have q24:(2:Int) ^ 24=16777216:=rfl;rw[q8,q16,q24];have c1:(v:Int) % 256=((v / 1 % 256:Nat):Int):=by lia
  have c2:(v:Int) / 256 % 256=((v / 256 % 256:Nat):Int):=by lia
  have c3:(v:Int) / 65536 % 256=((v / 65536 % 256:Nat):Int):=by lia
  have c4:(v:Int) / 16777216=((v / 16777216 % 256:Nat):Int):=by lia
  rw[c1,c2,c3,c4]
theorem Cm(kind:Nat)(x y z:Tile)(h n rows:Nat)(hn:n≤16)(hh:h≤16)(hs:x.size=1024)(hf:∀ i j,i<h→j<n→dotted kind (wordIn x i j) y z rows i j<2 ^ 32) :
  aI (Qw.dot kind x y z h n rows) h (4*n)=((List.range h).map fun i=>(List.range n).map fun j=>(dotted kind (wordIn x i j) y z rows i j:Int)).map mG:=by
 unfold aI;rw[map_map];refine map_congr_left fun i hi=>?_
 have hi':i<h:=mem_range.1 hi;dsimp only[Function.comp];rw[yM (fun j=>dotted kind (wordIn x i j) y z rows i j) n (fun j hj=>hf i j hi' hj)]
 unfold nI rowOf;rw[map_map];refine map_congr_left fun c hc=>?_
 have hc':c<4*n:=mem_range.1 hc;dsimp only[Function.comp];rw[G7 kind x y z h n rows hn (by lia) (by lia),if_pos ⟨hi',hc'⟩]
theorem IX(kind:Nat)(x y z:Tile)(h n rows:Nat)(hn:n≤16)(hs:x.size=1024)(hx:lR x):lR (Qw.dot kind x y z h n rows):=by
 intro p
 by_cases hp:p<1024
 ·have e:p=64*(p / 64)+p % 64:=by lia
  have:=G7 kind x y z h n rows hn (i:=p / 64) (c:=p % 64) (by lia) (by lia)
  unfold at_ at this;rw[show WIDE*(p / 64)+p % 64=p from by unfold WIDE;lia] at this
  rw[this]
  split
  ·exact Nat.mod_lt _ (by decide)
  ·exact hx p
 ·rw[Array.getD_eq_getD_getElem?,Array.getElem?_eq_none (by rw[Bw];lia)]
  decide
def fv(w:Int):Bool:=df w 32768 128 87 167
def bC(b:Int):Bool:=df b 2147483648 8388608 27 227
def cz(l:List Int):Bool:=(bX l).all fv
def bH(xw ys zs:List (List Int)):Bool:=if (ys++zs).all cz=false then false else xw.all fun ws=>ws.all bC
theorem Ar(x:Tile)(hx:lR x)(i n:Nat):cz (nI (rowOf x i (2*n)))=(List.range n).all fun q=>shortRight (shortIn x i q):=by
 unfold cz;rw[vG,all_map]
 congr 1
 funext q
 exact (jA (iF hx i q)).symm
theorem kI(x y z:Tile)(hx:lR x)(hy:lR y)(hz:lR z)(h n rows:Nat)(hh:0<h) :
  bH ((aI x h (4*n)).map bI) (aI y h (4*rows)) (aI z rows (4*n))=dotRight 4 x y z h n rows:=by
 have e4:4*rows=2*(2*rows):=by lia
 have e4n:4*n=2*(2*n):=by lia
 have ey:(aI y h (4*rows)).all cz=(List.range h).all fun i=>(List.range (2*rows)).all fun q=>shortRight (shortIn y i q):=by
  unfold aI;rw[all_map,e4]
  congr 1;funext i;exact Ar y hy i (2*rows)
 have ez:(aI z rows (4*n)).all cz=(List.range rows).all fun k=>(List.range (2*n)).all fun q=>shortRight (shortIn z k q):=by
  unfold aI;rw[all_map,e4n]
  congr 1;funext i;exact Ar z hz i (2*n)
 have ex:((aI x h (4*n)).map bI).all (fun ws=>ws.all bC)=(List.range h).all fun i=>(List.range n).all fun j=>singleRight (wordIn x i j):=by
  unfold aI;rw[map_map,all_map]
  congr 1;funext i
  dsimp only[Function.comp];rw[nB,all_map]
  congr 1;funext j
  exact (lV (qM hx i j)).symm
 unfold bH;rw[List.all_append,ey,ez,ex];unfold dotRight rowRight;simp only[bne_self_eq_false,Bool.false_or];rw[Bool.eq_iff_iff]
 constructor
 ·intro q
  split at q
  ·cases q
  ·rename_i hne
   rw[Bool.not_eq_false,Bool.and_eq_true] at hne;refine all_eq_true.2 fun i hi=>?_
   rw[Bool.and_eq_true,Bool.and_eq_true]
   exact⟨(all_eq_true.1 q) i hi,(all_eq_true.1 hne.1) i hi,hne.2⟩
 ·intro q;have g:∀ i,i<h→((List.range n).all (fun j=>singleRight (wordIn x i j))=true∧((List.range (2*rows)).all fun q=>shortRight (shortIn y i q))=true∧((List.range rows).all fun k=>(List.range (2*n)).all fun q=>shortRight (shortIn z k q))=true):=by
   intro i hi
   have:=(all_eq_true.1 q) i (mem_range.2 hi)
   rw[Bool.and_eq_true,Bool.and_eq_true] at this;exact this
  rw[if_neg]
  ·exact all_eq_true.2 fun i hi=>(g i (mem_range.1 hi)).1
  ·rw[Bool.not_eq_false,Bool.and_eq_true]
   exact⟨all_eq_true.2 fun i hi=>(g i (mem_range.1 hi)).2.1,(g 0 hh).2.2⟩
end QM
namespace QM
open Qw
theorem Cn(v:Int):(Qw.rounded v).natAbs≤2*v.natAbs:=by
 unfold Qw.rounded;dsimp only
 by_cases h:v.natAbs<2 ^ 24
 ·rw[if_pos h];lia
 ·rw[if_neg h];have ha:v.natAbs≠0:=by lia
  have h24:24≤v.natAbs.log2:=(le_log2 ha).2 (by lia)
  have hle:2 ^ v.natAbs.log2≤v.natAbs:=(le_log2 ha).1 (Nat.le_refl _);have hu:2 ^ (v.natAbs.log2 - 23)≤v.natAbs:=Nat.le_trans (Nat.pow_le_pow_right (by decide) (by lia)) hle
  generalize v.natAbs.log2 - 23=e at *;generalize v.natAbs=a at *;have hq:∀ q,q≤a / 2 ^ e+1→q*2 ^ e≤2*a:=by
   intro q hq
   calc q*2 ^ e≤(a / 2 ^ e+1)*2 ^ e:=Nat.mul_le_mul_right _ hq
    _=a / 2 ^ e*2 ^ e+2 ^ e:=by rw[Nat.add_mul,Nat.one_mul]
    _≤a+2 ^ e:=Nat.add_le_add_right (Nat.div_mul_le_self _ _) _
    _≤2*a:=by lia
  have hq':(if 2 ^ e<2*(a % 2 ^ e)∨2*(a % 2 ^ e)=2 ^ e∧a / 2 ^ e % 2=1 then a / 2 ^ e+1 else a / 2 ^ e)≤a / 2 ^ e+1:=by split<;>lia
  have:=hq _ hq'
  split
  ·rw[Int.natAbs_neg,Int.natAbs_natCast];exact this
  ·rw[Int.natAbs_natCast];exact this
theorem ir(v:Int):(bA v).natAbs≤2*v.natAbs:=by rw[←uT];exact Cn v
theorem dH(a b:Int):(a+b).natAbs≤a.natAbs+b.natAbs:=Int.natAbs_add_le a b
theorem uY(e:Nat)(hs:0<sign)(hf:0<fraction)(hr:df n sign fraction least most=true)(hm:(most - least).toNat≤e) :
  (dQ n sign fraction least).natAbs≤(2*fraction).natAbs*2 ^ e:=by
 unfold dQ
 by_cases h0:n % sign=0
 ·rw[if_pos h0];exact Nat.zero_le _
 ·rw[if_neg h0];unfold df at hr;rw[decide_eq_false h0,Bool.false_or,Bool.and_eq_true,decide_eq_true_eq,decide_eq_true_eq] at hr;have h1:=Int.emod_nonneg (n % sign) (show fraction≠0 by lia)
  have h2:=Int.emod_lt_of_pos (n % sign) hf;have hx:(n % sign / fraction - least).toNat≤e:=by lia
  generalize n % sign % fraction=r at *;generalize (n % sign / fraction - least).toNat=x at *;have hb:((fraction+r)*2 ^ x).natAbs≤(2*fraction).natAbs*2 ^ e:=by
   rw[gj];exact Nat.mul_le_mul (by lia) (Nat.pow_le_pow_right (by decide) hx)
  split
  ·exact hb
  ·rw[Int.natAbs_neg];exact hb
theorem GR(h:fv w=true):(hv w).natAbs≤2 ^ 88:=uY 80 (by decide) (by decide) h (by decide)
theorem Jw(h:bC b=true):(sv b).natAbs≤2 ^ 224:=uY 200 (by decide) (by decide) h (by decide)
theorem gU{a b:Int}{m n:Nat}(h1:a.natAbs≤m)(h2:b.natAbs≤n):(a*b).natAbs≤m*n:=by
 rw[Int.natAbs_mul];exact Nat.mul_le_mul h1 h2
def km(l:List (Int×Int)):Prop:=∀ p∈l,p.1.natAbs≤2 ^ 88∧p.2.natAbs≤2 ^ 88
theorem DG:∀ (l:List (Int×Int)) (t:Int) (k:Nat),km l→t.natAbs≤2 ^ (176+2*k)→(l.foldl (fun t p=>bA (t+p.1*p.2)) t).natAbs≤2 ^ (176+2*(k+l.length))
 | [],t,k,_,h=>h
 | p::l,t,k,hs,h=>by
  rw[foldl_cons];have hp:=hs p mem_cons_self;have h1:(t+p.1*p.2).natAbs≤2 ^ (176+2*k)+2 ^ 176:=Nat.le_trans (dH _ _) (Nat.add_le_add h (Nat.le_trans (gU hp.1 hp.2) (by decide)))
  have h2:(bA (t+p.1*p.2)).natAbs≤2 ^ (176+2*(k+1)):=by
   refine Nat.le_trans (ir _) ?_
   have:2 ^ 176≤2 ^ (176+2*k):=Nat.pow_le_pow_right (by decide) (by lia)
   have e:2 ^ (176+2*(k+1))=4*2 ^ (176+2*k):=by rw[show 176+2*(k+1)=176+2*k+1+1 by lia,Nat.pow_succ,Nat.pow_succ];lia
   rw[e];lia
  have:=DG l _ (k+1) (fun q hq=>hs q (mem_cons_of_mem _ hq)) h2
  rw[length_cons,show k+(l.length+1)=k+1+l.length by lia]
  exact this
theorem j6(hs:km l)(hl:l.length≤16):(bD l).natAbs≤2 ^ 208:=by
 refine Nat.le_trans (DG l 0 0 hs (by decide)) (Nat.pow_le_pow_right (by decide) (by lia))
theorem wJ(h:v.natAbs≤2 ^ 250):0≤fI v∧fI v<4294967296:=by
 rw[←xM];refine⟨Int.natCast_nonneg _,?_⟩
 have:Qw.single (v*2 ^ 26)<2 ^ 32:=by
  unfold Qw.single;dsimp only;rw[gj]
  by_cases hv:v=0
  ·subst hv;decide
  ·have ha:v.natAbs≠0:=by lia
   rw[if_neg (show ¬ v.natAbs*2 ^ 26<2 ^ 23 by lia),iB ha]
   have hL:v.natAbs.log2≤250:=wW (Nat.lt_of_le_of_lt h (by decide))
   have hlt:v.natAbs<2 ^ (v.natAbs.log2+1):=(log2_lt ha).1 (Nat.lt_succ_self _);generalize v.natAbs.log2=L at *;have hd:v.natAbs*2 ^ 26 / 2 ^ (L+26 - 23)<2 ^ 24:=by
    rw[Nat.div_lt_iff_lt_mul (two_pow_pos _),←Nat.pow_add];rw[show 24+(L+26 - 23)=L+1+26 by lia,Nat.pow_add 2 (L+1)]
    exact Nat.mul_lt_mul_of_pos_right hlt (by decide)
   generalize v.natAbs*2 ^ 26 / 2 ^ (L+26 - 23)=D at *
   split<;>lia
 lia
theorem uZ{w:Int}{l u:List (Int×Int)}(hw:bC w=true)(hl:km l)(hu:km u)(l16:l.length≤16)(u16:u.length≤16) :
  (bA (sv w+bA (bD l+bD u)*536870912)).natAbs≤2 ^ 250:=by
 have h1:=j6 hl l16;have h2:=j6 hu u16;have h3:(bA (bD l+bD u)).natAbs≤2 ^ 210:=by
  have a:=ir (bD l+bD u);have b:=dH (bD l) (bD u);lia
 have h4:(bA (bD l+bD u)*536870912).natAbs≤2 ^ 210*536870912:=gU h3 (by decide)
 have h5:=Jw hw;have h6:=ir (sv w+bA (bD l+bD u)*536870912);have h7:=dH (sv w) (bA (bD l+bD u)*536870912);lia
theorem Cw(hw:bC w=true)(hl:km l)(hu:km u)(l16:l.length≤16)(u16:u.length≤16) :
  0≤pZ w l u∧pZ w l u<4294967296:=wJ (uZ hw hl hu l16 u16)
theorem yr(kind:Nat)(hk:kind≤4)(y z:Tile)(hy:lR y)(hz:lR z)(x rows i j:Nat)(hx:x<2 ^ 32)(hr:rows≤16)
  (h:kind=4→singleRight x=true∧∀ k q,k<rows→q<2→shortRight (shortIn y i (2*k+q))=true∧shortRight (shortIn z k (2*j+q))=true):dotted kind x y z rows i j<2 ^ 32:=by
 by_cases e:kind=4
 ·subst e;obtain⟨h1,h2⟩:=h rfl
  have:=qA y z hy hz x rows i j hx h1 h2
  have hw:bC (x:Int)=true:=by rw[lV hx] at h1;exact h1
  have sm:∀ q,q<2→km ((List.range rows).map fun k=>(hv (shortIn y i (2*k+q)),hv (shortIn z k (2*j+q)))):=by
   intro q hq p hp;obtain⟨k,hk',rfl⟩:=mem_map.1 hp;have g:=h2 k q (mem_range.1 hk') hq;rw[jA (iF hy _ _),jA (iF hz _ _)] at g
   exact⟨GR g.1,GR g.2⟩
  have s0:=sm 0 (by decide)
  simp only[Nat.add_zero] at s0;have b:=Cw hw s0 (sm 1 (by decide)) (by simpa using hr) (by simpa using hr)
  rw[←this] at b;lia
 ·have:=qB kind (by lia) x y z rows i j
  lia
end QM
namespace QM
open Qw
structure WF(m:Mach):Prop where
 gs:m.ground.size=16384
 gb:∀ p,m.ground.getD p 0<256
 pl:m.pages.length=16
 pb:∀ p∈m.pages,p≤2
 wl:m.shape.widths.length=8
 hl:m.shape.heights.length=8
 wb:∀ i,m.width i≤64
 hb:∀ i,m.height i≤16
 wh:∀ i,(m.width i=0↔m.height i=0)
 st:m.shape.start≤16
 tl:m.tiles.length=8
 ts:∀ i,(m.tile i).size=1024
 tb:∀ i,lR (m.tile i)
 rl:m.r.length=8
 rb:∀ k,m.num k<2 ^ 64
theorem ny:lR zeros:=fun p=>by rw[jV];decide
theorem d9{α:Type}(n k:Nat)(a:α):(List.replicate n a).getD k a=a:=by
 rw[getD_eq_getElem?_getD,List.getElem?_replicate];split<;>rfl
theorem WF.fresh:WF fresh where
 gs:=by simp[Qw.fresh,GROUND]
 gb:=fun p=>by
  show (Array.replicate GROUND 0).getD p 0<256;rw[Array.getD_eq_getD_getElem?,Array.getElem?_replicate];split<;>decide
 pl:=by simp[Qw.fresh,PAGES]
 pb:=fun p hp=>by
  have:p∈List.replicate PAGES 2:=hp
  rw[List.mem_replicate] at this;lia
 wl:=by simp[Qw.fresh,noShape,TILES]
 hl:=by simp[Qw.fresh,noShape,TILES]
 wb:=fun i=>by show (List.replicate TILES 0).getD i 0≤64;rw[d9];decide
 hb:=fun i=>by show (List.replicate TILES 0).getD i 0≤16;rw[d9];decide
 wh:=fun i=>by show (List.replicate TILES 0).getD i 0=0↔(List.replicate TILES 0).getD i 0=0;exact Iff.rfl
 st:=by show 0≤16;decide
 tl:=by simp[Qw.fresh,TILES]
 ts:=fun i=>by show ((List.replicate TILES zeros).getD i zeros).size=1024;rw[d9];exact iE
 tb:=fun i=>by show lR ((List.replicate TILES zeros).getD i zeros);rw[d9];exact ny
 rl:=by simp[Qw.fresh]
 rb:=fun k=>by show (List.replicate 8 0).getD k 0<2 ^ 64;rw[d9];decide
theorem WF.same(h:WF m)(e1:u.ground=m.ground)(e2:u.pages=m.pages)(e3:u.shape=m.shape)(e4:u.tiles=m.tiles)(e5:u.r=m.r):WF u:=by
 obtain⟨g,p,s,t,pr,st,pd,hw,f,r⟩:=m;obtain⟨g',p',s',t',pr',st',pd',hw',f',r'⟩:=u;dsimp only at e1 e2 e3 e4 e5;subst e1 e2 e3 e4 e5
 exact⟨h.gs,h.gb,h.pl,h.pb,h.wl,h.hl,h.wb,h.hb,h.wh,h.st,h.tl,h.ts,h.tb,h.rl,h.rb⟩
theorem WF.next(h:WF m):WF m.next:=h.same rfl rfl rfl rfl rfl
theorem WF.atRow(h:WF m)(hi:i≤16):WF (m.atRow i) :=
 ⟨h.gs,h.gb,h.pl,h.pb,h.wl,h.hl,h.wb,h.hb,h.wh,hi,h.tl,h.ts,h.tb,h.rl,h.rb⟩
theorem WF.page(h:WF m){p how:Nat}(hh:how≤2):WF { m with pages:=m.pages.set p how } :=
 ⟨h.gs,h.gb,by show (m.pages.set p how).length=16;rw[length_set];exact h.pl,fun q hq=>by
  rcases mem_or_eq_of_mem_set hq with z | z
  ·exact h.pb q z
  ·lia,h.wl,h.hl,h.wb,h.hb,h.wh,h.st,h.tl,h.ts,h.tb,h.rl,h.rb⟩
theorem WF.lay(h:WF m)(hs:∀ b∈s,b<256):WF (m.lay a s) :=
 ⟨by show (s.zipIdx.foldl _ m.ground).size=16384;rw[rg];exact h.gs,fun p=>by
  show (s.zipIdx.foldl _ m.ground).getD p 0<256;rw[mW]
  split
  ·rw[getD_eq_getElem?_getD]
   cases e:s[p - (a+0)]? with
   | none=>decide
   | some b=>exact hs b (mem_of_getElem? e)
  ·exact h.gb p,h.pl,h.pb,h.wl,h.hl,h.wb,h.hb,h.wh,h.st,h.tl,h.ts,h.tb,h.rl,h.rb⟩
theorem Shape.ok_iff(s:Shape):s.ok=true↔s.start<16∧s.widths.length=8∧s.heights.length=8∧∀ x∈s.widths.zip s.heights,x.1≤64∧x.2≤16∧(x.1=0↔x.2=0):=by
 unfold Shape.ok;rw[Bool.and_eq_true,Bool.and_eq_true,Bool.and_eq_true,all_eq_true]
 constructor
 ·rintro⟨h1,h2,h3,h4⟩
  refine⟨of_decide_eq_true h1,eq_of_beq h2,eq_of_beq h3,fun x hx=>?_⟩
  have:=h4 x hx
  rw[Bool.and_eq_true,Bool.and_eq_true] at this;obtain⟨a,b,c⟩:=this;refine⟨of_decide_eq_true a,of_decide_eq_true b,?_⟩;have c':=eq_of_beq c
  constructor
  ·intro z;rw[z] at c';exact eq_of_beq c'.symm
  ·intro z;rw[z] at c';exact eq_of_beq c'
 ·rintro⟨h1,h2,h3,h4⟩
  refine⟨decide_eq_true h1,beq_iff_eq.2 h2,beq_iff_eq.2 h3,fun x hx=>?_⟩
  obtain⟨a,b,c⟩:=h4 x hx;rw[Bool.and_eq_true,Bool.and_eq_true];refine⟨decide_eq_true a,decide_eq_true b,beq_iff_eq.2 ?_⟩
  by_cases z:x.1=0
  ·have z2:=c.1 z;rw[z,z2]
  ·have z2:x.2≠0:=fun q=>z (c.2 q)
   have e1:(x.1==0)=false:=by simpa using z
   have e2:(x.2==0)=false:=by simpa using z2
   rw[e1,e2]
theorem Shape.ok_at{s:Shape}(h:s.ok=true)(i:Nat):s.widths.getD i 0≤64∧s.heights.getD i 0≤16∧(s.widths.getD i 0=0↔s.heights.getD i 0=0):=by
 obtain⟨_,h2,h3,h4⟩:=(Shape.ok_iff s).1 h
 by_cases hi:i<8
 ·have e1:s.widths[i]?=some (s.widths.getD i 0):=by rw[getD_eq_getElem?_getD,getElem?_eq_getElem (by lia)];rfl
  have e2:s.heights[i]?=some (s.heights.getD i 0):=by rw[getD_eq_getElem?_getD,getElem?_eq_getElem (by lia)];rfl
  refine h4 (s.widths.getD i 0,s.heights.getD i 0) ?_
  refine mem_of_getElem? (i:=i) ?_
  rw[getElem?_zip_eq_some]
  exact⟨e1,e2⟩
 ·rw[getD_eq_getElem?_getD,getD_eq_getElem?_getD,getElem?_eq_none (by lia),getElem?_eq_none (by lia)]
  simp
theorem WF.shaped(h:WF m)(hs:s.ok=true):WF (m.shaped s):=by
 obtain⟨h1,h2,h3,_⟩:=(Shape.ok_iff s).1 hs;refine⟨h.gs,h.gb,h.pl,h.pb,h2,h3,fun i=>(Shape.ok_at hs i).1,fun i=>(Shape.ok_at hs i).2.1,fun i=>(Shape.ok_at hs i).2.2,by show s.start≤16;lia,?_,?_,?_,h.rl,h.rb⟩
 ·show (List.replicate TILES zeros).length=8;rw[length_replicate];rfl
 ·intro i;show ((List.replicate TILES zeros).getD i zeros).size=1024;rw[d9];exact iE
 ·intro i;show lR ((List.replicate TILES zeros).getD i zeros);rw[d9];exact ny
theorem CK:noShape.ok=true:=by decide
theorem WF.setTile(h:WF m)(h1:x.size=1024)(h2:lR x):WF (m.setTile t x):=by
 have key:∀ i,(m.setTile t x).tile i=x∨(m.setTile t x).tile i=m.tile i:=by
  intro i;unfold Mach.tile Mach.setTile;dsimp only;rw[getD_eq_getElem?_getD,getElem?_set]
  by_cases e:t=i
  ·rw[if_pos e]
   by_cases hl:t<m.tiles.length
   ·rw[if_pos hl];exact .inl rfl
   ·rw[if_neg hl]
    right
    rw[getD_eq_getElem?_getD,getElem?_eq_none (by lia)]
  ·rw[if_neg e];right;rw[getD_eq_getElem?_getD]
 exact⟨h.gs,h.gb,h.pl,h.pb,h.wl,h.hl,h.wb,h.hb,h.wh,h.st,by show (m.tiles.set t x).length=8;rw[length_set];exact h.tl,
  fun i=>(key i).elim (fun z=>by rw[z];exact h1) fun z=>by rw[z];exact h.ts i,
  fun i=>(key i).elim (fun z=>by rw[z];exact h2) fun z=>by rw[z];exact h.tb i,h.rl,h.rb⟩
theorem WF.setNum(h:WF m):WF (m.setNum k v):=by
 refine⟨h.gs,h.gb,h.pl,h.pb,h.wl,h.hl,h.wb,h.hb,h.wh,h.st,h.tl,h.ts,h.tb,by show (m.r.set k (v % W64)).length=8;rw[length_set];exact h.rl,fun i=>?_⟩
 show (m.r.set k (v % W64)).getD i 0<2 ^ 64;rw[getD_eq_getElem?_getD,getElem?_set]
 by_cases e:k=i
 ·rw[if_pos e]
  by_cases hl:k<m.r.length
  ·rw[if_pos hl];exact Nat.mod_lt _ (by decide)
  ·rw[if_neg hl];decide
 ·rw[if_neg e,←getD_eq_getElem?_getD];exact h.rb i
theorem WF.begun(h:WF m)(p:Program):WF (m.begun p) :=
 ⟨h.gs,h.gb,h.pl,h.pb,h.wl,h.hl,h.wb,h.hb,h.wh,h.st,h.tl,h.ts,h.tb,by show (List.replicate 8 0).length=8;rfl,fun k=>by show (List.replicate 8 0).getD k 0<2 ^ 64;rw[d9];decide⟩
theorem Aq(h:lR x)(i w:Nat):∀ b∈rowOf x i w,b<256:=by
 intro b hb;obtain⟨c,_,rfl⟩:=mem_map.1 hb;exact h _
theorem Hd(h:WF m)(a n:Nat):∀ b∈m.bytes a n,b<256:=by
 intro b hb;obtain⟨c,_,rfl⟩:=mem_map.1 hb;exact h.gb _
theorem u0(h:lR x)(hs:∀ b∈s,b<256):lR (putRow x i s):=by
 intro p;rw[kG]
 split
 ·rw[getD_eq_getElem?_getD]
  cases e:s[p - 64*i]? with
  | none=>decide
  | some b=>exact hs b (mem_of_getElem? e)
 ·exact h p
theorem WF.moved(h:WF m)(hs:m.shape.start<16):WF (m.moved store t place width):=by
 unfold Mach.moved;dsimp only;refine WF.same (m:=(if store=true then m.lay place (rowOf (m.tile t) m.shape.start width) else m.setTile t (putRow (m.tile t) m.shape.start (m.bytes place width))).atRow (m.shape.start+1)) (WF.atRow ?_ (by lia)) rfl rfl rfl rfl rfl
 split
 ·exact h.lay (Aq (h.tb t) _ _)
 ·exact h.setTile (by rw[sB];exact h.ts t) (u0 (h.tb t) (Hd h _ _))
end QM
namespace QM
open Qw
theorem Er(x p:Nat)(h:x.testBit p=false):x+2 ^ p=x ||| 2 ^ p:=by
 have e:x=2 ^ (p+1)*(x / 2 ^ (p+1))+x % 2 ^ (p+1):=(Nat.div_add_mod _ _).symm;have hb:x % 2 ^ (p+1)<2 ^ p:=by
  have h1:x % 2 ^ (p+1)=2 ^ p*(x / 2 ^ p % 2)+x % 2 ^ p:=by
   rw[Nat.pow_succ,Nat.mod_mul];lia
  have h2:x / 2 ^ p % 2=0:=by
   rw[Nat.testBit_eq_decide_div_mod_eq] at h
   have:=of_decide_eq_false h
   lia
  rw[h1,h2]
  have:=Nat.mod_lt x (Nat.two_pow_pos p)
  lia
 generalize x / 2 ^ (p+1)=a at *;generalize x % 2 ^ (p+1)=b at *;subst e;have h2:b+2 ^ p<2 ^ (p+1):=by rw[Nat.pow_succ];lia
 rw[Nat.add_assoc,Nat.two_pow_add_eq_or_of_lt h2,Nat.two_pow_add_eq_or_of_lt (by lia:b<2 ^ (p+1)),Nat.or_assoc]
 congr 1
 have:=Nat.two_pow_add_eq_or_of_lt hb 1
 rw[Nat.mul_one] at this;rw[Nat.add_comm,this,Nat.or_comm]
theorem Fa(l:List Nat)(a:Nat):l.foldl (fun (a b:Nat)=>a+b) a=a+l.foldl (fun (a b:Nat)=>a+b) 0:=by
 induction l generalizing a with
 | nil=>rfl
 | cons x l ih=>rw[foldl_cons,foldl_cons,ih (a+x),ih (0+x)];lia
theorem BF(l:List Nat)(p:Nat):bitsOf (l++[p])=bitsOf l+2 ^ p:=by
 unfold bitsOf;rw[map_append,foldl_append];rfl
theorem BG(l:List Nat)(p:Nat):bitsOf (p::l)=2 ^ p+bitsOf l:=by
 unfold bitsOf;rw[map_cons,foldl_cons,Fa];lia
theorem nn:∀ (l:List Nat),l.Nodup→∀ q,(bitsOf l).testBit q=decide (q∈l)
 | [],_,q=>by simp[bitsOf]
 | p::l,h,q=>by
  rw[nodup_cons] at h;have ih:=nn l h.2;have hp:(bitsOf l).testBit p=false:=by rw[ih];exact decide_eq_false h.1
  rw[BG,Nat.add_comm,Er _ _ hp,Nat.testBit_or,ih,Nat.testBit_two_pow]
  by_cases e:p=q
  ·subst e;simp
  ·simp[e,Ne.symm e]
theorem wC(l:List Nat)(hn:l.Nodup)(p:Nat):bitsOf (l++[p].filter fun (q:Nat)=>!l.contains q)=bitsOf l ||| 2 ^ p∧(l++[p].filter fun (q:Nat)=>!l.contains q).Nodup:=by
 by_cases h:p∈l
 ·have e:([p].filter fun (q:Nat)=>!l.contains q)=[]:=by simp[h]
  rw[e,append_nil];refine⟨?_,hn⟩;apply Nat.eq_of_testBit_eq;intro q;rw[Nat.testBit_or,nn l hn,Nat.testBit_two_pow]
  by_cases e:p=q
  ·subst e;simp[h]
  ·simp[e]
 ·have e:([p].filter fun (q:Nat)=>!l.contains q)=[p]:=by simp[h]
  rw[e,BF,Er _ _ (by rw[nn l hn];exact decide_eq_false h)]
  refine⟨rfl,?_⟩;rw[List.nodup_append]
  exact⟨hn,by simp,fun a ha b hb=>by simp at hb;subst hb;exact fun z=>h (z▸ha)⟩
theorem Hf(l:List Nat)(hn:l.Nodup)(p q:Nat)(hpq:p≠q):bitsOf (l++[p,q].filter fun (r:Nat)=>!l.contains r)=(bitsOf l ||| 2 ^ p) ||| 2 ^ q∧(l++[p,q].filter fun (r:Nat)=>!l.contains r).Nodup:=by
 have h1:=wC l hn p;have h2:=wC _ h1.2 q;have e:(l++[p,q].filter fun (r:Nat)=>!l.contains r)=(l++[p].filter fun (q:Nat)=>!l.contains q)++[q].filter fun (r:Nat)=>!(l++[p].filter fun (q:Nat)=>!l.contains q).contains r:=by
  rw[append_assoc]
  congr 1
  by_cases a:p∈l<;>by_cases b:q∈l<;>simp[a,b,hpq,Ne.symm hpq]
 rw[e,←h1.1];exact h2
theorem BE(l:List Nat)(hn:l.Nodup)(place width:Nat)(hw:1≤width)(hw2:width≤64) :
  bitsOf (l++(pagesOf place width).filter fun (r:Nat)=>!l.contains r)=(bitsOf l ||| 2 ^ (place / 1024)) ||| 2 ^ ((place+width - 1) / 1024)∧(l++(pagesOf place width).filter fun (r:Nat)=>!l.contains r).Nodup:=by
 unfold pagesOf PAGE
 by_cases h:place / 1024=(place+width - 1) / 1024
 ·rw[if_pos h,←h];have h1:=wC l hn (place / 1024);refine⟨?_,h1.2⟩;rw[h1.1,Nat.or_assoc,Nat.or_self]
 ·rw[if_neg h];have e:(place+width - 1) / 1024=place / 1024+1:=by lia
  rw[e];exact Hf l hn _ _ (by lia)
end QM
namespace QM
open Qw
theorem fN{α:Type}(f:Nat→Nat→α)(k:Nat):∀ n:Nat,((List.range n).flatMap fun i=>(List.range k).map (f i))=(List.range (n*k)).map fun t=>f (t / k) (t % k)
 | 0=>by simp
 | n+1=>by
  rw[range_succ,flatMap_append,fN f k n,Nat.succ_mul,List.range_add,map_append]
  congr 1
  simp only[flatMap_cons,flatMap_nil,append_nil,map_map];apply map_congr_left;intro q hq;have hq:q<k:=mem_range.mp hq;simp only[Function.comp];rw[Nat.add_comm (n*k) q,Nat.add_mul_div_right _ _ (by lia),Nat.div_eq_of_lt hq,Nat.add_mul_mod_self_right,Nat.mod_eq_of_lt hq,Nat.zero_add]
theorem fQ{α β:Type}{f g:α→List β}:∀ {l:List α},(∀ x∈l,f x=g x)→l.flatMap f=l.flatMap g
 | [],_=>rfl
 | x::l,h=>by rw[flatMap_cons,flatMap_cons,h x mem_cons_self,fQ fun y hy=>h y (mem_cons_of_mem _ hy)]
def bd(kind rows cols:Nat):List (Option Nat):=(List.range (wovenRows kind rows)).flatMap fun i=>(List.range cols).flatMap fun j=>(List.range 4).map fun q =>
 if groupOf kind*i+q / unitOf kind<rows then some (((groupOf kind*i+q / unitOf kind)*cols+j)*unitOf kind+q % unitOf kind) else none
theorem BI(s:List Nat)(i:Nat)(h:i<s.length):between s i 1=[s.getD i 0]:=by
 unfold between;rw[drop_eq_getElem_cons h,getD_eq_getElem?_getD,getElem?_eq_getElem h];rfl
theorem nr(s:List Nat)(i:Nat)(h:i+1<s.length):between s i 2=[s.getD i 0,s.getD (i+1) 0]:=by
 unfold between;rw[drop_eq_getElem_cons (by lia),drop_eq_getElem_cons h,getD_eq_getElem?_getD,getElem?_eq_getElem (by lia),getD_eq_getElem?_getD,getElem?_eq_getElem h];rfl
theorem fk{r rows j cols:Nat}(h:r<rows)(hj:j<cols):r*cols+j<rows*cols:=by
 have h1:(r+1)*cols≤rows*cols:=Nat.mul_le_mul_right _ h;rw[Nat.succ_mul] at h1;lia
theorem FM(kind rows cols:Nat)(s:List Nat)(hs:s.length=unitOf kind*rows*cols) :
  (bd kind rows cols).map (fun o=>match o with | none=>0 | some p=>s.getD p 0)=woven kind s rows cols:=by
 unfold bd woven;rw[map_flatMap];apply fQ;intro i hi;rw[map_flatMap];apply fQ;intro j hj;have hj:j<cols:=mem_range.mp hj
 by_cases hk:kind=4
 ·have eg:groupOf kind=2:=by unfold groupOf;rw[if_pos hk]
  have eu:unitOf kind=2:=by unfold unitOf;rw[if_pos hk]
  rw[eu] at hs;unfold unitAt;rw[eg,eu];have c:∀ r,r<rows→2*(r*cols+j)+1<s.length:=fun r hr=>by
   have:=fk hr hj
   rw[hs,Nat.mul_assoc];lia
  show [_,_,_,_]=([0,1]:List Nat).flatMap _;rw[flatMap_cons,flatMap_cons,flatMap_nil,append_nil];show [_,_,_,_]=_;have d0:(0:Nat) / 2=0:=rfl;have d1:(1:Nat) / 2=0:=rfl;have d2:(2:Nat) / 2=1:=rfl;have d3:(3:Nat) / 2=1:=rfl;simp only[d0,d1,d2,d3,Nat.add_zero]
  by_cases h0:2*i<rows<;>by_cases h1:2*i+1<rows
  ·simp only[h0,h1,if_true];rw[nr s _ (c _ h0),nr s _ (c _ h1)];simp[Nat.mul_comm]
  ·simp only[h0,h1,if_true,if_false];rw[nr s _ (c _ h0)];simp[Nat.mul_comm]
  ·lia
  ·simp only[h0,h1,if_true,if_false];rfl
 ·have eg:groupOf kind=4:=by unfold groupOf;rw[if_neg hk]
  have eu:unitOf kind=1:=by unfold unitOf;rw[if_neg hk]
  rw[eu] at hs;unfold unitAt;rw[eg,eu];have c:∀ r,r<rows→1*(r*cols+j)<s.length:=fun r hr=>by
   have:=fk hr hj
   rw[hs,Nat.mul_assoc];lia
  have one:∀ q,(if 4*i+q<rows then between s (1*((4*i+q)*cols+j)) 1 else List.replicate 1 0)=[if 4*i+q<rows then s.getD ((4*i+q)*cols+j) 0 else 0]:=fun q=>by
   by_cases h:4*i+q<rows
   ·rw[if_pos h,if_pos h,BI s _ (c _ h),Nat.one_mul]
   ·rw[if_neg h,if_neg h];rfl
  simp only[one];show [_,_,_,_]=[_,_,_,_];simp only[Nat.div_one,Nat.mod_one,Nat.mul_one,Nat.add_zero];have t:∀ q,(match (if 4*i+q<rows then some ((4*i+q)*cols+j) else none) with | none=>0 | some p=>s.getD p 0)=if 4*i+q<rows then s.getD ((4*i+q)*cols+j) 0 else 0:=fun q=>by
   by_cases h:4*i+q<rows
   ·rw[if_pos h,if_pos h]
   ·rw[if_neg h,if_neg h]
  have t0:=t 0;rw[Nat.add_zero] at t0;rw[t0,t 1,t 2,t 3]
theorem kF(kind rows cols:Nat):(bd kind rows cols).length=wovenRows kind rows*(cols*4):=by
 unfold bd;simp only[fN]
 simp
theorem sA(kind rows cols:Nat):∀ p,some p∈bd kind rows cols→p<rows*cols*unitOf kind:=by
 intro p hp;unfold bd at hp;obtain⟨i,hi,hp⟩:=mem_flatMap.mp hp;obtain⟨j,hj,hp⟩:=mem_flatMap.mp hp;obtain⟨q,hq,hp⟩:=mem_map.mp hp;have hj:j<cols:=mem_range.mp hj;have hu:0<unitOf kind:=by unfold unitOf;split<;>decide
 by_cases h:groupOf kind*i+q / unitOf kind<rows
 ·rw[if_pos h] at hp;have e:=Option.some.inj hp;subst e;exact fk (fk h hj) (Nat.mod_lt _ hu)
 ·rw[if_neg h] at hp;cases hp
theorem Bb{α:Type}(P:Nat→Option Nat)(D:Nat→α)(z:α)(len N:Nat)(inv:Nat→Nat)(h:∀ t p,t<N→p<len→(P t=some p↔t=inv p)) :
  ∀ n,n≤N→(((List.range n).map fun t=>(P t,D t)).foldl (fun (l:List α) (x:Option Nat×α)=>match x.1 with | none=>l | some k=>l.set k x.2) (List.replicate len z))=(List.range len).map fun p=>if inv p<n then D (inv p) else z
 | 0,_=>by
  simp only[List.range_zero,map_nil,foldl_nil,Nat.not_lt_zero,if_false];apply ext_getElem (by simp)
  intro i h1 h2
  simp
 | n+1,hn=>by
  rw[range_succ,map_append,foldl_append,Bb P D z len N inv h n (by lia)]
  simp only[map_cons,map_nil,foldl_cons,foldl_nil];have hh:=h n
  cases hP:P n with
  | none =>
   apply map_congr_left;intro p hp;have hp:p<len:=mem_range.mp hp;have ne:inv p≠n:=fun e=>by
    have:=(hh p (by lia) hp).2 e.symm
    rw[hP] at this;cases this
   by_cases c:inv p<n
   ·rw[if_pos c,if_pos (by lia)]
   ·rw[if_neg c,if_neg (by lia)]
  | some k =>
   apply ext_getElem (by simp)
   intro p h1 h2;have hp:p<len:=by simpa using h2
   simp only[List.getElem_set,getElem_map,getElem_range]
   by_cases e:k=p
   ·subst e;have e2:=(hh k (by lia) hp).1 hP
    rw[if_pos rfl,←e2,if_pos (by lia)]
   ·have ne:inv p≠n:=fun e2=>by
     have:=(hh p (by lia) hp).2 e2.symm
     rw[hP] at this;exact e (Option.some.inj this)
    rw[if_neg e]
    by_cases c:inv p<n
    ·rw[if_pos c,if_pos (by lia)]
    ·rw[if_neg c,if_neg (by lia)]
def j5(kind rows cols:Nat)(s:List Int):List Int:=((bd kind rows cols).zip s).foldl (fun (l:List Int) (x:Option Nat×Int)=>match x.1 with | none=>l | some k=>l.set k x.2) (List.replicate (rows*cols*unitOf kind) 0)
end QM
namespace QM
open Qw
theorem dm{a b c:Nat}(h:c<b):(a*b+c) / b=a∧(a*b+c) % b=c:=by
 rw[Nat.add_comm,Nat.add_mul_div_right _ _ (by lia),Nat.div_eq_of_lt h,Nat.add_mul_mod_self_right,Nat.mod_eq_of_lt h,Nat.zero_add]
 exact⟨rfl,rfl⟩
def DL(g unit rows cols t:Nat):Option Nat :=
 if g*(t / (cols*4))+t % (cols*4) % 4 / unit<rows then some (((g*(t / (cols*4))+t % (cols*4) % 4 / unit)*cols+t % (cols*4) / 4)*unit+t % (cols*4) % 4 % unit) else none
def sP(g unit cols p:Nat):Nat:=unit*((p / (cols*unit) / g*cols+p % (cols*unit) / unit)*g+p / (cols*unit) % g)+p % (cols*unit) % unit
theorem EQ(kind rows cols:Nat):bd kind rows cols=(List.range (wovenRows kind rows*(cols*4))).map (DL (groupOf kind) (unitOf kind) rows cols):=by
 unfold bd;simp only[fN];rfl
theorem N0(hg:g*unit=4)(hj:j<cols)(hq:q<4):unit*((i*cols+j)*g+q / unit)+q % unit=i*(cols*4)+(j*4+q):=by
 have e:unit*(q / unit)+q % unit=q:=Nat.div_add_mod _ _;have e2:unit*((i*cols+j)*g+q / unit)=(i*cols+j)*4+unit*(q / unit):=by
  rw[Nat.mul_add,←hg]
  congr 1
  rw[Nat.mul_left_comm,Nat.mul_comm unit g]
 rw[e2,Nat.add_mul,Nat.mul_assoc];lia
theorem HY{g unit rows cols t p:Nat}(hg:g*unit=4)(hp:p<rows*cols*unit):DL g unit rows cols t=some p↔t=sP g unit cols p:=by
 have hu:0<unit:=Nat.pos_of_ne_zero fun z=>by rw[z] at hg;simp at hg
 have hg0:0<g:=Nat.pos_of_ne_zero fun z=>by rw[z] at hg;simp at hg
 have hc:0<cols:=Nat.pos_of_ne_zero fun z=>by rw[z] at hp;simp at hp
 have hcu:0<cols*unit:=Nat.mul_pos hc hu;have hc4:0<cols*4:=Nat.mul_pos hc (by decide)
 constructor
 ·intro h;unfold DL at h;have et:t=t / (cols*4)*(cols*4)+(t % (cols*4) / 4*4+t % (cols*4) % 4):=by
   have h1:=Nat.div_add_mod t (cols*4);have h2:=Nat.div_add_mod (t % (cols*4)) 4;rw[Nat.mul_comm] at h1;lia
  have hq:t % (cols*4) % 4<4:=Nat.mod_lt _ (by decide)
  have hj:t % (cols*4) / 4<cols:=by
   have:=Nat.mod_lt t hc4
   lia
  generalize t / (cols*4)=i at *;generalize t % (cols*4) % 4=q at *;generalize t % (cols*4) / 4=j at *
  by_cases hr:g*i+q / unit<rows
  ·rw[if_pos hr] at h;have e:=Option.some.inj h;have hqg:q / unit<g:=by rw[Nat.div_lt_iff_lt_mul hu];lia
   have hqm:q % unit<unit:=Nat.mod_lt _ hu;have e2:p=(g*i+q / unit)*(cols*unit)+(j*unit+q % unit):=by rw[←e,Nat.add_mul,Nat.mul_assoc,Nat.add_assoc]
   have d1:=dm (a:=g*i+q / unit) (b:=cols*unit) (c:=j*unit+q % unit) (fk hj hqm);have d2:=dm (a:=j) (b:=unit) (c:=q % unit) hqm;have d3:=dm (a:=i) (b:=g) (c:=q / unit) hqg;rw[Nat.mul_comm i g] at d3;unfold sP;rw[e2,d1.1,d1.2,d2.1,d2.2,d3.1,d3.2,N0 hg hj hq];exact et
  ·rw[if_neg hr] at h;cases h
 ·intro e;unfold sP at e;have ep:p=p / (cols*unit)*(cols*unit)+(p % (cols*unit) / unit*unit+p % (cols*unit) % unit):=by
   have h1:=Nat.div_add_mod p (cols*unit);have h2:=Nat.div_add_mod (p % (cols*unit)) unit;rw[Nat.mul_comm] at h1;rw[Nat.mul_comm] at h2;lia
  have hum:p % (cols*unit) % unit<unit:=Nat.mod_lt _ hu;have hj:p % (cols*unit) / unit<cols:=by rw[Nat.div_lt_iff_lt_mul hu];exact Nat.mod_lt _ hcu
  have hr:p / (cols*unit)<rows:=by rw[Nat.div_lt_iff_lt_mul hcu,←Nat.mul_assoc];exact hp
  generalize p / (cols*unit)=row at *;generalize p % (cols*unit) % unit=u at *;generalize p % (cols*unit) / unit=j at *;have hm:row % g<g:=Nat.mod_lt _ hg0;have hq:row % g*unit+u<4:=by rw[←hg];exact fk hm hum
  have d2:=dm (a:=row % g) (b:=unit) (c:=u) hum;have t1:=N0 (i:=row / g) hg hj hq;rw[d2.1,d2.2] at t1;rw[t1] at e;have h4:j*4+(row % g*unit+u)<cols*4:=fk hj hq;have d3:=dm (a:=row / g) (b:=cols*4) (c:=j*4+(row % g*unit+u)) h4;have d4:=dm (a:=j) (b:=4) (c:=row % g*unit+u) hq;unfold DL;rw[e,d3.1,d3.2,d4.1,d4.2,d2.1,d2.2,Nat.div_add_mod,if_pos hr,ep]
  congr 1
  rw[Nat.add_mul,Nat.mul_assoc,Nat.add_assoc]
theorem GN{g unit rows cols p W:Nat}(hg:g*unit=4)(hp:p<rows*cols*unit)(hW:rows≤g*W):sP g unit cols p<W*(cols*4):=by
 have hu:0<unit:=Nat.pos_of_ne_zero fun z=>by rw[z] at hg;simp at hg
 have hg0:0<g:=Nat.pos_of_ne_zero fun z=>by rw[z] at hg;simp at hg
 have hc:0<cols:=Nat.pos_of_ne_zero fun z=>by rw[z] at hp;simp at hp
 have hcu:0<cols*unit:=Nat.mul_pos hc hu;unfold sP;have hum:p % (cols*unit) % unit<unit:=Nat.mod_lt _ hu;have hj:p % (cols*unit) / unit<cols:=by rw[Nat.div_lt_iff_lt_mul hu];exact Nat.mod_lt _ hcu
 have hr:p / (cols*unit)<rows:=by rw[Nat.div_lt_iff_lt_mul hcu,←Nat.mul_assoc];exact hp
 generalize p / (cols*unit)=row at *;generalize p % (cols*unit) % unit=u at *;generalize p % (cols*unit) / unit=j at *;have hm:row % g<g:=Nat.mod_lt _ hg0;have hq:row % g*unit+u<4:=by rw[←hg];exact fk hm hum
 have d2:=dm (a:=row % g) (b:=unit) (c:=u) hum;have t1:=N0 (i:=row / g) hg hj hq;rw[d2.1,d2.2] at t1;rw[t1];have hi:row / g<W:=by rw[Nat.div_lt_iff_lt_mul hg0];rw[Nat.mul_comm];lia
 exact fk hi (fk hj hq)
theorem BJ(s:List Nat)(i n:Nat)(h:i+n≤s.length):between s i n=(List.range n).map fun u=>s.getD (i+u) 0:=by
 apply ext_getElem
 ·unfold between;simp;lia
 ·intro k h1 h2;have hk:k<n:=by simpa using h2
  simp only[between,getElem_take,getElem_drop,getElem_map,getElem_range];rw[getD_eq_getElem?_getD,getElem?_eq_getElem (by lia)];rfl
theorem gu(kind:Nat):groupOf kind*unitOf kind=4:=by unfold groupOf unitOf;split<;>rfl
theorem Jp(kind rows:Nat):rows≤groupOf kind*wovenRows kind rows:=by
 unfold wovenRows groupOf
 by_cases h:kind=4
 ·rw[if_pos h];lia
 ·rw[if_neg h];lia
theorem B6(kind rows cols:Nat)(s:List Nat)(hs:s.length=unitOf kind*groupOf kind*wovenRows kind rows*cols) :
  j5 kind rows cols (s.map fun (n:Nat)=>(n:Int))=(unwoven kind s rows cols).map fun (n:Nat)=>(n:Int):=by
 have hu:0<unitOf kind:=by unfold unitOf;split<;>decide
 have hN:s.length=wovenRows kind rows*(cols*4):=by
  rw[hs,Nat.mul_comm (unitOf kind),gu,Nat.mul_comm cols 4,←Nat.mul_assoc,Nat.mul_comm 4]
 have es:(s.map fun (n:Nat)=>(n:Int))=(List.range (wovenRows kind rows*(cols*4))).map fun t=>((s.getD t 0:Nat):Int):=by
  apply ext_getElem (by simp[hN])
  intro i h1 h2;have hi:i<s.length:=by simpa using h1
  simp only[getElem_map,getElem_range];rw[getD_eq_getElem?_getD,getElem?_eq_getElem hi];rfl
 unfold j5;rw[EQ,es,dC,Bb _ _ _ _ (wovenRows kind rows*(cols*4)) (sP (groupOf kind) (unitOf kind) cols) (fun t p ht hp=>HY (gu kind) hp) _ (Nat.le_refl _)]
 have e2:unwoven kind s rows cols=(List.range (rows*(cols*unitOf kind))).map fun p=>s.getD (sP (groupOf kind) (unitOf kind) cols p) 0:=by
  unfold unwoven;have e3:∀ i,i<rows→((List.range cols).flatMap fun (j:Nat)=>between s (unitOf kind*((i / groupOf kind*cols+j)*groupOf kind+i % groupOf kind)) (unitOf kind))=(List.range (cols*unitOf kind)).map fun t=>s.getD (unitOf kind*((i / groupOf kind*cols+t / unitOf kind)*groupOf kind+i % groupOf kind)+t % unitOf kind) 0:=fun i hi=>by
   rw[←fN (fun j u=>s.getD (unitOf kind*((i / groupOf kind*cols+j)*groupOf kind+i % groupOf kind)+u) 0)]
   apply fQ;intro j hj;have hj:j<cols:=mem_range.mp hj;apply BJ;have hl:=GN (p:=i*(cols*unitOf kind)+(j*unitOf kind+(unitOf kind - 1))) (gu kind) (by rw[Nat.mul_assoc];exact fk hi (fk hj (by lia))) (Jp kind rows)
   have d1:=dm (a:=i) (b:=cols*unitOf kind) (c:=j*unitOf kind+(unitOf kind - 1)) (fk hj (by lia))
   have d2:=dm (a:=j) (b:=unitOf kind) (c:=unitOf kind - 1) (by lia)
   unfold sP at hl;rw[d1.1,d1.2,d2.1,d2.2] at hl;rw[hN];lia
  rw[fQ (g:=fun i=>(List.range (cols*unitOf kind)).map fun t=>s.getD (unitOf kind*((i / groupOf kind*cols+t / unitOf kind)*groupOf kind+i % groupOf kind)+t % unitOf kind) 0) fun i hi=>e3 i (mem_range.mp hi)]
  rw[fN (fun i t=>s.getD (unitOf kind*((i / groupOf kind*cols+t / unitOf kind)*groupOf kind+i % groupOf kind)+t % unitOf kind) 0)]
  rfl
 rw[e2,map_map,show rows*(cols*unitOf kind)=rows*cols*unitOf kind from (Nat.mul_assoc _ _ _).symm]
 apply map_congr_left;intro p hp;rw[if_pos (GN (gu kind) (mem_range.mp hp) (Jp kind rows))];rfl
end QM
set_option exponentiation.threshold 1024
namespace QM
open Qw
theorem yF{α:Type}(d:α)(l:List α):l.zipIdx=(List.range l.length).map fun j=>(l.getD j d,j):=by
 apply ext_getElem (by simp)
 intro i h1 h2;have hi:i<l.length:=by simpa using h1
 simp only[List.getElem_zipIdx,getElem_map,getElem_range];rw[getD_eq_getElem?_getD,getElem?_eq_getElem hi]
 simp
theorem GI(l:List Nat):lanes l=(List.range l.length).foldl (fun (b:Tile) (j:Nat)=>putWord b 0 j (l.getD j 0)) zeros:=by
 unfold lanes;rw[yF 0,List.foldl_map]
theorem yg(l:List Nat)(p:Nat):(lanes l).getD p 0=if p<4*l.length∧p<1024 then l.getD (p / 4) 0 / 256 ^ (p % 4) % 256 else 0:=by
 rw[GI,uS (fun j=>l.getD j 0),iE,jV]
 simp only[Nat.mul_zero,Nat.zero_add,Nat.sub_zero,Nat.zero_le,true_and]
theorem yh(l:List Nat):lR (lanes l):=fun p=>by
 rw[yg]
 split
 ·exact Nat.mod_lt _ (by decide)
 ·decide
theorem o0(l:List Nat)(hl:l.length≤16)(j:Nat)(hj:j<l.length)(hv:l.getD j 0<2 ^ 32):wordIn (lanes l) 0 j=l.getD j 0:=by
 have g:∀ q,q<4→at_ (lanes l) 0 (4*j+q)=l.getD j 0 / 256 ^ q % 256:=fun q hq=>by
  unfold at_ WIDE;rw[Nat.mul_zero,Nat.zero_add,yg,if_pos (by omega),show (4*j+q) / 4=j by omega,show (4*j+q) % 4=q by omega]
 have g0:=g 0 (by decide)
 rw[Nat.add_zero] at g0;rw[qN,g0,g 1 (by decide),g 2 (by decide),g 3 (by decide)]
 simp only[Nat.pow_zero,Nat.div_one,Nat.pow_one];omega
theorem sN(l:List Nat)(hl:l.length≤16)(hv:∀ x∈l,x<2 ^ 32):(aI (lanes l) 1 (4*l.length)).map bI=[nI l]:=by
 unfold aI;simp only[range_one,map_cons,map_nil];rw[nB]
 congr 1
 apply ext_getElem (by simp)
 intro i h1 h2;have hi:i<l.length:=by simpa using h1
 simp only[getElem_map,getElem_range];have hm:l.getD i 0=l[i]:=by rw[getD_eq_getElem?_getD,getElem?_eq_getElem hi];rfl
 rw[o0 l hl i hi (by rw[hm];exact hv _ (getElem_mem hi)),hm]
theorem uu(s:List Nat)(hs:∀ x∈s,x<256):lR (tileOf s):=fun p=>by
 have:=mW s 0 0 zeros p 0
 unfold tileOf;simp only[Nat.zero_add] at this;rw[this,jV]
 split
 ·rename_i h
  rw[getD_eq_getElem?_getD]
  cases e:s[p - 0]? with
  | none=>decide
  | some v=>exact hs _ (mem_of_getElem? e)
 ·decide
theorem Ca(s:List Nat)(hl:s.length≤64):aI (tileOf s) 1 s.length=[nI s]:=by
 unfold aI;simp only[range_one,map_cons,map_nil]
 congr 2
 unfold rowOf at_ WIDE;apply ext_getElem (by simp)
 intro i h1 h2;have hi:i<s.length:=by simpa using h1
 simp only[getElem_map,getElem_range];rw[Nat.mul_zero,Nat.zero_add,ut s i (by omega),getD_eq_getElem?_getD,getElem?_eq_getElem hi];rfl
def eK(l:List Int)(n k:Nat):List (List Int):=(List.range n).map fun q=>(l.drop (q*k)).take k
theorem yH(s:List Nat)(n:Nat)(hn:n≤16)(hl:s.length=64*n):aI (tileOf s) n 64=eK (nI s) n 64:=by
 unfold aI eK;apply map_congr_left;intro q hq;have hq:q<n:=mem_range.mp hq;apply ext_getElem
 ·simp[rowOf];omega
 intro i h1 h2;have hi:i<64:=by simpa[rowOf] using h1
 simp only[nI,rowOf,getElem_map,getElem_range,getElem_take,getElem_drop];unfold at_ WIDE;rw[ut s _ (by omega),getD_eq_getElem?_getD,getElem?_eq_getElem (by omega)]
 simp only[Option.getD_some]
 congr 2
 omega
def fw(kind:Nat)(ws y:List Int)(zs:List (List Int)):Option (List Int):=if kind=4∧bH [ws] [y] zs=false then none else some ((ik kind [ws] [y] zs).headD [])
theorem Ab(kind rows:Nat)(c a b:List Nat)(hk:kind≤4)(h1:1≤rows)(h2:rows≤16)(hc:c.length=16)(ha:a.length=4*rows)(hb:b.length=64*rows)
  (vc:∀ x∈c,x<2 ^ 32) (va:∀ x∈a,x<256) (vb:∀ x∈b,x<256):fw kind (nI c) (nI a) (eK (nI b) rows 64)=(valueDot kind c a b rows).map nI:=by
 have ex:=sN c (by omega) vc
 have ey:=Ca a (by omega)
 have ez:=yH b rows h2 (by omega)
 rw[hc] at ex;rw[ha] at ey;have bx:=yh c;have by':=uu a va
 have bz:=uu b vb;have hw:∀ j,j<16→wordIn (lanes c) 0 j=c.getD j 0:=fun j hj=>by
  refine o0 c (by omega) j (by omega) ?_
  rw[getD_eq_getElem?_getD,getElem?_eq_getElem (by omega)]
  exact vc _ (getElem_mem _)
 have er:dotRight kind (lanes c) (tileOf a) (tileOf b) 1 16 rows=rowRight kind (lanes c) (tileOf a) (tileOf b) rows 0 16:=by
  unfold dotRight;simp only[range_one,all_cons,List.all_nil,Bool.and_true]
 unfold fw valueDot;rw[←ex,←ey,←ez];have dO:dotRight kind (lanes c) (tileOf a) (tileOf b) 1 16 rows=true→(ik kind ((aI (lanes c) 1 (4*16)).map bI) (aI (tileOf a) 1 (4*rows)) (aI (tileOf b) rows 64)).headD []=nI ((List.range 16).map fun (j:Nat)=>dotted kind (c.getD j 0) (tileOf a) (tileOf b) rows 0 j):=fun hd=>by
  have:=Df kind hk (lanes c) (tileOf a) (tileOf b) bx by' bz 1 16 rows h1 hd
  rw[show 64=4*16 from rfl,this]
  simp only[range_one,map_cons,map_nil,headD_cons];unfold nI;rw[map_map];apply map_congr_left;intro j hj;rw[hw j (mem_range.mp hj)];rfl
 by_cases e:kind=4
 ·have ep:=kI (lanes c) (tileOf a) (tileOf b) bx by' bz 1 16 rows (by decide)
  rw[show 4*16=64 from rfl] at ep
  rw[show 4*16=64 from rfl,ep]
  subst e;rw[er]
  by_cases hr:rowRight 4 (lanes c) (tileOf a) (tileOf b) rows 0 16=false
  ·rw[if_pos ⟨rfl,hr⟩,if_pos hr];rfl
  ·rw[if_neg (fun z=>hr z.2),if_neg hr]
   have:=dO (by rw[er];simpa using hr)
   rw[show 4*16=64 from rfl] at this
   rw[this];rfl
 ·have hr:rowRight kind (lanes c) (tileOf a) (tileOf b) rows 0 16=true:=by
   unfold rowRight;simp[e]
  rw[if_neg (fun z=>e z.1),if_neg (by rw[hr];decide),dO (by rw[er];exact hr)];rfl
end QM
set_option exponentiation.threshold 1024
namespace QM
open Qw
def kT(zs:List (List Int))(q:Nat):List (List Int):=zs.map fun z=>(z.drop (4*q)).take 4
theorem rS{α β:Type}(d:α)(l:List α)(n:Nat)(g:Nat→β)(h:l.length=n):l.zip ((List.range n).map g)=(List.range n).map fun i=>(l.getD i d,g i):=by
 apply ext_getElem (by simp[h])
 intro i h1 h2;have hi:i<l.length:=by simp at h1;lia
 simp only[List.getElem_zip,getElem_map,getElem_range];rw[getD_eq_getElem?_getD,getElem?_eq_getElem hi];rfl
theorem Cj(z:List Int)(q:Nat):bP ((z.drop (4*q)).take 4)=((bP z).drop (4*q)).take 4:=by
 unfold bP;rw[map_take,map_drop]
theorem qD(zs:List (List Int))(q:Nat):bw (kT zs q) 0=bw zs q:=by
 unfold bw kT;rw[flatMap_map];apply fQ;intro z _;rw[Nat.mul_zero,drop_zero,List.take_take,Nat.min_self]
theorem qm(f:List Int→List Int)(zs:List (List Int))(h:f []=[]):(zs.map f).headD []=f (zs.headD []):=by
 cases zs with
 | nil=>exact h.symm
 | cons z zs=>rfl
theorem He(kind n:Nat)(ws y:List Int)(zs:List (List Int))(hw:ws.length=n)(hz:∀ z∈zs,z.length=4*n)(h0:0<zs.length) :
  eF kind [ws] [y] zs=[(List.range n).map fun q=>((eF kind [[ws.getD q 0]] [y] (kT zs q)).headD []).headD 0]:=by
 have hd:(zs.headD []).length=4*n:=by
  cases zs with
  | nil=>simp at h0
  | cons z zs=>exact hz z mem_cons_self
 have hl:∀ (b:Prop) [Decidable b],((if b then zs.map bP else zs).headD []).length / 4=n:=fun b _=>by
  by_cases hb:b
  ·rw[if_pos hb,qm _ _ rfl];unfold bP;rw[length_map,hd,Nat.mul_div_cancel_left n (by decide)]
  ·rw[if_neg hb,hd,Nat.mul_div_cancel_left n (by decide)]
 have hlq:∀ (b:Prop) [Decidable b] (q:Nat),q<n→((if b then (kT zs q).map bP else kT zs q).headD []).length / 4=1:=fun b _ q hq=>by
  have e:((kT zs q).headD []).length=4:=by
   unfold kT;rw[qm _ _ (by simp),length_take,length_drop,hd];lia
  by_cases hb:b
  ·rw[if_pos hb,qm _ _ rfl];unfold bP;rw[length_map,e]
  ·rw[if_neg hb,e]
 have hy:∀ (b:Prop) [Decidable b],(if b then [y].map bP else [y])=[if b then bP y else y]:=fun b _=>by
  by_cases hb:b
  ·rw[if_pos hb,if_pos hb];rfl
  ·rw[if_neg hb,if_neg hb]
 have hc:∀ (b:Prop) [Decidable b] (q:Nat),bw (if b then (kT zs q).map bP else kT zs q) 0=bw (if b then zs.map bP else zs) q:=fun b _ q=>by
  by_cases hb:b
  ·rw[if_pos hb,if_pos hb,←qD (zs.map bP) q]
   congr 1
   unfold kT;rw[map_map,map_map];apply map_congr_left;intro z _;exact Cj z q
  ·rw[if_neg hb,if_neg hb,qD]
 unfold eF;dsimp only;rw[hl,hy];simp only[zip_cons_cons,zip_nil_left,map_cons,map_nil]
 congr 1
 rw[rS 0 ws n _ hw,map_map];apply map_congr_left;intro q hq;rw[hlq _ q (mem_range.mp hq)];simp only[range_one,map_cons,map_nil,zip_cons_cons,zip_nil_left,headD_cons,Function.comp];rw[hc]
theorem zm(z:List Int)(n q:Nat)(hz:z.length=4*n)(hq:q<n):aw ((z.drop (4*q)).take 4)=[(aw z).getD (2*q) 0,(aw z).getD (2*q+1) 0]:=by
 have hl:((z.drop (4*q)).take 4).length=4:=by rw[length_take,length_drop];lia
 have g:∀ i,i<4→((z.drop (4*q)).take 4).getD i 0=z.getD (4*q+i) 0:=fun i hi=>by
  rw[getD_eq_getElem?_getD,getD_eq_getElem?_getD,getElem?_take,if_pos hi,getElem?_drop]
 have h:∀ i,i<2*n→(aw z).getD i 0=hv (z.getD (2*i) 0+z.getD (2*i+1) 0*2 ^ 8):=fun i hi=>by
  unfold aw bX;rw[map_map,hz,show 4*n / 2=2*n by lia,kP _ hi];rfl
 unfold aw bX at *;rw[hl,h (2*q) (by lia),h (2*q+1) (by lia)]
 show [_,_]=_;have e:List.range 2=[0,1]:=rfl
 simp only
 rw[g 0 (by decide),g 1 (by decide),g 2 (by decide),g 3 (by decide)]
 rw[show 2*(2*q)=4*q+0 by lia,show 4*q+0+1=4*q+1 by lia,show 2*(2*q+1)=4*q+2 by lia,show 4*q+2+1=4*q+3 by lia]
theorem Gs(n:Nat)(ws y:List Int)(zs:List (List Int))(hw:ws.length=n)(hz:∀ z∈zs,z.length=4*n)(h0:0<zs.length) :
  eE [ws] [y] zs=[(List.range n).map fun q=>((eE [[ws.getD q 0]] [y] (kT zs q)).headD []).headD 0]:=by
 have hd:(zs.headD []).length=4*n:=by
  cases zs with
  | nil=>simp at h0
  | cons z zs=>exact hz z mem_cons_self
 unfold eE;dsimp only;rw[hd,Nat.mul_div_cancel_left n (by decide)]
 simp only[zip_cons_cons,zip_nil_left,map_cons,map_nil]
 congr 1
 rw[rS 0 ws n _ hw,map_map];apply map_congr_left;intro q hq;have hq:q<n:=mem_range.mp hq;have e:((kT zs q).headD []).length / 4=1:=by
  unfold kT;rw[qm _ _ (by simp),length_take,length_drop,hd];lia
 rw[e];simp only[range_one,map_cons,map_nil,zip_cons_cons,zip_nil_left,headD_cons,Function.comp];have s:(kT zs q).map aw=zs.map fun z=>[(aw z).getD (2*q) 0,(aw z).getD (2*q+1) 0]:=by
  unfold kT;rw[map_map];apply map_congr_left;intro z hm;exact zm z n q (hz z hm) hq
 rw[s,map_map,map_map,map_map,map_map];rfl
theorem IW(kind n:Nat)(ws y:List Int)(zs:List (List Int))(hw:ws.length=n)(hz:∀ z∈zs,z.length=4*n)(h0:0<zs.length) :
  ik kind [ws] [y] zs=[(List.range n).map fun q=>((ik kind [[ws.getD q 0]] [y] (kT zs q)).headD []).headD 0]:=by
 unfold ik
 by_cases h:kind=4
 ·simp only[if_pos h];exact Gs n ws y zs hw hz h0
 ·simp only[if_neg h];exact He kind n ws y zs hw hz h0
end QM
set_option exponentiation.threshold 1024
namespace QM
open Qw
theorem jq(xw ys zs:List (List Int)):bH xw ys zs=true↔(∀ y∈ys,cz y=true)∧(∀ z∈zs,cz z=true)∧∀ ws∈xw,∀ w∈ws,bC w=true:=by
 unfold bH
 by_cases h:(ys++zs).all cz=false
 ·rw[if_pos h];refine⟨fun z=>absurd z (by decide),fun⟨h1,h2,_⟩=>?_⟩
  have:(ys++zs).all cz=true:=by
   rw[all_eq_true];intro x hx;rcases mem_append.mp hx with hx | hx
   ·exact h1 x hx
   ·exact h2 x hx
  rw[h] at this;cases this
 ·rw[if_neg h];have h':(ys++zs).all cz=true:=by simpa using h
  rw[all_eq_true] at h';rw[all_eq_true];refine⟨fun k=>⟨fun y hy=>h' y (mem_append_left _ hy),fun z hz=>h' z (mem_append_right _ hz),fun ws hw w hm=>(all_eq_true.1 (k ws hw)) w hm⟩,fun k ws hw=>all_eq_true.2 (k.2.2 ws hw)⟩
theorem qQ(z:List Int):cz z=true↔∀ i,i<z.length / 2→fv (z.getD (2*i) 0+z.getD (2*i+1) 0*2 ^ 8)=true:=by
 unfold cz bX;rw[all_map,all_eq_true]
 exact⟨fun h i hi=>h i (mem_range.mpr hi),fun h i hi=>h i (mem_range.mp hi)⟩
theorem pW(z:List Int)(n:Nat)(hz:z.length=4*n):cz z=true↔∀ q,q<n→cz ((z.drop (4*q)).take 4)=true:=by
 have g:∀ q i,i<4→((z.drop (4*q)).take 4).getD i 0=z.getD (4*q+i) 0:=fun q i hi=>by
  rw[getD_eq_getElem?_getD,getD_eq_getElem?_getD,getElem?_take,if_pos hi,getElem?_drop]
 rw[qQ]
 constructor
 ·intro h q hq;rw[qQ];intro i hi;have hl:((z.drop (4*q)).take 4).length=4:=by rw[length_take,length_drop];lia
  rw[hl] at hi
  have:=h (2*q+i) (by lia)
  rw[g q _ (by lia),g q _ (by lia)]
  rw[show 2*(2*q+i)=4*q+2*i by lia,show 4*q+2*i+1=4*q+(2*i+1) by lia] at this
  exact this
 ·intro h i hi;have hq:i / 2<n:=by lia
  have:=(qQ _).1 (h (i / 2) hq)
  have hl:((z.drop (4*(i / 2))).take 4).length=4:=by rw[length_take,length_drop];lia
  rw[hl] at this;have k:=this (i % 2) (by lia)
  rw[g _ _ (by lia),g _ _ (by lia)] at k
  rw[show 2*i=4*(i / 2)+2*(i % 2) by lia,show 4*(i / 2)+2*(i % 2)+1=4*(i / 2)+(2*(i % 2)+1) by lia]
  exact k
theorem sC(n:Nat)(hn:0<n)(ws y:List Int)(zs:List (List Int))(hw:ws.length=n)(hz:∀ z∈zs,z.length=4*n) :
  bH [ws] [y] zs=true↔∀ q,q<n→bH [[ws.getD q 0]] [y] (kT zs q)=true:=by
 have mw:∀ q,q<n→ws.getD q 0∈ws:=fun q hq=>by
  rw[getD_eq_getElem?_getD,getElem?_eq_getElem (by lia)];exact getElem_mem _
 constructor
 ·intro h q hq;obtain⟨h1,h2,h3⟩:=(jq _ _ _).1 h;refine (jq _ _ _).2 ⟨h1,fun z hm=>?_,fun l hl w hm=>?_⟩
  ·obtain⟨z0,hz0,rfl⟩:=mem_map.mp hm;exact (pW z0 n (hz z0 hz0)).1 (h2 z0 hz0) q hq
  ·obtain rfl:=mem_singleton.mp hl;obtain rfl:=mem_singleton.mp hm;exact h3 ws (mem_singleton.mpr rfl) _ (mw q hq)
 ·intro h;have k:=fun q hq=>(jq _ _ _).1 (h q hq)
  refine (jq _ _ _).2 ⟨(k 0 hn).1,fun z hm=>?_,fun l hl w hm=>?_⟩
  ·refine (pW z n (hz z hm)).2 fun q hq=>(k q hq).2.1 _ (mem_map.mpr ⟨z,hm,rfl⟩)
  ·obtain rfl:=mem_singleton.mp hl;obtain⟨q,hq,e⟩:=List.getElem_of_mem hm
   have:=(k q (by lia)).2.2 _ (mem_singleton.mpr rfl) _ (mem_singleton.mpr rfl)
   rw[getD_eq_getElem?_getD,getElem?_eq_getElem hq,e] at this;exact this
def cS(g:Array Nat)(p n:Nat):List Int:=(List.range n).map fun c=>((g.getD (p+c) 0:Nat):Int)
theorem hX(g:Array Nat)(p n:Nat):(cS g p n).length=n:=by simp[cS]
theorem uB(g:Array Nat)(place stride width:Nat)(hw:width≤64):∀ (n:Nat),n≤16→∀ (t:Tile),t=(List.range n).foldl (fun (t:Tile) (i:Nat)=>putRow t i ((List.range width).map fun (c:Nat)=>g.getD (place+i*stride+c) 0)) zeros →
  t.size=1024∧∀ i c,c<64→i<16→at_ t i c=if i<n∧c<width then g.getD (place+i*stride+c) 0 else 0
 | 0,_,t,ht=>by
  rw[List.range_zero,foldl_nil] at ht;subst ht;refine⟨iE,fun i c _ _=>?_⟩
  rw[if_neg (by lia)]
  unfold at_;rw[jV]
 | n+1,hn,t,ht=>by
  obtain⟨h1,h2⟩:=uB g place stride width hw n (by lia) _ rfl
  rw[range_succ,foldl_append,foldl_cons,foldl_nil] at ht;subst ht;refine⟨by rw[sB,h1],fun i c hc hi=>?_⟩
  have h3:=h2 i c hc hi;unfold at_ WIDE at *;rw[kG,h1];simp only[length_map,length_range]
  by_cases e:i=n
  ·subst e
   by_cases hcw:c<width
   ·rw[if_pos (by lia),if_pos (by lia),show 64*i+c - 64*i=c by lia,getD_eq_getElem?_getD,getElem?_map,getElem?_range hcw];rfl
   ·rw[if_neg (by lia),h3,if_neg (by lia),if_neg (by lia)]
  ·rw[if_neg (by lia),h3]
   by_cases h4:i<n∧c<width
   ·rw[if_pos h4,if_pos (by lia)]
   ·rw[if_neg h4,if_neg (by lia)]
theorem rW(g:Array Nat)(place stride rows width:Nat)(hr:rows≤16)(hw:width≤64):aI (spread g place stride rows width) rows width=(List.range rows).map fun k=>cS g (place+k*stride) width:=by
 have h:=(uB g place stride width hw rows hr _ rfl).2;unfold aI cS rowOf nI;apply map_congr_left;intro i hi;rw[map_map];apply map_congr_left;intro c hc;have hi:=mem_range.mp hi;have hc:=mem_range.mp hc
 have:=h i c (by lia) (by lia)
 rw[if_pos ⟨hi,hc⟩] at this;simp only[Function.comp];rw[←this];rfl
theorem uA(g:Array Nat)(hg:∀ p,g.getD p 0<256)(place stride rows width:Nat):lR (spread g place stride rows width):=by
 unfold spread
 suffices h:∀ (l:List Nat) (t:Tile),lR t→lR (l.foldl (fun (t:Tile) (i:Nat)=>putRow t i ((List.range width).map fun (c:Nat)=>g.getD (place+i*stride+c) 0)) t) from h _ _ ny
 intro l
 induction l with
 | nil=>exact fun t h=>h
 | cons i l ih =>
  intro t h;exact ih _ (u0 h fun b hb=>by obtain⟨c,_,rfl⟩:=mem_map.mp hb;exact hg _)
end QM
set_option exponentiation.threshold 1024
namespace QM
open Qw
def fm(j:Job)(g:Array Nat)(i:Nat):Nat→Option (List Int)
 | 0=>some (bI (cS g (j.c+i*j.cs) (4*j.n)))
 | b+1=>match fm j g i b with
  | none=>none
  | some ws=>fw j.kind ws (cS g (j.a+i*j.as_+64*b) (4*min 16 (j.rows - 16*b))) ((List.range (min 16 (j.rows - 16*b))).map fun k=>cS g (j.b+(16*b+k)*j.bs) (4*j.n))
theorem CU(g:Array Nat)(p n q:Nat)(h:q<n):((cS g p (4*n)).drop (4*q)).take 4=cS g (p+4*q) 4:=by
 unfold cS;rw[←map_drop,←map_take];apply ext_getElem
 ·simp;lia
 intro i h1 h2;have hi:i<4:=by simpa using h2
 simp only[getElem_map,getElem_take,getElem_drop,getElem_range];rw[Nat.add_assoc]
theorem Gz(l:List Nat)(h:∀ x∈l,x<256):numOf l<256 ^ l.length:=by
 induction l with
 | nil=>simp[numOf]
 | cons b l ih =>
  have h1:=h b mem_cons_self;have h2:=ih fun x hx=>h x (mem_cons_of_mem _ hx)
  unfold numOf;rw[length_cons,Nat.pow_succ];lia
theorem B2(g:Array Nat)(p n:Nat):bI (cS g p (4*n))=(List.range n).map fun q=>((numOf ((List.range 4).map fun (c:Nat)=>g.getD (p+4*q+c) 0):Nat):Int):=by
 unfold bI;rw[hX,Nat.mul_div_cancel_left n (by decide)]
 apply map_congr_left;intro q hq;have hq:q<n:=mem_range.mp hq;have e:∀ c,c<4→(cS g p (4*n)).getD (4*q+c) 0=((g.getD (p+4*q+c) 0:Nat):Int):=fun c hc=>by
  unfold cS;rw[kP _ (by lia),Nat.add_assoc]
 have e0:=e 0 (by decide)
 rw[Nat.add_zero] at e0;rw[e0,e 1 (by decide),e 2 (by decide),e 3 (by decide)]
 have r:List.range 4=[0,1,2,3]:=rfl;rw[r];simp only[map_cons,map_nil,numOf,Nat.add_zero,Nat.mul_zero];lia
theorem yc:∀ (l:List Nat),(∀ q∈l,f q=some (x q))→l.mapM f=some (l.map x)
 | [],_=>rfl
 | q::l,h=>by
  rw[mapM_cons,h q mem_cons_self,yc l fun y hy=>h y (mem_cons_of_mem _ hy)];rfl
theorem yd:∀ (l:List Nat) (q:Nat),q∈l→f q=none→l.mapM f=none
 | [],q,h,_=>by cases h
 | p::l,q,h,e=>by
  rw[mapM_cons];rcases mem_cons.mp h with rfl | h
  ·rw[e];rfl
  ·rw[yd l q h e]
   cases f p<;>rfl
theorem Iq(kind:Nat)(hk:kind≤4)(g:Array Nat)(hg:∀ p,g.getD p 0<256)(x:Nat)(hx:x<2 ^ 32)(pa pb bs rows:Nat)(h1:1≤rows)(h2:rows≤16) :
  (bH [[(x:Int)]] [cS g pa (4*rows)] ((List.range rows).map fun k=>cS g (pb+k*bs) 4)=rowRight 4 (lanes [x]) (spread g pa 0 1 (4*rows)) (spread g pb bs rows 4) rows 0 1) ∧
  (rowRight kind (lanes [x]) (spread g pa 0 1 (4*rows)) (spread g pb bs rows 4) rows 0 1=true →
   ((ik kind [[(x:Int)]] [cS g pa (4*rows)] ((List.range rows).map fun k=>cS g (pb+k*bs) 4)).headD []).headD 0=((dotted kind x (spread g pa 0 1 (4*rows)) (spread g pb bs rows 4) rows 0 0:Nat):Int) ∧
   dotted kind x (spread g pa 0 1 (4*rows)) (spread g pb bs rows 4) rows 0 0<2 ^ 32):=by
 have ex:=sN [x] (by show 1≤16;decide) (fun y hy=>by rw[mem_singleton.mp hy];exact hx)
 have ex:(aI (lanes [x]) 1 (4*1)).map bI=[[(x:Int)]]:=ex;have ey:=rW g pa 0 1 (4*rows) (by decide) (by lia)
 have ey:aI (spread g pa 0 1 (4*rows)) 1 (4*rows)=[cS g pa (4*rows)]:=by
  rw[ey];simp only[range_one,map_cons,map_nil,Nat.mul_zero,Nat.add_zero]
 have ez:=rW g pb bs rows 4 h2 (by decide)
 have bx:=yh [x];have by':=uA g hg pa 0 1 (4*rows)
 have bz:=uA g hg pb bs rows 4;have hw:wordIn (lanes [x]) 0 0=x:=o0 [x] (by show 1≤16;decide) 0 (by show 0<1;decide) hx
 have er:∀ kd,dotRight kd (lanes [x]) (spread g pa 0 1 (4*rows)) (spread g pb bs rows 4) 1 1 rows=rowRight kd (lanes [x]) (spread g pa 0 1 (4*rows)) (spread g pb bs rows 4) rows 0 1:=fun kd=>by
  unfold dotRight;simp only[range_one,all_cons,List.all_nil,Bool.and_true]
 generalize spread g pa 0 1 (4*rows)=Y at *;generalize spread g pb bs rows 4=Z at *;rw[←ex,←ey,←ez];refine⟨?_,fun hr=>?_⟩
 ·have:=kI (lanes [x]) Y Z bx by' bz 1 1 rows (by decide)
  rw[Nat.mul_one] at this;rw[Nat.mul_one,this,er]
 ·have hd:=Df kind hk (lanes [x]) Y Z bx by' bz 1 1 rows h1 (by rw[er];exact hr)
  rw[Nat.mul_one] at hd;rw[Nat.mul_one,hd];simp only[range_one,map_cons,map_nil,headD_cons,hw];refine⟨trivial,yr kind hk Y Z by' bz x rows 0 0 hx h2 fun e=>?_⟩
  subst e;unfold rowRight at hr;simp only[bne_self_eq_false,Bool.false_or,Bool.and_eq_true,all_eq_true,mem_range] at hr;obtain⟨r1,r2,r3⟩:=hr;refine⟨?_,fun k q hk hq=>⟨r2 _ (by lia),r3 k hk _ (by lia)⟩⟩
  have:=r1 0 (by decide)
  rw[hw] at this;exact this
theorem ub(j:Job)(hk:j.kind≤4)(hn:0<j.n)(g:Array Nat)(hg:∀ p,g.getD p 0<256)(i:Nat):∀ b,b≤j.blocks →
  (fm j g i b=none∧∃ q,q<j.n∧Qw.product j g i q b=none) ∨
  (∃ x:Nat→Nat,fm j g i b=some ((List.range j.n).map fun q=>((x q:Nat):Int))∧∀ q,q<j.n→Qw.product j g i q b=some (x q)∧x q<2 ^ 32)
 | 0,_=>.inr ⟨fun q=>numOf ((List.range 4).map fun (c:Nat)=>g.getD (j.c+i*j.cs+4*q+c) 0),by unfold fm;rw[B2],fun q hq=>⟨rfl,by
   have:=Gz ((List.range 4).map fun (c:Nat)=>g.getD (j.c+i*j.cs+4*q+c) 0) (fun x hx=>by obtain⟨c,_,rfl⟩:=mem_map.mp hx;exact hg _)
   simpa using this⟩⟩
 | b+1,hb=>by
  rcases ub j hk hn g hg i b (by lia) with ⟨h1,q,hq,h2⟩ | ⟨x,h1,h2⟩
  ·exact .inl ⟨by unfold fm;rw[h1],q,hq,by unfold Qw.product;rw[h2]⟩
  ·have hrow:1≤min 16 (j.rows - 16*b):=by unfold Job.blocks at hb;lia
   have hrow2:min 16 (j.rows - 16*b)≤16:=Nat.min_le_left _ _;have ep:fm j g i (b+1)=fw j.kind ((List.range j.n).map fun q=>((x q:Nat):Int)) (cS g (j.a+i*j.as_+64*b) (4*min 16 (j.rows - 16*b))) ((List.range (min 16 (j.rows - 16*b))).map fun k=>cS g (j.b+(16*b+k)*j.bs) (4*j.n)):=by
    rw[fm,h1]
   have eq:∀ q,q<j.n→Qw.product j g i q (b+1)=if rowRight j.kind (lanes [x q]) (spread g (j.a+i*j.as_+64*b) 0 1 (4*min 16 (j.rows - 16*b))) (spread g (j.b+16*b*j.bs+4*q) j.bs (min 16 (j.rows - 16*b)) 4) (min 16 (j.rows - 16*b)) 0 1=true then some (dotted j.kind (x q) (spread g (j.a+i*j.as_+64*b) 0 1 (4*min 16 (j.rows - 16*b))) (spread g (j.b+16*b*j.bs+4*q) j.bs (min 16 (j.rows - 16*b)) 4) (min 16 (j.rows - 16*b)) 0 0) else none:=fun q hq=>by
    rw[Qw.product,(h2 q hq).1]
   generalize min 16 (j.rows - 16*b)=rows at *;have col:=fun q hq=>Iq j.kind hk g hg (x q) (h2 q hq).2 (j.a+i*j.as_+64*b) (j.b+16*b*j.bs+4*q) j.bs rows hrow hrow2
   have ez:∀ q,q<j.n→kT ((List.range rows).map fun k=>cS g (j.b+(16*b+k)*j.bs) (4*j.n)) q=(List.range rows).map fun k=>cS g (j.b+16*b*j.bs+4*q+k*j.bs) 4:=fun q hq=>by
    unfold kT;rw[map_map];apply map_congr_left;intro k _;simp only[Function.comp];rw[CU g _ _ q hq]
    congr 1
    rw[Nat.add_mul];lia
   have hws:((List.range j.n).map fun q=>((x q:Nat):Int)).length=j.n:=by simp
   have hgd:∀ q,q<j.n→((List.range j.n).map fun q=>((x q:Nat):Int)).getD q 0=((x q:Nat):Int):=fun q hq=>kP _ hq
   have hzl:∀ z∈((List.range rows).map fun k=>cS g (j.b+(16*b+k)*j.bs) (4*j.n)),z.length=4*j.n:=fun z hz=>by
    obtain⟨k,_,rfl⟩:=mem_map.mp hz;exact hX _ _ _
   have hz0:0<((List.range rows).map fun k=>cS g (j.b+(16*b+k)*j.bs) (4*j.n)).length:=by simp;lia
   by_cases hr:∀ q,q<j.n→rowRight j.kind (lanes [x q]) (spread g (j.a+i*j.as_+64*b) 0 1 (4*rows)) (spread g (j.b+16*b*j.bs+4*q) j.bs rows 4) rows 0 1=true
   ·refine .inr ⟨fun q=>dotted j.kind (x q) (spread g (j.a+i*j.as_+64*b) 0 1 (4*rows)) (spread g (j.b+16*b*j.bs+4*q) j.bs rows 4) rows 0 0,?_,fun q hq=>⟨by rw[eq q hq,if_pos (hr q hq)],((col q hq).2 (hr q hq)).2⟩⟩
    rw[ep];unfold fw;rw[if_neg,IW j.kind j.n _ _ _ hws hzl hz0]
    ·simp only[headD_cons]
     congr 1
     apply map_congr_left;intro q hq;have hq:=mem_range.mp hq;rw[hgd q hq,ez q hq];exact ((col q hq).2 (hr q hq)).1
    ·rintro⟨e4,ef⟩
     have:bH [(List.range j.n).map fun q=>((x q:Nat):Int)] [cS g (j.a+i*j.as_+64*b) (4*rows)] ((List.range rows).map fun k=>cS g (j.b+(16*b+k)*j.bs) (4*j.n))=true :=
      (sC j.n hn _ _ _ hws hzl).2 fun q hq=>by
       rw[hgd q hq,ez q hq,(col q hq).1]
       have:=hr q hq
       rw[e4] at this;exact this
     rw[this] at ef;cases ef
   ·have:∃ q,q<j.n∧rowRight j.kind (lanes [x q]) (spread g (j.a+i*j.as_+64*b) 0 1 (4*rows)) (spread g (j.b+16*b*j.bs+4*q) j.bs rows 4) rows 0 1=false:=by
     rcases Classical.em (∃ q,q<j.n∧rowRight j.kind (lanes [x q]) (spread g (j.a+i*j.as_+64*b) 0 1 (4*rows)) (spread g (j.b+16*b*j.bs+4*q) j.bs rows 4) rows 0 1=false) with h | h
     ·exact h
     ·refine absurd (fun q hq=>?_) hr
      cases e:rowRight j.kind (lanes [x q]) (spread g (j.a+i*j.as_+64*b) 0 1 (4*rows)) (spread g (j.b+16*b*j.bs+4*q) j.bs rows 4) rows 0 1 with
      | true=>rfl
      | false=>exact absurd ⟨q,hq,e⟩ h
    obtain⟨q,hq,hf⟩:=this;have e4:j.kind=4:=by
     rcases Nat.eq_or_lt_of_le hk with e | e
     ·exact e
     ·unfold rowRight at hf
      have:(j.kind != 4)=true:=by simp;lia
      rw[this,Bool.true_or] at hf;cases hf
    refine .inl ⟨?_,q,hq,by rw[eq q hq,if_neg (by rw[hf];decide)]⟩
    rw[ep];unfold fw;refine if_pos ⟨e4,?_⟩
    cases e:bH [(List.range j.n).map fun q=>((x q:Nat):Int)] [cS g (j.a+i*j.as_+64*b) (4*rows)] ((List.range rows).map fun k=>cS g (j.b+(16*b+k)*j.bs) (4*j.n)) with
    | false=>rfl
    | true =>
     have:=(sC j.n hn _ _ _ hws hzl).1 e q hq
     rw[hgd q hq,ez q hq,(col q hq).1] at this;rw[e4] at hf;rw[hf] at this;cases this
theorem Cy(j:Job)(hk:j.kind≤4)(hn:0<j.n)(g:Array Nat)(hg:∀ p,g.getD p 0<256)(i:Nat) :
  fm j g i j.blocks=((List.range j.n).mapM fun (q:Nat)=>Qw.product j g i q j.blocks).map nI:=by
 rcases ub j hk hn g hg i j.blocks (Nat.le_refl _) with ⟨h1,q,hq,h2⟩ | ⟨x,h1,h2⟩
 ·rw[h1,yd _ q (mem_range.mpr hq) h2];rfl
 ·rw[h1,yc (x:=x) _ fun q hq=>(h2 q (mem_range.mp hq)).1]
  simp only[Option.map_some,nI,map_map];rfl
end QM
namespace QM
open Qw
def jd(j:Job):Nat:=j.k / groupOf j.kind
theorem nR(j:Job):j.rows=jd j:=by
 unfold Job.rows Job.aRow jd groupOf
 by_cases h:j.kind=4
 ·rw[if_pos h,if_pos h];lia
 ·rw[if_neg h,if_neg h]
theorem Jh(j:Job)(h:j.k % groupOf j.kind=0):j.aRow=4*jd j:=by
 unfold Job.aRow jd groupOf at *
 by_cases e:j.kind=4
 ·rw[if_pos e] at *;rw[if_pos e];lia
 ·rw[if_neg e] at *;rw[if_neg e];lia
structure dJ(j:Job):Prop where
 kd:j.kind≤4
 kg:j.k % groupOf j.kind=0
 m1:1≤j.m
 m2:j.m≤64
 n1:1≤j.n
 n2:j.n≤64
 k1:1≤j.k
 k2:j.k≤256
theorem dJ.d1(h:dJ j):1≤jd j:=by
 have h1:=h.kg;have h2:=h.k1;unfold jd;unfold groupOf at *
 split at h1<;>(split<;>lia)
theorem dJ.d2(h:dJ j):jd j≤128:=by
 have h2:=h.k2;unfold jd groupOf
 split<;>lia
def fh(p s h w:Nat):Nat:=p+(h - 1)*s+w
structure BQ(j:Job):Prop where
 a:fh j.a j.as_ j.m (4*jd j)≤16384
 b:fh j.b j.bs (jd j) (4*j.n)≤16384
 c:fh j.c j.cs j.m (4*j.n)≤16384
 s:j.m=1∨4*j.n≤j.cs
 ca:¬ (j.c<fh j.a j.as_ j.m (4*jd j)∧j.a<fh j.c j.cs j.m (4*j.n))
 cb:¬ (j.c<fh j.b j.bs (jd j) (4*j.n)∧j.b<fh j.c j.cs j.m (4*j.n))
theorem ok_iff(j:Job):j.ok=true↔dJ j∧BQ j:=by
 have key:∀ (h:dJ j),(j.aEnd=fh j.a j.as_ j.m (4*jd j)∧j.bEnd=fh j.b j.bs (jd j) (4*j.n)∧j.cEnd=fh j.c j.cs j.m (4*j.n)):=fun h=>by
  unfold Job.aEnd Job.bEnd Job.cEnd fh;rw[Jh j h.kg,nR]
  exact⟨rfl,rfl,rfl⟩
 have eg:(if j.kind=4 then 2 else 4)=groupOf j.kind:=rfl
 unfold Job.ok apart MOST DEEP GROUND;simp only[Bool.and_eq_true,decide_eq_true_eq,beq_iff_eq,Bool.or_eq_true,eg]
 constructor
 ·rintro⟨h1,h2,h3,h4,h5,h6,h7,h8,h9,h10,h11,h12,h13,h14⟩
  have hs:dJ j:=⟨h1,h8,h2,h3,h4,h5,h6,h7⟩;obtain⟨e1,e2,e3⟩:=key hs;rw[e1] at h9 h13;rw[e2] at h10 h14;rw[e3] at h11 h13 h14
  exact⟨hs,⟨h9,h10,h11,h12,by lia,by lia⟩⟩
 ·rintro⟨hs,hl⟩
  obtain⟨e1,e2,e3⟩:=key hs;rw[e1,e2,e3]
  have:=hl.ca
  have:=hl.cb
  exact⟨hs.kd,hs.m1,hs.m2,hs.n1,hs.n2,hs.k1,hs.k2,hs.kg,hl.a,hl.b,hl.c,hl.s,by lia,by lia⟩
def tL(l:List Nat):Job:=⟨l.getD 0 0,l.getD 1 0,l.getD 2 0,l.getD 3 0,l.getD 4 0,l.getD 5 0,l.getD 6 0,l.getD 7 0,l.getD 8 0,l.getD 9 0⟩
theorem vC(l:List Nat)(h:l.length≠10):Quilt.jobOf l=none:=by
 unfold Quilt.jobOf
 split
 ·exact absurd rfl h
 ·rfl
theorem vD(l:List Nat)(h:l.length=10):Quilt.jobOf l=if (tL l).ok=true then some (tL l) else none:=by
 match l,h with
 | [a0,a1,a2,a3,a4,a5,a6,a7,a8,a9],_=>rfl
def bJ(j:Job):List ((Nat×Nat)×(Nat×Nat)):=(sixteens j.m).flatMap fun (y:Nat×Nat)=>(sixteens j.n).map fun (x:Nat×Nat)=>(y,x)
theorem ue(j:Job):j.plan=⟨(([⟨11,1,0,0,j.as_⟩,⟨11,2,0,0,j.bs⟩,⟨11,3,0,0,j.cs⟩]:List Step)++(((bJ j).zipIdx.flatMap fun (z:((Nat×Nat)×(Nat×Nat))×Nat)=>j.block z.1.1.1 z.1.2.1 z.2)++([⟨0,0,0,0,0⟩]:List Step))).toArray,(bJ j).map fun (z:(Nat×Nat)×(Nat×Nat))=>j.shape z.1.2 z.2.2⟩:=rfl
end QM
namespace QM
open Qw
def bV(s:Step):Prop:=6≤s.kind∧s.kind≤10
def aH(s:Step):Prop:=s.kind=4∨s.kind=5
def bm(pr:Program)(s:Step):Prop:=(14<s.kind∨7<s.x∨7<s.y∨7<s.z)∨(s.kind=1∧pr.shapes.length≤s.v)
open Classical in
noncomputable def pyFaultS (d:Bool) (m:Mach) (pr:Program) (s:Step):Nat :=
 if bm pr s then 1 else if s.kind=1∧∀ a,pr.shapes[s.v]?=some a→a.ok=false then 2
 else if (s.kind=3∨aH s)∧m.there s.x=false then 3
 else if bV s then (if m.fits s.x s.y s.z=false then 3 else if d=false∧dotRight (s.kind - 6) (m.tile s.x) (m.tile s.y) (m.tile s.z) (m.height s.x) (m.width s.x / 4) (m.height s.z)=false then 5 else 0)
 else 0
def jt(d:Bool)(m:Mach)(s:Step):Mach:=if d=true then (m.atRow 0).next else ((m.setTile s.x (dot (s.kind - 6) (m.tile s.x) (m.tile s.y) (m.tile s.z) (m.height s.x) (m.width s.x / 4) (m.height s.z))).atRow 0).next
def dR(d:Bool)(m:Mach)(pr:Program)(s:Step):Mach :=
 if s.kind=1 then (m.shaped (pr.shapes.getD s.v noShape)).next
 else if s.kind=2 then (m.shaped noShape).next
 else if s.kind=3 then ((m.setTile s.x zeros).atRow 0).next
 else if s.kind=11 then (m.setNum s.x s.v).next
 else if s.kind=12 then (m.setNum s.x (m.num s.x+s.v)).next
 else if s.kind=13 then (m.setNum s.x (m.num s.y+s.v)).next
 else if s.kind=14 then (if (m.num s.x+W64 - 1) % W64=0 then (m.setNum s.x 0).next else { m.setNum s.x ((m.num s.x+W64 - 1) % W64) with step:=s.v })
 else jt d m s
theorem EX(hp:m.prog=some pr)(h:pr.steps[m.step]?=none):look d m=.fault 1:=by
 unfold look;rw[hp];dsimp only;rw[h];rfl
theorem ki(hp:m.prog=some pr)(h:pr.steps[m.step]?=some s):look d m=stepOf m d pr s:=by
 unfold look;rw[hp];dsimp only;rw[h]
section
variable{d:Bool}{m:Mach}{pr:Program}{x y z v:Nat}(hx:x≤7)(hy:y≤7)(hz:z≤7)
include hx hy hz
theorem OZ:stepOf m d pr ⟨0,x,y,z,v⟩=.done:=by
 unfold stepOf;exact if_neg (show ¬ (14<0∨7<x∨7<y∨7<z) by lia)
theorem FH:stepOf m d pr ⟨2,x,y,z,v⟩=.act (m.shaped noShape).next:=by
 unfold stepOf;exact if_neg (show ¬ (14<2∨7<x∨7<y∨7<z) by lia)
theorem FV:stepOf m d pr ⟨3,x,y,z,v⟩=(if m.there x=false then .fault NOTILE else .act ((m.setTile x zeros).atRow 0).next):=by
 unfold stepOf;exact if_neg (show ¬ (14<3∨7<x∨7<y∨7<z) by lia)
theorem FG:stepOf m d pr ⟨4,x,y,z,v⟩=rowStep m false ⟨4,x,y,z,v⟩:=by
 unfold stepOf;exact if_neg (show ¬ (14<4∨7<x∨7<y∨7<z) by lia)
theorem FF:stepOf m d pr ⟨5,x,y,z,v⟩=rowStep m true ⟨5,x,y,z,v⟩:=by
 unfold stepOf;exact if_neg (show ¬ (14<5∨7<x∨7<y∨7<z) by lia)
theorem N4:stepOf m d pr ⟨11,x,y,z,v⟩=.act (m.setNum x v).next:=by
 unfold stepOf;exact if_neg (show ¬ (14<11∨7<x∨7<y∨7<z) by lia)
theorem N3:stepOf m d pr ⟨12,x,y,z,v⟩=.act (m.setNum x (m.num x+v)).next:=by
 unfold stepOf;exact if_neg (show ¬ (14<12∨7<x∨7<y∨7<z) by lia)
theorem N2:stepOf m d pr ⟨13,x,y,z,v⟩=.act (m.setNum x (m.num y+v)).next:=by
 unfold stepOf;exact if_neg (show ¬ (14<13∨7<x∨7<y∨7<z) by lia)
theorem N1:stepOf m d pr ⟨14,x,y,z,v⟩=(if (m.num x+W64 - 1) % W64=0 then .act (m.setNum x 0).next else .act { m.setNum x ((m.num x+W64 - 1) % W64) with step:=v }):=by
 unfold stepOf;rw[if_neg (show ¬ (14<14∨7<x∨7<y∨7<z) by lia)]
 simp only
theorem HA:stepOf m d pr ⟨1,x,y,z,v⟩=(match pr.shapes[v]? with | none=>.fault NOSTEP | some a=>if a.ok=false then .fault NOSHAPE else .act (m.shaped a).next):=by
 unfold stepOf;exact if_neg (show ¬ (14<1∨7<x∨7<y∨7<z) by lia)
theorem EC:stepOf m d pr ⟨6,x,y,z,v⟩=dotStep m d (6 - 6) ⟨6,x,y,z,v⟩:=by
 unfold stepOf;exact if_neg (show ¬ (14<6∨7<x∨7<y∨7<z) by lia)
theorem FE:stepOf m d pr ⟨7,x,y,z,v⟩=dotStep m d (7 - 6) ⟨7,x,y,z,v⟩:=by
 unfold stepOf;exact if_neg (show ¬ (14<7∨7<x∨7<y∨7<z) by lia)
theorem NK:stepOf m d pr ⟨8,x,y,z,v⟩=dotStep m d (8 - 6) ⟨8,x,y,z,v⟩:=by
 unfold stepOf;exact if_neg (show ¬ (14<8∨7<x∨7<y∨7<z) by lia)
theorem L6:stepOf m d pr ⟨9,x,y,z,v⟩=dotStep m d (9 - 6) ⟨9,x,y,z,v⟩:=by
 unfold stepOf;exact if_neg (show ¬ (14<9∨7<x∨7<y∨7<z) by lia)
theorem N5:stepOf m d pr ⟨10,x,y,z,v⟩=dotStep m d (10 - 6) ⟨10,x,y,z,v⟩:=by
 unfold stepOf;exact if_neg (show ¬ (14<10∨7<x∨7<y∨7<z) by lia)
end
theorem KM(d:Bool)(m:Mach)(pr:Program)(x y z v:Nat):dR d m pr ⟨14,x,y,z,v⟩=(if (m.num x+W64 - 1) % W64=0 then (m.setNum x 0).next else { m.setNum x ((m.num x+W64 - 1) % W64) with step:=v }):=by
 unfold dR;rw[if_neg (show ¬ (14:Nat)=1 by decide),if_neg (show ¬ (14:Nat)=2 by decide),if_neg (show ¬ (14:Nat)=3 by decide),if_neg (show ¬ (14:Nat)=11 by decide),if_neg (show ¬ (14:Nat)=12 by decide),if_neg (show ¬ (14:Nat)=13 by decide),if_pos (show (14:Nat)=14 from rfl)]
theorem cw(d:Bool)(m:Mach)(pr:Program)(s:Step) :
  (pyFaultS d m pr s≠0→stepOf m d pr s=.fault (pyFaultS d m pr s)) ∧
  (pyFaultS d m pr s=0→(s.kind≤14∧s.x≤7∧s.y≤7∧s.z≤7)∧(s.kind=0→stepOf m d pr s=.done)∧(aH s→m.there s.x=true∧stepOf m d pr s=rowStep m (decide (s.kind=5)) s) ∧
   (s.kind≠0→¬ aH s→stepOf m d pr s=.act (dR d m pr s)∧(s.kind=1→∃ a,pr.shapes[s.v]?=some a∧a.ok=true)∧(s.kind=3→m.there s.x=true) ∧
    (bV s→m.fits s.x s.y s.z=true∧(d=false→dotRight (s.kind - 6) (m.tile s.x) (m.tile s.y) (m.tile s.z) (m.height s.x) (m.width s.x / 4) (m.height s.z)=true)))):=by
 by_cases hb:14<s.kind∨7<s.x∨7<s.y∨7<s.z
 ·have e:pyFaultS d m pr s=1:=by unfold pyFaultS bm;rw[if_pos (.inl hb)]
  have e2:stepOf m d pr s=.fault 1:=by unfold stepOf;rw[if_pos hb];rfl
  rw[e,e2]
  exact⟨fun _=>rfl,fun z=>absurd z (by decide)⟩
 ·obtain⟨kind,x,y,z,v⟩:=s;have hk:kind≤14:=by have:¬ 14<kind:=fun q=>hb (.inl q);lia
  have hx:x≤7:=by have:¬ 7<x:=fun q=>hb (.inr (.inl q));lia
  have hy:y≤7:=by have:¬ 7<y:=fun q=>hb (.inr (.inr (.inl q)));lia
  have hz:z≤7:=by have:¬ 7<z:=fun q=>hb (.inr (.inr (.inr q)));lia
  have hd:6≤kind→kind≤10→stepOf m d pr ⟨kind,x,y,z,v⟩=dotStep m d (kind - 6) ⟨kind,x,y,z,v⟩:=fun h1 h2=>by
   have:kind=6∨kind=7∨kind=8∨kind=9∨kind=10:=by lia
   rcases this with rfl | rfl | rfl | rfl | rfl<;>first | exact EC hx hy hz | exact FE hx hy hz | exact NK hx hy hz | exact L6 hx hy hz | exact N5 hx hy hz
  by_cases hdot:6≤kind∧kind≤10
  ·have hd:=hd hdot.1 hdot.2;have ef:pyFaultS d m pr ⟨kind,x,y,z,v⟩=(if m.fits x y z=false then 3 else if d=false∧dotRight (kind - 6) (m.tile x) (m.tile y) (m.tile z) (m.height x) (m.width x / 4) (m.height z)=false then 5 else 0):=by
    unfold pyFaultS bm aH bV;dsimp only;rw[if_neg (by lia),if_neg (by lia),if_neg (by lia),if_pos hdot]
   have ed:dR d m pr ⟨kind,x,y,z,v⟩=jt d m ⟨kind,x,y,z,v⟩:=by
    unfold dR;dsimp only;rw[if_neg (by lia),if_neg (by lia),if_neg (by lia),if_neg (by lia),if_neg (by lia),if_neg (by lia),if_neg (by lia)]
   rw[hd,ef];unfold dotStep;dsimp only
   by_cases h1:m.fits x y z=false
   ·rw[if_pos h1,if_pos h1]
    exact⟨fun _=>rfl,fun q=>absurd q (by decide)⟩
   ·rw[if_neg h1,if_neg h1];have h1':m.fits x y z=true:=by simpa using h1
    cases d with
    | true =>
     rw[if_neg (by rintro⟨q,_⟩;cases q),if_pos rfl]
     refine⟨fun q=>absurd rfl q,fun _=>⟨⟨hk,hx,hy,hz⟩,fun q=>?_,fun q=>?_,fun _ _=>⟨?_,fun q=>?_,fun q=>?_,fun _=>⟨h1',fun q=>by cases q⟩⟩⟩⟩
     ·have q:kind=0:=q;lia
     ·unfold aH at q;have q:kind=4∨kind=5:=q;lia
     ·rw[ed];rfl
     ·have q:kind=1:=q;lia
     ·have q:kind=3:=q;lia
    | false =>
     by_cases h2:dotRight (kind - 6) (m.tile x) (m.tile y) (m.tile z) (m.height x) (m.width x / 4) (m.height z)=false
     ·rw[if_pos ⟨rfl,h2⟩,if_neg (by decide),if_pos h2]
      exact⟨fun _=>rfl,fun q=>absurd q (by decide)⟩
     ·have h2':dotRight (kind - 6) (m.tile x) (m.tile y) (m.tile z) (m.height x) (m.width x / 4) (m.height z)=true:=by simpa using h2
      rw[if_neg (fun q=>h2 q.2),if_neg (by decide),if_neg h2]
      refine⟨fun q=>absurd rfl q,fun _=>⟨⟨hk,hx,hy,hz⟩,fun q=>?_,fun q=>?_,fun _ _=>⟨?_,fun q=>?_,fun q=>?_,fun _=>⟨h1',fun _=>h2'⟩⟩⟩⟩
      ·have q:kind=0:=q;lia
      ·unfold aH at q;have q:kind=4∨kind=5:=q;lia
      ·rw[ed];rfl
      ·have q:kind=1:=q;lia
      ·have q:kind=3:=q;lia
  ·have nd:¬ bV ⟨kind,x,y,z,v⟩:=hdot
   have:kind=0∨kind=1∨kind=2∨kind=3∨kind=4∨kind=5∨kind=11∨kind=12∨kind=13∨kind=14:=by lia
   rcases this with rfl | rfl | rfl | rfl | rfl | rfl | rfl | rfl | rfl | rfl
   ·have ef:pyFaultS d m pr ⟨0,x,y,z,v⟩=0:=by
     unfold pyFaultS bm aH bV;dsimp only;rw[if_neg (by lia),if_neg (by lia),if_neg (by lia),if_neg (by lia)]
    rw[ef];refine⟨fun q=>absurd rfl q,fun _=>⟨⟨hk,hx,hy,hz⟩,fun _=>OZ hx hy hz,fun q=>?_,fun q=>absurd rfl q⟩⟩
    unfold aH at q;have q:0=4∨0=5:=q;lia
   ·cases hv:pr.shapes[v]? with
    | none =>
     have ef:pyFaultS d m pr ⟨1,x,y,z,v⟩=1:=by
      unfold pyFaultS bm;rw[if_pos (.inr ⟨rfl,List.getElem?_eq_none_iff.mp hv⟩)]
     have e2:stepOf m d pr ⟨1,x,y,z,v⟩=.fault 1:=by rw[HA hx hy hz];rw[hv];rfl
     rw[ef,e2]
     exact⟨fun _=>rfl,fun q=>absurd q (by decide)⟩
    | some a =>
     have hl:v<pr.shapes.length:=(List.getElem?_eq_some_iff.mp hv).1
     by_cases ha:a.ok=false
     ·have ef:pyFaultS d m pr ⟨1,x,y,z,v⟩=2:=by
       unfold pyFaultS bm;dsimp only;rw[if_neg (by lia),if_pos ⟨rfl,fun b hb=>by rw[hv] at hb;rw[←Option.some.inj hb];exact ha⟩]
      have e2:stepOf m d pr ⟨1,x,y,z,v⟩=.fault 2:=by rw[HA hx hy hz];rw[hv];dsimp only;rw[if_pos ha];rfl
      rw[ef,e2]
      exact⟨fun _=>rfl,fun q=>absurd q (by decide)⟩
     ·have ha':a.ok=true:=by simpa using ha
      have ef:pyFaultS d m pr ⟨1,x,y,z,v⟩=0:=by
       unfold pyFaultS bm aH bV;dsimp only;rw[if_neg (by lia),if_neg (fun q=>ha (q.2 a hv)),if_neg (by lia),if_neg (by lia)]
      have e2:stepOf m d pr ⟨1,x,y,z,v⟩=.act (dR d m pr ⟨1,x,y,z,v⟩):=by
       rw[HA hx hy hz];rw[hv];dsimp only;rw[if_neg ha];unfold dR;dsimp only;rw[if_pos rfl,getD_eq_getElem?_getD,hv];rfl
      rw[ef,e2];refine⟨fun q=>absurd rfl q,fun _=>⟨⟨hk,hx,hy,hz⟩,fun q=>absurd q (show ¬ (1:Nat)=0 by decide),fun q=>?_,fun _ _=>⟨rfl,fun _=>⟨a,rfl,ha'⟩,fun q=>absurd q (show ¬ (1:Nat)=3 by decide),fun q=>absurd q nd⟩⟩⟩
      unfold aH at q;have q:1=4∨1=5:=q;lia
   ·have ef:pyFaultS d m pr ⟨2,x,y,z,v⟩=0:=by
     unfold pyFaultS bm aH bV;dsimp only;rw[if_neg (by lia),if_neg (by lia),if_neg (by lia),if_neg (by lia)]
    rw[ef];refine⟨fun q=>absurd rfl q,fun _=>⟨⟨hk,hx,hy,hz⟩,fun q=>absurd q (show ¬ (2:Nat)=0 by decide),fun q=>?_,fun _ _=>⟨(FH hx hy hz).trans rfl,fun q=>absurd q (show ¬ (2:Nat)=1 by decide),fun q=>absurd q (show ¬ (2:Nat)=3 by decide),fun q=>absurd q nd⟩⟩⟩
    unfold aH at q;have q:2=4∨2=5:=q;lia
   ·by_cases ht:m.there x=false
    ·have ef:pyFaultS d m pr ⟨3,x,y,z,v⟩=3:=by
      unfold pyFaultS bm aH bV;dsimp only;rw[if_neg (by lia),if_neg (by lia),if_pos ⟨.inl rfl,ht⟩]
     have e2:stepOf m d pr ⟨3,x,y,z,v⟩=.fault 3:=by rw[FV hx hy hz];rw[if_pos ht];rfl
     rw[ef,e2]
     exact⟨fun _=>rfl,fun q=>absurd q (by decide)⟩
    ·have ht':m.there x=true:=by simpa using ht
     have ef:pyFaultS d m pr ⟨3,x,y,z,v⟩=0:=by
      unfold pyFaultS bm aH bV;dsimp only;rw[if_neg (by lia),if_neg (by lia),if_neg (fun q=>ht q.2),if_neg (by lia)]
     have e2:stepOf m d pr ⟨3,x,y,z,v⟩=.act (dR d m pr ⟨3,x,y,z,v⟩):=by rw[FV hx hy hz];rw[if_neg ht];rfl
     rw[ef,e2];refine⟨fun q=>absurd rfl q,fun _=>⟨⟨hk,hx,hy,hz⟩,fun q=>absurd q (show ¬ (3:Nat)=0 by decide),fun q=>?_,fun _ _=>⟨rfl,fun q=>absurd q (show ¬ (3:Nat)=1 by decide),fun _=>ht',fun q=>absurd q nd⟩⟩⟩
     unfold aH at q;have q:3=4∨3=5:=q;lia
   ·by_cases ht:m.there x=false
    ·have ef:pyFaultS d m pr ⟨4,x,y,z,v⟩=3:=by
      unfold pyFaultS bm aH bV;dsimp only;rw[if_neg (by lia),if_neg (by lia),if_pos ⟨.inr (.inl rfl),ht⟩]
     have e2:stepOf m d pr ⟨4,x,y,z,v⟩=.fault 3:=by rw[FG hx hy hz];unfold rowStep;rw[if_pos ht];rfl
     rw[ef,e2]
     exact⟨fun _=>rfl,fun q=>absurd q (by decide)⟩
    ·have ht':m.there x=true:=by simpa using ht
     have ef:pyFaultS d m pr ⟨4,x,y,z,v⟩=0:=by
      unfold pyFaultS bm aH bV;dsimp only;rw[if_neg (by lia),if_neg (by lia),if_neg (fun q=>ht q.2),if_neg (by lia)]
     have e2:stepOf m d pr ⟨4,x,y,z,v⟩=rowStep m false ⟨4,x,y,z,v⟩:=FG hx hy hz;rw[ef,e2]
     exact⟨fun q=>absurd rfl q,fun _=>⟨⟨hk,hx,hy,hz⟩,fun q=>absurd q (show ¬ (4:Nat)=0 by decide),fun q=>⟨ht',rfl⟩,fun _ q=>absurd (show aH ⟨4,x,y,z,v⟩ from (.inl rfl)) q⟩⟩
   ·by_cases ht:m.there x=false
    ·have ef:pyFaultS d m pr ⟨5,x,y,z,v⟩=3:=by
      unfold pyFaultS bm aH bV;dsimp only;rw[if_neg (by lia),if_neg (by lia),if_pos ⟨.inr (.inr rfl),ht⟩]
     have e2:stepOf m d pr ⟨5,x,y,z,v⟩=.fault 3:=by rw[FF hx hy hz];unfold rowStep;rw[if_pos ht];rfl
     rw[ef,e2]
     exact⟨fun _=>rfl,fun q=>absurd q (by decide)⟩
    ·have ht':m.there x=true:=by simpa using ht
     have ef:pyFaultS d m pr ⟨5,x,y,z,v⟩=0:=by
      unfold pyFaultS bm aH bV;dsimp only;rw[if_neg (by lia),if_neg (by lia),if_neg (fun q=>ht q.2),if_neg (by lia)]
     have e2:stepOf m d pr ⟨5,x,y,z,v⟩=rowStep m true ⟨5,x,y,z,v⟩:=FF hx hy hz;rw[ef,e2]
     exact⟨fun q=>absurd rfl q,fun _=>⟨⟨hk,hx,hy,hz⟩,fun q=>absurd q (show ¬ (5:Nat)=0 by decide),fun q=>⟨ht',rfl⟩,fun _ q=>absurd (show aH ⟨5,x,y,z,v⟩ from (.inr rfl)) q⟩⟩
   ·have ef:pyFaultS d m pr ⟨11,x,y,z,v⟩=0:=by
     unfold pyFaultS bm aH bV;dsimp only;rw[if_neg (by lia),if_neg (by lia),if_neg (by lia),if_neg (by lia)]
    rw[ef];refine⟨fun q=>absurd rfl q,fun _=>⟨⟨hk,hx,hy,hz⟩,fun q=>absurd q (show ¬ (11:Nat)=0 by decide),fun q=>?_,fun _ _=>⟨(N4 hx hy hz).trans rfl,fun q=>absurd q (show ¬ (11:Nat)=1 by decide),fun q=>absurd q (show ¬ (11:Nat)=3 by decide),fun q=>absurd q nd⟩⟩⟩
    unfold aH at q;have q:11=4∨11=5:=q;lia
   ·have ef:pyFaultS d m pr ⟨12,x,y,z,v⟩=0:=by
     unfold pyFaultS bm aH bV;dsimp only;rw[if_neg (by lia),if_neg (by lia),if_neg (by lia),if_neg (by lia)]
    rw[ef];refine⟨fun q=>absurd rfl q,fun _=>⟨⟨hk,hx,hy,hz⟩,fun q=>absurd q (show ¬ (12:Nat)=0 by decide),fun q=>?_,fun _ _=>⟨(N3 hx hy hz).trans rfl,fun q=>absurd q (show ¬ (12:Nat)=1 by decide),fun q=>absurd q (show ¬ (12:Nat)=3 by decide),fun q=>absurd q nd⟩⟩⟩
    unfold aH at q;have q:12=4∨12=5:=q;lia
   ·have ef:pyFaultS d m pr ⟨13,x,y,z,v⟩=0:=by
     unfold pyFaultS bm aH bV;dsimp only;rw[if_neg (by lia),if_neg (by lia),if_neg (by lia),if_neg (by lia)]
    rw[ef];refine⟨fun q=>absurd rfl q,fun _=>⟨⟨hk,hx,hy,hz⟩,fun q=>absurd q (show ¬ (13:Nat)=0 by decide),fun q=>?_,fun _ _=>⟨(N2 hx hy hz).trans rfl,fun q=>absurd q (show ¬ (13:Nat)=1 by decide),fun q=>absurd q (show ¬ (13:Nat)=3 by decide),fun q=>absurd q nd⟩⟩⟩
    unfold aH at q;have q:13=4∨13=5:=q;lia
   ·have ef:pyFaultS d m pr ⟨14,x,y,z,v⟩=0:=by
     unfold pyFaultS bm aH bV;dsimp only;rw[if_neg (by lia),if_neg (by lia),if_neg (by lia),if_neg (by lia)]
    rw[ef];refine⟨fun q=>absurd rfl q,fun _=>⟨⟨hk,hx,hy,hz⟩,fun q=>absurd q (show ¬ (14:Nat)=0 by decide),fun q=>?_,fun _ _=>⟨by rw[N1 hx hy hz,KM];split<;>rfl,fun q=>absurd q (show ¬ (14:Nat)=1 by decide),fun q=>absurd q (show ¬ (14:Nat)=3 by decide),fun q=>absurd q nd⟩⟩⟩
    unfold aH at q;have q:14=4∨14=5:=q;lia
end QM
namespace QM
open Qw
theorem yN(x:Tile)(i j w:Nat)(s:Bytes)(hs:s.length=w)(hw:w≤64)(hi:i<16)(hj:j<16)(hx:x.size=1024):rowOf (putRow x i s) j w=if j=i then s else rowOf x j w:=by
 unfold rowOf at_ WIDE
 by_cases e:j=i
 ·subst e;rw[if_pos rfl];apply ext_getElem (by simp[hs])
  intro c h1 h2;have hc:c<w:=by simpa using h1
  simp only[getElem_map,getElem_range];rw[kG,if_pos (by lia),show 64*j+c - 64*j=c by lia,getD_eq_getElem?_getD,getElem?_eq_getElem h2];rfl
 ·rw[if_neg e];apply map_congr_left;intro c hc;have hc:=mem_range.mp hc;rw[kG,if_neg (by lia)]
theorem wH(x:Tile)(i h w:Nat)(s:Bytes)(hs:s.length=w)(hw:w≤64)(hi:i<h)(hh:h≤16)(hx:x.size=1024):aI (putRow x i s) h w=(aI x h w).set i (nI s):=by
 unfold aI;apply ext_getElem (by simp)
 intro j h1 h2;have hj:j<h:=by simpa using h1
 simp only[getElem_map,getElem_range,List.getElem_set];rw[yN x i j w s hs hw (by lia) (by lia) hx]
 by_cases e:j=i
 ·rw[if_pos e,if_pos e.symm]
 ·rw[if_neg e,if_neg (Ne.symm e)]
theorem pU(h w:Nat):aI zeros h w=List.replicate h (List.replicate w 0):=by
 unfold aI rowOf at_;apply ext_getElem (by simp)
 intro i h1 h2;simp only[getElem_map,getElem_range,List.getElem_replicate];apply ext_getElem (by simp)
 intro c h3 h4;simp only[nI,getElem_map,getElem_range,List.getElem_replicate,jV];rfl
def MX(cs:List Int)(place:Nat)(ds:List Int):List Int:=ds.zipIdx.foldl (fun l p=>l.set (place+p.2) p.1) cs
theorem DY(place:Nat):∀ (s:List Nat) (k:Nat) (g:Array Nat),nI ((s.zipIdx k).foldl (fun (g:Array Nat) (y:Nat×Nat)=>g.setIfInBounds (place+y.2) y.1) g).toList=((nI s).zipIdx k).foldl (fun l p=>l.set (place+p.2) p.1) (nI g.toList)
 | [],k,g=>rfl
 | v::s,k,g=>by
  have e:nI (v::s)=(v:Int)::nI s:=rfl;rw[e,zipIdx_cons,zipIdx_cons,foldl_cons,foldl_cons,DY place s (k+1)]
  congr 1
  simp only[nI,Array.toList_setIfInBounds,map_set]
theorem GH(m:Mach)(a:Nat)(s:Bytes):nI (m.lay a s).ground.toList=MX (nI m.ground.toList) a (nI s):=DY a s 0 m.ground
theorem wA(m:Mach)(a n:Nat)(h:a+n≤m.ground.size):nI (m.bytes a n)=((nI m.ground.toList).drop a).take n:=by
 unfold Mach.bytes;apply ext_getElem
 ·simp;lia
 intro i h1 h2;have hi:i<n:=by simpa using h1
 simp only[nI,getElem_map,getElem_range,getElem_take,getElem_drop]
 congr 1
 rw[Array.getD_eq_getD_getElem?,Array.getElem?_eq_getElem (by lia)]
 simp
theorem IM(m:Mach)(a n:Nat):cS m.ground a n=nI (m.bytes a n):=by
 unfold cS Mach.bytes nI;rw[map_map];rfl
def qF(ps:List Nat)(lo up want:Nat):Option Nat:=if ps.getD lo 0<want then some lo else if ps.getD up 0<want then some up else none
theorem Fq(m:Mach)(w:WF m)(store:Bool)(place width:Nat)(h1:1≤width)(h2:width≤64) :
  (pagesOf place width).find? (fun (p:Nat)=>!m.opens store p)=qF m.pages (place / 1024) ((place+width - 1) / 1024) (if store=true then 2 else 1):=by
 have op:∀ p,(!m.opens store p)=decide (m.pages.getD p 0<(if store=true then 2 else 1)):=fun p=>by
  have hb:m.pages.getD p 0≤2:=by
   rw[getD_eq_getElem?_getD]
   cases e:m.pages[p]? with
   | none=>decide
   | some v=>exact w.pb v (mem_of_getElem? e)
  unfold Mach.opens;generalize m.pages.getD p 0=v at *;cases store
  ·match v,hb with
   | 0,_=>rfl
   | 1,_=>rfl
   | 2,_=>rfl
  ·match v,hb with
   | 0,_=>rfl
   | 1,_=>rfl
   | 2,_=>rfl
 unfold pagesOf qF PAGE
 by_cases e:place / 1024=(place+width - 1) / 1024
 ·rw[if_pos e,←e];simp only[List.find?_cons,List.find?_nil,op]
  by_cases hc:m.pages.getD (place / 1024) 0<(if store=true then 2 else 1)
  ·rw[if_pos hc,decide_eq_true hc]
  ·rw[if_neg hc,if_neg hc,decide_eq_false hc]
 ·have e2:(place+width - 1) / 1024=place / 1024+1:=by lia
  rw[if_neg e,e2];simp only[List.find?_cons,List.find?_nil,op]
  by_cases hc:m.pages.getD (place / 1024) 0<(if store=true then 2 else 1)
  ·rw[if_pos hc,decide_eq_true hc]
  ·rw[if_neg hc,decide_eq_false hc]
   by_cases hd:m.pages.getD (place / 1024+1) 0<(if store=true then 2 else 1)
   ·rw[if_pos hd,decide_eq_true hd]
   ·rw[if_neg hd,decide_eq_false hd]
end QM
namespace QM
open Qw
def ud(m:Mach)(s:Step):Nat:=(m.num s.y+s.v+m.shape.start*m.num s.z) % W64
def mv(d:Bool)(m:Mach)(s:Step):Mach:=if d=true then { m.atRow (m.shape.start+1) with paid:=m.paid+1 } else m.moved (decide (s.kind=5)) s.x (ud m s) (m.width s.x)
section
variable{d:Bool}{m:Mach}{pr:Program}{s:Step}{left:Nat}{ta:Tally}
theorem F3(hp:m.prog=some pr)(h:pr.steps[m.step]?=none):cP d m left ta=(.fault 1,m,ta):=by rw[cy,EX hp h]
theorem EI(hp:m.prog=some pr)(h:pr.steps[m.step]?=some s)(hf:pyFaultS d m pr s≠0):cP d m left ta=(.fault (pyFaultS d m pr s),m,ta):=by
 rw[cy,ki hp h,(cw d m pr s).1 hf]
theorem HP(hp:m.prog=some pr)(h:pr.steps[m.step]?=some s)(hf:pyFaultS d m pr s=0)(hk:s.kind=0):cP d m left ta=(.done,m,ta):=by
 rw[cy,ki hp h,((cw d m pr s).2 hf).2.1 hk]
theorem EH(hp:m.prog=some pr)(h:pr.steps[m.step]?=some s)(hf:pyFaultS d m pr s=0)(hk:s.kind≠0)(hm:¬ aH s):cP d m 0 ta=(.paused,m,ta):=by
 rw[cy,ki hp h,(((cw d m pr s).2 hf).2.2.2 hk hm).1];rfl
theorem HQ(hp:m.prog=some pr)(h:pr.steps[m.step]?=some s)(hf:pyFaultS d m pr s=0)(hk:s.kind≠0)(hm:¬ aH s):cP d m (left+1) ta=cP d { dR d m pr s with paid:=m.paid+1 } left ta:=by
 rw[cy,ki hp h,(((cw d m pr s).2 hf).2.2.2 hk hm).1];rfl
theorem mz(hp:m.prog=some pr)(h:pr.steps[m.step]?=some s)(hf:pyFaultS d m pr s=0)(hm:aH s) :
  look d m=if m.height s.x≤m.shape.start then .free (m.atRow 0).next else if GROUND<ud m s+m.width s.x then .fault OUT else .row (decide (s.kind=5)) s.x (ud m s) (m.width s.x):=by
 obtain⟨ht,e⟩:=((cw d m pr s).2 hf).2.2.1 hm;rw[ki hp h,e];unfold rowStep;rw[if_neg (by rw[ht];decide)]
 rfl
theorem F4(hp:m.prog=some pr)(h:pr.steps[m.step]?=some s)(hf:pyFaultS d m pr s=0)(hm:aH s)(hs:m.height s.x≤m.shape.start):cP d m left ta=cP d (m.atRow 0).next left ta∧gh (m.atRow 0).next left<gh m left:=by
 have e:=mz hp h hf hm;rw[if_pos hs] at e
 exact⟨by rw[cy,e],qY (qZ e)⟩
theorem HN(hp:m.prog=some pr)(h:pr.steps[m.step]?=some s)(hf:pyFaultS d m pr s=0)(hm:aH s)(hs:¬ m.height s.x≤m.shape.start)(ho:GROUND<ud m s+m.width s.x):cP d m left ta=(.fault 4,m,ta):=by
 rw[cy,mz hp h hf hm,if_neg hs,if_pos ho];rfl
theorem Ck(hp:m.prog=some pr)(h:pr.steps[m.step]?=some s)(hf:pyFaultS d m pr s=0)(hm:aH s)(hs:¬ m.height s.x≤m.shape.start)(ho:¬ GROUND<ud m s+m.width s.x):cP d m 0 ta=(.paused,m,ta):=by
 rw[cy,mz hp h hf hm,if_neg hs,if_neg ho];rfl
theorem uR(hp:m.prog=some pr)(h:pr.steps[m.step]?=some s)(hf:pyFaultS false m pr s=0)(hm:aH s)(hs:¬ m.height s.x≤m.shape.start)(ho:¬ GROUND<ud m s+m.width s.x){p:Nat}
  (hc:(pagesOf (ud m s) (m.width s.x)).find? (fun (p:Nat)=>!m.opens (decide (s.kind=5)) p)=some p):cP false m (left+1) ta=(.closed p (decide (s.kind=5)),m,ta):=by
 rw[cy,mz hp h hf hm,if_neg hs,if_neg ho];dsimp only;rw[if_neg (by lia),if_neg (by decide),hc]
theorem DF(hp:m.prog=some pr)(h:pr.steps[m.step]?=some s)(hf:pyFaultS d m pr s=0)(hm:aH s)(hs:¬ m.height s.x≤m.shape.start)(ho:¬ GROUND<ud m s+m.width s.x)
  (hc:d=false→(pagesOf (ud m s) (m.width s.x)).find? (fun (p:Nat)=>!m.opens (decide (s.kind=5)) p)=none):cP d m (left+1) ta=cP d (mv d m s) left (ta.add (decide (s.kind=5)) (pagesOf (ud m s) (m.width s.x))):=by
 rw[cy,mz hp h hf hm,if_neg hs,if_neg ho];dsimp only;rw[if_neg (by lia)]
 cases d with
 | true=>rfl
 | false=>rw[if_neg (by decide),hc rfl];rfl
theorem kM:(mv d m s).prog=m.prog∧(mv d m s).step=m.step∧(mv d m s).r=m.r∧(mv d m s).paid=m.paid+1∧(mv d m s).shape={ m.shape with start:=m.shape.start+1 }∧(mv d m s).pages=m.pages∧(mv d m s).how=m.how∧(mv d m s).fault=m.fault:=by
 unfold mv
 cases d with
 | true=>exact⟨rfl,rfl,rfl,rfl,rfl,rfl,rfl,rfl⟩
 | false =>
  rw[if_neg (by decide)]
  unfold Mach.moved;dsimp only
  split<;>exact⟨rfl,rfl,rfl,rfl,rfl,rfl,rfl,rfl⟩
theorem GB(x:Nat):(mv d m s).there x=m.there x:=by
 unfold Mach.there Mach.height;rw[kM.2.2.2.2.1]
open Classical in
theorem Fc(hm:aH s):pyFaultS d m pr s=if bm pr s then 1 else if m.there s.x=false then 3 else 0:=by
 have h1:¬ s.kind=1:=by unfold aH at hm;lia
 have h2:¬ bV s:=by unfold aH at hm;unfold bV;lia
 unfold pyFaultS
 by_cases hb:bm pr s
 ·rw[if_pos hb,if_pos hb]
 ·rw[if_neg hb,if_neg hb,if_neg (fun z=>h1 z.1)]
  by_cases ht:m.there s.x=false
  ·rw[if_pos ⟨.inr hm,ht⟩,if_pos ht]
  ·rw[if_neg (fun z=>ht z.2),if_neg ht,if_neg h2]
theorem GC(hm:aH s)(hf:pyFaultS d m pr s=0):pyFaultS d (mv d m s) pr s=0:=by
 rw[Fc hm] at *;rw[GB];exact hf
theorem M2(w:WF m)(hs:¬ m.height s.x≤m.shape.start):WF (mv d m s):=by
 have:=w.hb s.x
 have h16:m.shape.start<16:=by lia
 unfold mv
 cases d with
 | true=>exact (w.atRow (by lia)).same rfl rfl rfl rfl rfl
 | false=>rw[if_neg (by decide)];exact w.moved h16
theorem DR(hl:left≠0):gh (mv d m s) (left - 1)<gh m left:=iU _ _ hl
end
end QM
namespace QM
open Qw
def oW(nums:List Nat)(s:Step):List Nat:=nums.set s.x ((if s.kind=11 then s.v else if s.kind=12 then nums.getD s.x 0+s.v else if s.kind=13 then nums.getD s.y 0+s.v else nums.getD s.x 0+W64 - 1) % W64)
section
variable{d:Bool}{m:Mach}{pr:Program}{s:Step}
theorem I0:(dR d m pr s).prog=m.prog∧(dR d m pr s).ground=m.ground∧(dR d m pr s).pages=m.pages∧(dR d m pr s).how=m.how:=by
 unfold dR jt
 split
 ·exact⟨rfl,rfl,rfl,rfl⟩
 split
 ·exact⟨rfl,rfl,rfl,rfl⟩
 split
 ·exact⟨rfl,rfl,rfl,rfl⟩
 split
 ·exact⟨rfl,rfl,rfl,rfl⟩
 split
 ·exact⟨rfl,rfl,rfl,rfl⟩
 split
 ·exact⟨rfl,rfl,rfl,rfl⟩
 split
 ·split<;>exact⟨rfl,rfl,rfl,rfl⟩
 ·split<;>exact⟨rfl,rfl,rfl,rfl⟩
theorem IZ(h:s.kind<11):(dR d m pr s).r=m.r∧(dR d m pr s).step=m.step+1:=by
 unfold dR jt
 split
 ·exact⟨rfl,rfl⟩
 split
 ·exact⟨rfl,rfl⟩
 split
 ·exact⟨rfl,rfl⟩
 rw[if_neg (by lia),if_neg (by lia),if_neg (by lia),if_neg (by lia)]
 split<;>exact⟨rfl,rfl⟩
theorem Lq(h:11≤s.kind)(h2:s.kind≤14)(hl:m.r.length=8)(hx:s.x<8):(dR d m pr s).shape=m.shape∧(dR d m pr s).tiles=m.tiles∧(dR d m pr s).r=oW m.r s∧(dR d m pr s).step=if s.kind=14∧(oW m.r s).getD s.x 0≠0 then s.v else m.step+1:=by
 unfold dR;rw[if_neg (by lia),if_neg (by lia),if_neg (by lia)]
 by_cases h11:s.kind=11
 ·rw[if_pos h11,if_neg (by lia)]
  refine⟨rfl,rfl,?_,rfl⟩;show m.r.set s.x (s.v % W64)=_;unfold oW;rw[if_pos h11]
 rw[if_neg h11]
 by_cases h12:s.kind=12
 ·rw[if_pos h12,if_neg (by lia)]
  refine⟨rfl,rfl,?_,rfl⟩;show m.r.set s.x ((m.num s.x+s.v) % W64)=_;unfold oW Mach.num;rw[if_neg h11,if_pos h12]
 rw[if_neg h12]
 by_cases h13:s.kind=13
 ·rw[if_pos h13,if_neg (by lia)]
  refine⟨rfl,rfl,?_,rfl⟩;show m.r.set s.x ((m.num s.y+s.v) % W64)=_;unfold oW Mach.num;rw[if_neg h11,if_neg h12,if_pos h13]
 have h14:s.kind=14:=by lia
 rw[if_neg h13,if_pos h14];have e:oW m.r s=m.r.set s.x ((m.num s.x+W64 - 1) % W64):=by
  unfold oW Mach.num;rw[if_neg h11,if_neg h12,if_neg h13]
 rw[e];have eg:(m.r.set s.x ((m.num s.x+W64 - 1) % W64)).getD s.x 0=(m.num s.x+W64 - 1) % W64:=by
  rw[getD_eq_getElem?_getD,getElem?_set_self (by rw[hl];exact hx),Option.getD_some]
 rw[eg];generalize hN:(m.num s.x+W64 - 1) % W64=N at *
 by_cases hz:N=0
 ·rw[if_pos hz,if_neg (fun z=>z.2 hz)]
  refine⟨rfl,rfl,?_,rfl⟩;rw[hz];unfold Mach.setNum Mach.next;dsimp only;rw[Nat.zero_mod]
 ·rw[if_neg hz,if_pos ⟨h14,hz⟩];refine⟨rfl,rfl,?_,rfl⟩;unfold Mach.setNum;dsimp only;rw[←hN,Nat.mod_mod]
theorem Ni(w:WF m)(hf:pyFaultS d m pr s=0)(hk:s.kind≠0)(hm:¬ aH s):WF (dR d m pr s):=by
 obtain⟨⟨h14,hx,hy,hz⟩,_,_,hact⟩:=(cw d m pr s).2 hf;obtain⟨_,h1,h3,hd⟩:=hact hk hm;unfold dR
 by_cases k1:s.kind=1
 ·rw[if_pos k1];obtain⟨a,ha,hok⟩:=h1 k1
  have:pr.shapes.getD s.v noShape=a:=by rw[getD_eq_getElem?_getD,ha];rfl
  rw[this];exact (w.shaped hok).next
 rw[if_neg k1]
 by_cases k2:s.kind=2
 ·rw[if_pos k2];exact (w.shaped CK).next
 rw[if_neg k2]
 by_cases k3:s.kind=3
 ·rw[if_pos k3];exact ((w.setTile iE ny).atRow (by decide)).next
 rw[if_neg k3]
 by_cases k4:s.kind=11
 ·rw[if_pos k4];exact w.setNum.next
 rw[if_neg k4]
 by_cases k5:s.kind=12
 ·rw[if_pos k5];exact w.setNum.next
 rw[if_neg k5]
 by_cases k6:s.kind=13
 ·rw[if_pos k6];exact w.setNum.next
 rw[if_neg k6]
 by_cases k7:s.kind=14
 ·rw[if_pos k7]
  split
  ·exact w.setNum.next
  ·exact (w.setNum (k:=s.x) (v:=(m.num s.x+W64 - 1) % W64)).same rfl rfl rfl rfl rfl
 rw[if_neg k7];unfold jt
 split
 ·exact (w.atRow (by decide)).next
 ·have b:=w.wb s.x;exact ((w.setTile (by rw[Bw];exact w.ts _) (IX _ _ _ _ _ _ _ (by lia) (w.ts _) (w.tb _))).atRow (by decide)).next
theorem Eh{left:Nat}:gh { dR d m pr s with paid:=m.paid+1 } left<gh m (left+1):=iU (left:=left+1) _ _ (by lia)
end
end QM
namespace QM
open PyFlat
inductive kq:List (List Int)→Prop
 | c1 (p h:Int):kq [[1,p,h]]
 | c2 (a:Int) (s:List Int):kq [[2,a],s]
 | c3 (a n:Int):kq [[3,a,n]]
 | c4 (l:List Int):kq [[4],l]
 | c5:kq [[5]]
 | c6 (t:Int):kq [[6,t]]
 | c7 (a b:List Int):kq [[7],a,b]
 | c8 (n:Int):kq [[8,n]]
 | c9:kq [[9]]
 | c10 (n:Int):kq [[10,n]]
 | c11 (l:List Int):kq [[11],l]
 | c12 (i:Int) (l:List Int):kq [[12,i],l]
 | c13 (k r c:Int) (s:List Int):kq [[13,k,r,c],s]
 | c14 (k r c:Int) (s:List Int):kq [[14,k,r,c],s]
 | c15 (k r:Int) (c a b:List Int):kq [[15,k,r],c,a,b]
theorem Ea(h:okCall PyWrquil.shape c):kq c:=by
 obtain⟨p,a,xs,rfl,hs⟩:=h;have key:∀ (q:Int) (m n:Nat),p=q→(some (a.length,xs.length):Option (Nat×Nat))=some (m,n)→a.length=m∧xs.length=n:=fun _ _ _ _ e=>by
  have:=Option.some.inj e
  exact⟨(Prod.mk.inj this).1,(Prod.mk.inj this).2⟩
 unfold PyWrquil.shape at hs;have L0:∀ {α:Type}{l:List α},l.length=0→l=[]:=fun h=>List.length_eq_zero_iff.1 h
 have L1:∀ {α:Type}{l:List α},l.length=1→∃ x,l=[x]:=fun {α l} h=>match l,h with | [x],_=>⟨x,rfl⟩
 have L2:∀ {α:Type}{l:List α},l.length=2→∃ x y,l=[x,y]:=fun {α l} h=>match l,h with | [x,y],_=>⟨x,y,rfl⟩
 have L3:∀ {α:Type}{l:List α},l.length=3→∃ x y z,l=[x,y,z]:=fun {α l} h=>match l,h with | [x,y,z],_=>⟨x,y,z,rfl⟩
 by_cases e:p=1
 ·rw[if_pos e] at hs;obtain⟨h1,h2⟩:=key p _ _ rfl hs.symm;obtain⟨x,y,rfl⟩:=L2 h1;obtain rfl:=L0 h2;subst e;exact .c1 _ _
 rw[if_neg e] at hs;clear e
 by_cases e:p=2
 ·rw[if_pos e] at hs;obtain⟨h1,h2⟩:=key p _ _ rfl hs.symm;obtain⟨x,rfl⟩:=L1 h1;obtain⟨r,rfl⟩:=L1 h2;subst e;exact .c2 _ _
 rw[if_neg e] at hs;clear e
 by_cases e:p=3
 ·rw[if_pos e] at hs;obtain⟨h1,h2⟩:=key p _ _ rfl hs.symm;obtain⟨x,y,rfl⟩:=L2 h1;obtain rfl:=L0 h2;subst e;exact .c3 _ _
 rw[if_neg e] at hs;clear e
 by_cases e:p=4
 ·rw[if_pos e] at hs;obtain⟨h1,h2⟩:=key p _ _ rfl hs.symm;obtain rfl:=L0 h1;obtain⟨r,rfl⟩:=L1 h2;subst e;exact .c4 _
 rw[if_neg e] at hs;clear e
 by_cases e:p=5
 ·rw[if_pos e] at hs;obtain⟨h1,h2⟩:=key p _ _ rfl hs.symm;obtain rfl:=L0 h1;obtain rfl:=L0 h2;subst e;exact .c5
 rw[if_neg e] at hs;clear e
 by_cases e:p=6
 ·rw[if_pos e] at hs;obtain⟨h1,h2⟩:=key p _ _ rfl hs.symm;obtain⟨x,rfl⟩:=L1 h1;obtain rfl:=L0 h2;subst e;exact .c6 _
 rw[if_neg e] at hs;clear e
 by_cases e:p=7
 ·rw[if_pos e] at hs;obtain⟨h1,h2⟩:=key p _ _ rfl hs.symm;obtain rfl:=L0 h1;obtain⟨r,q,rfl⟩:=L2 h2;subst e;exact .c7 _ _
 rw[if_neg e] at hs;clear e
 by_cases e:p=8
 ·rw[if_pos e] at hs;obtain⟨h1,h2⟩:=key p _ _ rfl hs.symm;obtain⟨x,rfl⟩:=L1 h1;obtain rfl:=L0 h2;subst e;exact .c8 _
 rw[if_neg e] at hs;clear e
 by_cases e:p=9
 ·rw[if_pos e] at hs;obtain⟨h1,h2⟩:=key p _ _ rfl hs.symm;obtain rfl:=L0 h1;obtain rfl:=L0 h2;subst e;exact .c9
 rw[if_neg e] at hs;clear e
 by_cases e:p=10
 ·rw[if_pos e] at hs;obtain⟨h1,h2⟩:=key p _ _ rfl hs.symm;obtain⟨x,rfl⟩:=L1 h1;obtain rfl:=L0 h2;subst e;exact .c10 _
 rw[if_neg e] at hs;clear e
 by_cases e:p=11
 ·rw[if_pos e] at hs;obtain⟨h1,h2⟩:=key p _ _ rfl hs.symm;obtain rfl:=L0 h1;obtain⟨r,rfl⟩:=L1 h2;subst e;exact .c11 _
 rw[if_neg e] at hs;clear e
 by_cases e:p=12
 ·rw[if_pos e] at hs;obtain⟨h1,h2⟩:=key p _ _ rfl hs.symm;obtain⟨x,rfl⟩:=L1 h1;obtain⟨r,rfl⟩:=L1 h2;subst e;exact .c12 _ _
 rw[if_neg e] at hs;clear e
 by_cases e:p=13
 ·rw[if_pos e] at hs;obtain⟨h1,h2⟩:=key p _ _ rfl hs.symm;obtain⟨x,y,z,rfl⟩:=L3 h1;obtain⟨r,rfl⟩:=L1 h2;subst e;exact .c13 _ _ _ _
 rw[if_neg e] at hs;clear e
 by_cases e:p=14
 ·rw[if_pos e] at hs;obtain⟨h1,h2⟩:=key p _ _ rfl hs.symm;obtain⟨x,y,z,rfl⟩:=L3 h1;obtain⟨r,rfl⟩:=L1 h2;subst e;exact .c14 _ _ _ _
 rw[if_neg e] at hs;clear e
 by_cases e:p=15
 ·rw[if_pos e] at hs;obtain⟨h1,h2⟩:=key p _ _ rfl hs.symm;obtain⟨x,y,rfl⟩:=L2 h1;obtain⟨r,q,s,rfl⟩:=L3 h2;subst e;exact .c15 _ _ _ _ _
 rw[if_neg e] at hs;clear e;cases hs
theorem B3(h:kq c):PyWrquil.whole c=c:=by cases h<;>rfl
theorem BL(h:PyWrquil.answers_asked ns=true):∃ cs:List (List (List Int)),ns=put cs∧(∀ c∈cs,kq c∧QuiltNeutral.asked1 c=true)∧cs.length≤60 ∧
  PyWrquil.answers ns=told (played QuiltNeutral.step QuiltNeutral.start cs):=by
 unfold PyWrquil.answers_asked at h;unfold PyWrquil.answers
 cases e:PyWrquil.calls ns with
 | none=>rw[e] at h;cases h
 | some ds =>
  rw[e] at h;dsimp only at h ⊢;unfold PyWrquil.calls at e
  cases e2:PyFlat.calls PyWrquil.shape ns.length ns with
  | none=>rw[e2] at e;cases e
  | some cs =>
   rw[e2] at e;have e3:cs.map PyWrquil.whole=ds:=Option.some.inj e;obtain⟨p1,p2⟩:=put_calls _ _ _ e2;have e4:cs.map PyWrquil.whole=cs:=by
    conv=>rhs;rw[←map_id cs]
    exact map_congr_left fun c hc=>B3 (Ea (p2 c hc))
   rw[e4] at e3;subst e3;rw[Bool.and_eq_true] at h;obtain⟨_,h2⟩:=h;unfold QuiltNeutral.asked at h2;rw[Bool.and_eq_true,Bool.and_eq_true] at h2;refine⟨cs,p1,fun c hc=>⟨Ea (p2 c hc),(all_eq_true.1 h2.1.1) c hc⟩,of_decide_eq_true h2.2,rfl⟩
end QM
namespace QM
open Qw
theorem fP{α β:Type}{f:α→List β}{k:Nat}:∀ (l:List α),(∀ x∈l,(f x).length≤k)→(l.flatMap f).length≤l.length*k
 | [],_=>Nat.zero_le _
 | x::l,h=>by
  have h1:=h x mem_cons_self;have h2:=fP l fun y hy=>h y (mem_cons_of_mem _ hy)
  rw[flatMap_cons,length_append,length_cons,Nat.succ_mul];lia
theorem wD(s:List Nat)(i n:Nat):(between s i n).length≤n:=by
 unfold between;rw[length_take];lia
theorem AS:∀ (l r:List Nat),l.mapM f=some r→r.length=l.length
 | [],r,h=>by
  rw[List.mapM_nil] at h
  have:[]=r:=Option.some.inj h
  rw[←this]
 | x::l,r,h=>by
  rw[mapM_cons] at h
  cases e:f x with
  | none=>rw[e] at h;cases h
  | some y =>
   rw[e] at h
   cases e2:l.mapM f with
   | none=>rw[e2] at h;cases h
   | some q =>
    rw[e2] at h
    have:y::q=r:=Option.some.inj h
    rw[←this,length_cons,length_cons,AS l q e2]
theorem nE(e:End):(Quilt.told e).more.length≤2:=by
 cases e<;>(unfold Quilt.told Quilt.tells;simp)
theorem yK(x:End×Mach×Tally):(Quilt.settled x).2.more.length≤2:=by
 obtain⟨e,m,t⟩:=x
 cases e<;>exact nE _
theorem uo(h:Quilt.weaveOk k r c=true):r≤64∧c≤64:=by
 unfold Quilt.weaveOk MOST at h;simp only[Bool.and_eq_true,decide_eq_true_eq] at h;lia
theorem FL(k:Nat)(s:List Nat){r c:Nat}(hr:r≤64)(hc:c≤64):(woven k s r c).length≤64*(64*(4*2)):=by
 have g:groupOf k≤4:=by unfold groupOf;split<;>lia
 have g1:2≤groupOf k:=by unfold groupOf;split<;>lia
 have u:unitOf k≤2:=by unfold unitOf;split<;>lia
 have w:wovenRows k r≤64:=by
  unfold wovenRows;refine Nat.le_trans (Nat.div_le_of_le_mul (k:=groupOf k) (n:=64) ?_) (Nat.le_refl _)
  have:2*63≤groupOf k*63:=Nat.mul_le_mul_right _ g1
  lia
 have a1:∀ i j,(unitAt k s r c i j).length≤2:=fun i j=>by
  unfold unitAt
  split
  ·exact Nat.le_trans (wD _ _ _) u
  ·rw[length_replicate];exact u
 have a2:∀ i j,((List.range (groupOf k)).flatMap fun (q:Nat)=>unitAt k s r c (groupOf k*i+q) j).length≤4*2:=fun i j =>
  Nat.le_trans (fP _ fun q _=>a1 _ _) (by rw[length_range];exact Nat.mul_le_mul_right _ g)
 have a3:∀ i,((List.range c).flatMap fun (j:Nat)=>(List.range (groupOf k)).flatMap fun (q:Nat)=>unitAt k s r c (groupOf k*i+q) j).length≤64*(4*2):=fun i =>
  Nat.le_trans (fP _ fun j _=>a2 i j) (by rw[length_range];exact Nat.mul_le_mul_right _ hc)
 unfold woven;exact Nat.le_trans (fP _ fun i _=>a3 i) (by rw[length_range];exact Nat.mul_le_mul_right _ w)
theorem B5(k:Nat)(s:List Nat){r c:Nat}(hr:r≤64)(hc:c≤64):(unwoven k s r c).length≤64*(64*2):=by
 have u:unitOf k≤2:=by unfold unitOf;split<;>lia
 unfold unwoven;refine Nat.le_trans (fP (k:=64*2) _ fun i _=>Nat.le_trans (fP (k:=2) _ fun j _=>Nat.le_trans (wD _ _ _) u) ?_) ?_
 ·rw[length_range];exact Nat.mul_le_mul_right _ hc
 ·rw[length_range];exact Nat.mul_le_mul_right _ hr
def uC:Quilt.Call→Prop
 | .get _ n=>n≤8192
 | _=>True
theorem FU{m:Mach}(wf:WF m)(c:Quilt.Call)(hc:uC c):(Quilt.step m c).2.more.length≤100000:=by
 cases c with
 | page p how =>
  show (if PAGES≤p∨2<how then (m,Quilt.BAD) else ({ m with pages:=m.pages.set p how },Quilt.says 0)).2.more.length≤_
  split<;>exact Nat.zero_le _
 | put a s =>
  show (if GROUND<a+s.length then (m,Quilt.BAD) else (m.lay a s,Quilt.says 0)).2.more.length≤_
  split<;>exact Nat.zero_le _
 | get a n =>
  show (if GROUND<a+n then Quilt.BAD else Quilt.tells n (m.bytes a n)).more.length≤_
  split
  ·exact Nat.zero_le _
  ·show (m.bytes a n).length≤_;unfold Mach.bytes;rw[length_map,length_range]
   have:n≤8192:=hc
   lia
 | shape l =>
  show (if l.length≠17∨(shapeOf l).ok=false then (m,Quilt.SHAPELESS) else (m.shaped (shapeOf l),Quilt.says 0)).2.more.length≤_
  split<;>exact Nat.zero_le _
 | shown =>
  show (m.shape.start::(m.shape.widths++m.shape.heights)).length≤_;rw[length_cons,length_append,wf.wl,wf.hl];lia
 | tile t =>
  show (if TILES≤t then Quilt.BAD else Quilt.tells (m.height t) (m.width t::(List.range (m.height t)).flatMap fun (i:Nat)=>rowOf (m.tile t) i (m.width t))).more.length≤_
  split
  ·exact Nat.zero_le _
  ·show (m.width t::(List.range (m.height t)).flatMap fun (i:Nat)=>rowOf (m.tile t) i (m.width t)).length≤_
   have h1:=fP (f:=fun (i:Nat)=>rowOf (m.tile t) i (m.width t)) (k:=64) (List.range (m.height t)) fun i _=>by
    show (rowOf (m.tile t) i (m.width t)).length≤64;unfold rowOf;rw[length_map,length_range];exact wf.wb t
   rw[length_range] at h1;have h2:=wf.hb t;rw[length_cons];lia
 | start a b =>
  show (match Quilt.programOf a b with | none=>(m,Quilt.BAD) | some p=>(m.begun p,Quilt.tells p.steps.size [])).2.more.length≤_
  cases Quilt.programOf a b<;>exact Nat.zero_le _
 | run n =>
  show (if m.prog.isNone=true then (m,Quilt.IDLE) else if m.how=0 then (m,Quilt.told .done) else if m.how=3 then (m,Quilt.told (.fault m.fault)) else Quilt.settled (runs false (fuel n) m n nothing)).2.more.length≤_
  split
  ·exact Nat.zero_le _
  ·split
   ·exact Nat.le_trans (nE _) (by decide)
   ·split
    ·exact Nat.le_trans (nE _) (by decide)
    ·exact Nat.le_trans (yK _) (by decide)
 | stand =>
  show (if m.prog.isNone=true then Quilt.IDLE else Quilt.tells m.how ([m.step,m.paid,m.shape.start]++m.r)).more.length≤_
  split
  ·exact Nat.zero_le _
  ·show ([m.step,m.paid,m.shape.start]++m.r).length≤_;rw[length_append,wf.rl];show 3+8≤100000;decide
 | dry n =>
  show (if m.prog.isNone=true then Quilt.IDLE else let x:=if m.how=0 then (End.done,m,nothing) else if m.how=3 then (.fault m.fault,m,nothing) else runs true (fuel n) m n nothing
   let a:=Quilt.told x.1
   (⟨a.num,a.more++[x.2.1.step,x.2.2.rows,bitsOf x.2.2.read,bitsOf x.2.2.written]⟩:Quilt.Ans)).more.length≤_
  split
  ·exact Nat.zero_le _
  ·dsimp only;rw[length_append]
   have:=nE (if m.how=0 then (End.done,m,nothing) else if m.how=3 then (.fault m.fault,m,nothing) else runs true (fuel n) m n nothing).1
   simp only[length_cons,length_nil];lia
 | plan l =>
  show (match Quilt.jobOf l with | none=>(m,Quilt.BAD) | some j=>(m.begun j.plan,Quilt.tells j.plan.steps.size [])).2.more.length≤_
  cases Quilt.jobOf l<;>exact Nat.zero_le _
 | product i l =>
  show (match Quilt.jobOf l with
   | none=>Quilt.BAD
   | some j=>if j.m≤i then Quilt.BAD else match (List.range j.n).mapM fun (q:Nat)=>Qw.product j m.ground i q j.blocks with
    | none=>Quilt.FAR
    | some r=>Quilt.tells r.length r).more.length≤_
  cases e:Quilt.jobOf l with
  | none=>exact Nat.zero_le _
  | some j =>
   dsimp only
   split
   ·exact Nat.zero_le _
   ·cases e2:(List.range j.n).mapM fun (q:Nat)=>Qw.product j m.ground i q j.blocks with
    | none=>exact Nat.zero_le _
    | some r =>
     show r.length≤_;have h1:=AS _ _ e2;rw[length_range] at h1
     by_cases h10:l.length=10
     ·rw[vD l h10] at e
      split at e
      ·rename_i ok
       have ej:tL l=j:=Option.some.inj e;rw[ej] at ok
       have:=((ok_iff j).1 ok).1.n2
       lia
      ·cases e
     ·rw[vC l h10] at e;cases e
 | weave k r c s =>
  show (if Quilt.weaveOk k r c=false∨s.length≠unitOf k*r*c then Quilt.BAD else let w:=woven k s r c
   Quilt.tells w.length w).more.length≤_
  split
  ·exact Nat.zero_le _
  ·rename_i h
   have ok:Quilt.weaveOk k r c=true:=by
    cases e:Quilt.weaveOk k r c with
    | true=>rfl
    | false=>exact absurd (.inl e) h
   obtain⟨h1,h2⟩:=uo ok;exact Nat.le_trans (FL k s h1 h2) (by decide)
 | unweave k r c s =>
  show (if Quilt.weaveOk k r c=false∨s.length≠unitOf k*groupOf k*wovenRows k r*c then Quilt.BAD else let w:=unwoven k s r c
   Quilt.tells w.length w).more.length≤_
  split
  ·exact Nat.zero_le _
  ·rename_i h
   have ok:Quilt.weaveOk k r c=true:=by
    cases e:Quilt.weaveOk k r c with
    | true=>rfl
    | false=>exact absurd (.inl e) h
   obtain⟨h1,h2⟩:=uo ok;exact Nat.le_trans (B5 k s h1 h2) (by decide)
 | dot k r c a b =>
  show (if 4<k∨r=0∨HIGH<r∨c.length≠16∨a.length≠4*r∨b.length≠WIDE*r then Quilt.BAD else match valueDot k c a b r with
   | none=>Quilt.FAR
   | some l=>Quilt.tells 16 l).more.length≤_
  split
  ·exact Nat.zero_le _
  ·unfold valueDot
   split
   ·rename_i h
    split at h
    ·exact Nat.zero_le _
    ·cases h
   ·rename_i h
    split at h
    ·cases h
    ·have:=Option.some.inj h
     rw[←this];show ((List.range 16).map _).length≤_;rw[length_map,length_range];decide
theorem gi(h:QuiltNeutral.natural z b=true):∃ n:Nat,z=(n:Int):=by
 unfold QuiltNeutral.natural at h;rw[Bool.and_eq_true] at h
 exact⟨z.toNat,(Int.toNat_of_nonneg (of_decide_eq_true h.1)).symm⟩
theorem iL(h:QuiltNeutral.long l n 0 hi=true):∃ s:List Nat,l=nI s∧s.length≤n∧∀ v∈s,((v:Nat):Int)≤hi:=by
 unfold QuiltNeutral.long at h;rw[Bool.and_eq_true,all_eq_true] at h;obtain⟨h1,h2⟩:=h;have key:∀ z∈l,0≤z∧z≤hi:=fun z hz=>by
  have:=h2 z hz
  rw[Bool.and_eq_true] at this
  exact⟨of_decide_eq_true this.1,of_decide_eq_true this.2⟩
 refine⟨l.map Int.toNat,?_,by rw[length_map];exact of_decide_eq_true h1,fun v hv=>?_⟩
 ·unfold nI;rw[map_map]
  conv=>lhs;rw[←map_id l]
  exact map_congr_left fun z hz=>by
   show z=((z.toNat:Nat):Int);exact (Int.toNat_of_nonneg (key z hz).1).symm
 ·obtain⟨z,hz,rfl⟩:=mem_map.1 hv;rw[Int.toNat_of_nonneg (key z hz).1];exact (key z hz).2
theorem dG(s:List Nat):QuiltNeutral.nats (nI s)=s:=by
 unfold QuiltNeutral.nats nI;rw[map_map]
 conv=>rhs;rw[←map_id s]
 exact map_congr_left fun z _=>rfl
end QM
set_option maxHeartbeats 1000000
namespace QB
open PySem PySem.Spec PyProof.Rows L2
def FA(K:PySem.W.Frag)(mg:Str→Option Value)(x:Str)(st:Stmt):Prop:=∃ f fd,wF K x x st f fd∧mg x=some (.ref f)
def MA(K:PySem.W.Frag)(C:Addr)(m qual:Str)(st:Stmt):Prop:=∃ f fd,wF K m qual st f fd∧Hj K C m f
structure bg(P:Program)(w:World)(K:PySem.W.Frag)(mg:Str→Option Value)(base:Heap)(k:Nat)(x:Str)(ps:List Str)(sp:Sp):Prop where
 ex:∃ f fd,ii P w K mg base FK k f fd ps sp∧mg x=some (.ref f)∧PySem.W.keepIn K (.ref f)=true∧io K fd ps []
structure de(P:Program)(w:World)(K:PySem.W.Frag)(mg:Str→Option Value)(base:Heap)(k:Nat)(C:Addr)(m:Str)(ps:List Str)(sp:Sp):Prop where
 ex:∃ f fd,ii P w K mg base FK k f fd ps sp∧Hj K C m f∧io K fd ps []
structure qL(P:Program)(w:World)(K:PySem.W.Frag)(mg:Str→Option Value)(base:Heap)(k:Nat)(x:Str)(C:Addr)(ps:List Str)(sp:Sp):Prop where
 ex:∃ f fd,ii P w K mg base FK k f fd ps sp∧Mk K C f∧mg x=some (.ref C)∧io K fd ps []
section
variable{P:Program}{w:World}{K:PySem.W.Frag}{mg:Str→Option Value}{base:Heap}{N ps:List Str}{k:Nat}{sp:Sp}
def OI(P:Program)(w:World)(K:PySem.W.Frag)(mg:Str→Option Value)(base:Heap)(k:Nat)(N:List Str)(qual:Str)(st:Stmt)(sp:Sp):Prop :=
 ∀ (f:Addr) (cdv:Value) (A:Around) (outer:List Env) (s:Shared) (H:Hp) (vs:List V) (Q:VK) (E:XK),eJ k (A.deeper (envOfC qual (aC st) s.heap.objs.size f cdv))→sp vs H Q E →
   ∃ t,BY (Bx FK P w K mg base N qual (aC st) f cdv A outer s H E).nox (fj st) t∧t { nx:=fun _ H'=>Q .non H',rt:=Q } (start N vs) H
def OJ(P:Program)(w:World)(K:PySem.W.Frag)(mg:Str→Option Value)(base:Heap)(k:Nat)(N ps:List Str)(qual:Str)(st:Stmt)(sp:Sp):Prop :=
 ∀ {f:Addr}{cdv:Value}{A:Around}{outer:List Env}{s:Shared}{vs:List V},jv N ps (aC st)→∀ (H:Hp) (Q:VK) (E:XK),eJ k (A.deeper (envOfC qual (aC st) s.heap.objs.size f cdv))→sp vs H Q E →
   ∃ t,BY (Bx FK P w K mg base N qual (aC st) f cdv A outer s H E).nox (fj st) t∧t { nx:=fun _ H'=>Q .non H',rt:=Q } (start N vs) H
def Jo:Nat→(List Value→Prop)→Prop
 | 0,p=>p []
 | n+1,p=>∀ a,Jo n fun l=>p (a::l)
theorem Jo.get{n:Nat}{p:List Value→Prop}{l:List Value}(h:Jo n p)(e:l.length=n):p l:=by
 induction l generalizing n p with
 | nil=>cases e;exact h
 | cons a l i=>cases e;exact i (h a) rfl
def Jm(x qual:Str)(st:Stmt)(ps:List Str):Prop:=∀ (kV doc pm:Value) (an:Option Addr) (cdv ct:Value),Jo ps.length fun us=>bindArgs (PySem.W.fnOf x qual (fC st) (fj st) (aC st) .none kV doc pm an cdv ct) ⟨us,[]⟩=pure (ps.zip us)
theorem bg.of{x:Str}{st:Stmt}(M:List Str)(F:FA K mg x st)(h:OJ P w K mg base k (ps++M) ps x st sp)(len:∀ vs H Q E,sp vs H Q E→vs.length=ps.length:=by walk_at "ln")(S:jv (ps++M) ps (aC st):=by exact⟨rfl,rfl,rfl,by decide +kernel,rfl,by decide +kernel,by decide +kernel⟩)
  (hb:Jm x x st ps:=by (repeat intro _);rfl):bg P w K mg base (k+1) x ps sp:=by
 obtain⟨f,fd,F,e⟩:=F
 exact⟨f,fd,F.ok S len (fun cdv A outer s H vs Q E hr hs=>h S H Q E hr hs),e,F.kp,F.binds fun _ _ _ _ _ _ _ e=>(hb _ _ _ _ _ _).get e⟩
theorem de.of{m qual:Str}{C:Addr}{st:Stmt}(M:List Str)(F:MA K C m qual st)(h:OJ P w K mg base k (ps++M) ps qual st sp)(len:∀ vs H Q E,sp vs H Q E→vs.length=ps.length:=by walk_at "ln")(S:jv (ps++M) ps (aC st):=by exact⟨rfl,rfl,rfl,by decide +kernel,rfl,by decide +kernel,by decide +kernel⟩)
  (hb:Jm m qual st ps:=by (repeat intro _);rfl):de P w K mg base (k+1) C m ps sp:=by
 obtain⟨f,fd,F,e⟩:=F
 exact⟨f,fd,F.ok S len (fun cdv A outer s H vs Q E hr hs=>h S H Q E hr hs),e,F.binds fun _ _ _ _ _ _ _ e=>(hb _ _ _ _ _ _).get e⟩
theorem qL.of{x qual:Str}{C:Addr}{st:Stmt}(M:List Str)(F:∃ f fd,wF K "__init__" qual st f fd∧Mk K C f)(e:mg x=some (.ref C))(h:OJ P w K mg base k (ps++M) ps qual st sp)(len:∀ vs H Q E,sp vs H Q E→vs.length=ps.length:=by walk_at "ln")
  (S:jv (ps++M) ps (aC st):=by exact⟨rfl,rfl,rfl,by decide +kernel,rfl,by decide +kernel,by decide +kernel⟩)
  (hb:Jm "__init__" qual st ps:=by (repeat intro _);rfl):qL P w K mg base (k+1) x C ps sp:=by
 obtain⟨f,fd,F,m⟩:=F
 exact⟨f,fd,F.ok S len (fun cdv A outer s H vs Q E hr hs=>h S H Q E hr hs),m,e,F.binds fun _ _ _ _ _ _ _ e=>(hb _ _ _ _ _ _).get e⟩
end
def bG(mg:Str→Option Value)(x:Str)(n:Int):Prop:=∃ t,mg x=some (.int n t)
section
variable{X:Cx}{e:Expr}{es:List Expr}{t:TA}{te ta tv:TE}{p pos apos tpos:Pos}{x m f:Str}{k:Nat}{ps:List Str}{sp:Sp}{C:Addr}
theorem am(h:bG X.mg x n)(hg:Gl X x:=by rfl)(hd:(x==("__debug__":Str))=false:=by decide):PE X (.Name x pos) (tC (.int n)):=by
 obtain⟨t,e⟩:=h;exact DO hg e ⟨_,rfl⟩ hd
def J9(sp:Sp)(t:TA):TE:=fun σ H Q=>t σ H fun vs H1=>sp vs H1 Q E0
theorem aA(F:bg X.prog X.w X.K X.mg X.base k x ps sp)(hr:eJ k X.A)(ha:PA X (e::es) t)(hg:Gl X x:=by rfl)(hdb:(x==("__debug__":Str))=false:=by decide)
  (he:starEach (e::es) X.env=(false,eval e X.env)::starEach es X.env:=by rfl) (hpl:(backTo pos (starEach es X.env)).any (·.1)=false:=by rfl):PE X (.Call (.Name x p) (e::es) [] pos) (J9 sp t):=by
 obtain⟨f,fd,F,hm,hk,hb⟩:=F;have q:=Il (E:=E0) (p:=p) (pos:=pos) F hr hg hm hk hb .nil u9 ha hdb he hpl;have e:xI sp [] E0 t=J9 sp t:=by
  funext σ H Q;unfold xI J9;simp only[append_nil]
 rw[e] at q;exact q
theorem Gq(F:bg X.prog X.w X.K X.mg X.base k x ps sp)(hr:eJ k X.A)(hg:Gl X x:=by rfl)(hdb:(x==("__debug__":Str))=false:=by decide):PE X (.Call (.Name x p) [] [] pos) (J9 sp uw):=by
 obtain⟨f,fd,F,hm,hk,hb⟩:=F;have q:=Gr (E:=E0) (p:=p) (pos:=pos) F hr hg hm hk hb .nil u9 hdb;have e:xI sp [] E0 uw=J9 sp uw:=by
  funext σ H Q;unfold xI J9;simp only[append_nil]
 rw[e] at q;exact q
def LV(C:Addr)(m:Str)(sp:Sp)(ta:TE)(t:TA):TE:=fun σ H Q=>ta σ H fun x H1=>∃ a dx fs,x=.ref a∧H1 a=some (.ins C dx fs)∧fs.lookup m=none∧t σ H1 fun vs H2=>sp (x::vs) H2 Q E0
theorem Ag:Du C m sp [] E0 ta t=LV C m sp ta t:=by
 funext σ H Q;unfold Du LV;simp only[append_nil]
theorem dv{pl:Sem Bool}(c:rR X.K C)(F:de X.prog X.w X.K X.mg X.base k C m ps sp)(hr:eJ k X.A)(he:PE X o ta)(ha:PA X (e::es) t)
  (hst:starEach (e::es) X.env=(false,eval e X.env)::starEach es X.env:=by rfl) (hpl:(backTo pos (starEach es X.env)).any (·.1)=false:=by rfl)
  (ht:eval (.Call (.Attribute o m apos) (e::es) [] pos) X.env=(do
   let ov ←eval o X.env
   standAt apos.atName
   let (f,first) ←holding [ov] (getMethod ov m pl)
   callWith pos f first (backTo pos (starEach (e::es) X.env)) (backToKw pos (keywordEach [] X.env))):=by rfl):PE X (.Call (.Attribute o m apos) (e::es) [] pos) (LV C m sp ta t):=by
 obtain⟨f,fd,F,hm,hb⟩:=F;have q:=Ii (E:=E0) (pos:=pos) (apos:=apos) (pl:=pl) he c hm F hr hb .nil u9 ha hst hpl ht;rw[Ag] at q;exact q
theorem aO{pl:Sem Bool}(c:rR X.K C)(F:de X.prog X.w X.K X.mg X.base k C m ps sp)(hr:eJ k X.A)(he:PE X o ta)
  (ht:eval (.Call (.Attribute o m apos) [] [] pos) X.env=(do
   let ov ←eval o X.env
   standAt apos.atName
   let (f,first) ←holding [ov] (getMethod ov m pl)
   callWith pos f first (backTo pos (starEach [] X.env)) (backToKw pos (keywordEach [] X.env))):=by rfl):PE X (.Call (.Attribute o m apos) [] [] pos) (LV C m sp ta uw):=by
 obtain⟨f,fd,F,hm,hb⟩:=F;have q:=Gm (E:=E0) (pos:=pos) (apos:=apos) (pl:=pl) he c hm F hr hb .nil u9 ht;rw[Ag] at q;exact q
def LX(C:Addr)(sp:Sp)(t:TA):TE:=fun σ H Q=>t σ H fun vs H1=>∀ x dx,H1 x=none→H1 dx=none→dx≠x →
 sp (.ref x::vs) (upd (upd H1 dx (.own x)) x (.ins C dx [])) (fun v H2=>v=.non∧Q (.ref x) H2) E0
theorem Ah:Dv C sp [] E0 t=LX C sp t:=by
 funext σ H Q;unfold Dv LX;simp only[append_nil]
theorem fU(F:qL X.prog X.w X.K X.mg X.base k x C ps sp)(hr:eJ (k+1) X.A)(ha:PA X (e::es) t)(hg:Gl X x:=by rfl)(hdb:(x==("__debug__":Str))=false:=by decide)
  (he:starEach (e::es) X.env=(false,eval e X.env)::starEach es X.env:=by rfl) (hpl:(backTo pos (starEach es X.env)).any (·.1)=false:=by rfl):PE X (.Call (.Name x p) (e::es) [] pos) (LX C sp t):=by
 obtain⟨f,fd,F,M,hm,hb⟩:=F;have q:=Ij (E:=E0) (p:=p) (pos:=pos) M F hr hg hm hb .nil u9 ha hdb he hpl;rw[Ah] at q;exact q
theorem u7(F:qL X.prog X.w X.K X.mg X.base k x C ps sp)(hr:eJ (k+1) X.A)(hg:Gl X x:=by rfl)(hdb:(x==("__debug__":Str))=false:=by decide):PE X (.Call (.Name x p) [] [] pos) (LX C sp uw):=by
 obtain⟨f,fd,F,M,hm,hb⟩:=F;have q:=Gn (E:=E0) (p:=p) (pos:=pos) M F hr hg hm hb .nil u9 hdb;rw[Ah] at q;exact q
def OP(C:Addr)(ta:TE)(f:Str):TE:=fun σ H Q=>ta σ H fun x H1=>∃ a dx fs v,x=.ref a∧H1 a=some (.ins C dx fs)∧fs.lookup f=some v∧Q v H1
theorem ah(c:rR X.K C)(n:aK X.K C f)(he:PE X e ta)(hb:attributeBase e f X.env (eval e X.env)=eval e X.env:=by rfl):PE X (.Attribute e f pos) (OP C ta f):=by
 intro pins s σ H Q I h;refine Je hb (dL (he pins s σ H _ I h) fun u s1 y=>?_)
 obtain⟨x,H1,I1,r,a,dx,fs,v,ex,ha,hl,q⟩:=y;subst ex;cases r;exact vI I1 ha c n hl fun u' s' I' r'=>⟨v,H1,I',r',q⟩
def OQ(C:Addr)(ta tv:TE)(f:Str):TS:=fun D σ H=>tv σ H fun y H1=>ta σ H1 fun x H2=>∃ a dx fs,x=.ref a∧H2 a=some (.ins C dx fs)∧fs.length<1000∧D.nx σ (upd H2 a (.ins C dx (be f y fs)))
theorem aV(c:rR X.K C)(n:aK X.K C f)(ha:PE X o ta)(hv:PE X value tv)(hs:swapsWith value (some (.Attribute o f pos')) pos.line X.env=pure false:=by rfl):PS X (.Assign [.Attribute o f pos'] value pos) (OQ C ta tv f):=by
 intro pins s σ H D I h;refine plainObj_wpAny_Assign_Attribute (dL (hv pins s σ H _ I h) fun u s1 ⟨y,H1,I1,ry,q⟩=>dL (ha pins s1 σ H1 _ I1 q) fun ov s2 ⟨x,H2,I2,rx,a,dx,fs,ex,ea,l,q2⟩=>?_) hs
 subst ex;obtain rfl:ov=Value.ref a:=rx;exact uE I2 ea c n l ry fun s3 I3=>⟨σ,_,I3,q2⟩
def MJ(C:Addr)(ta tv:TE)(f:Str):TS:=fun D σ H=>ta σ H fun x H1=>∃ a dx fs i,x=.ref a∧H1 a=some (.ins C dx fs)∧fs.lookup f=some (.int i)∧tv σ H1 fun y H2=>∃ j dx' fs',y=.int j∧H2 a=some (.ins C dx' fs')∧fs'.length<1000∧D.nx σ (upd H2 a (.ins C dx' (be f (.int (i+j)) fs')))
theorem mJ(c:rR X.K C)(n:aK X.K C f)(ha:PE X o ta)(hv:PE X value tv):PS X (.AugAssign (.Attribute o f tpos) .Add value pos) (MJ C ta tv f):=by
 intro pins s σ H D I h;refine wpAny_AugAssign_AttributeAny (dL (ha pins s σ H _ I h) fun ov s1 y=>?_)
 obtain⟨x,H1,I1,rx,a,dx,fs,i,ex,ea,l,q⟩:=y;subst ex;obtain rfl:ov=Value.ref a:=rx;refine vI I1 ea c n l fun u s2 I2 ru=>dL (hv pins s2 σ H1 _ I2 q) fun w3 s3 yy=>?_
 obtain⟨y,H2,I3,ry,j,dx',fs',ey,ea',l',q4⟩:=yy;subst ey;refine dL (Ld pins s3 σ H2 (.int i) (.int j) u w3 (fun v H=>v=.int (i+j)∧H=H2) I3 ru ry ⟨i,j,rfl,rfl,rfl,rfl⟩) fun w4 s4 y=>?_
 obtain⟨z,H3,I4,rz,ez,eH⟩:=y;subst ez eH;exact uE I4 ea' c n l' rz fun s5 I5=>⟨σ,_,I5,q4⟩
def FB(K:PySem.W.Frag)(mg:Str→Option Value)(x:Str)(xs:List V):Prop:=∃ a,mg x=some (.ref a)∧∀ H,lP K H a xs
def OO(K:PySem.W.Frag)(xs:List V):TE:=fun _ H Q=>∀ a,lP K H a xs→Q (.ref a) H
theorem MZ(h:FB X.K X.mg x xs)(hg:Gl X x:=by rfl)(hd:(x==("__debug__":Str))=false:=by decide):PE X (.Name x pos) (OO X.K xs):=by
 obtain⟨a,e,hs⟩:=h;intro pins s σ H Q I h;exact DO (v:=.ref a) hg e rfl hd pins s σ H Q I (h a (hs H))
end
def xD(D:Addr)(H H':Hp):Prop:=∀ b o,H b=some o→b≠D→H' b=some o
theorem ai.ext(h:ai H H'):xD D H H':=fun b o e _=>h b o e
theorem ai.refl:ai H H:=fun _ _ e=>e
theorem ai.new(h:H a=Option.none):ai H (upd H a o):=fun b u e=>by rw[ao (au e h)];exact e
theorem xD.upd(h:xD D H H'):xD D H (L2.upd H' D o):=fun b u e hb=>by rw[ao hb];exact h b u e hb
theorem Ds{σ:L2.St}{H:Hp}{A B:Hp→Prop}:(Cb σ H fun b H3=>if b=true then A H3 else B H3)=A H:=by
 show (if true=true then A H else B H)=A H
 exact if_pos rfl
theorem AW{J:It}{g:TG}{te:TE}{vs:List Nat}{σ:L2.St}{Qd:Hp→Prop}(n:Nat)(Rel:Nat→V→Hp→Prop)(hD:H1 D=none)(hn:n<sizeLine)
  (mono:∀ i y H H',Rel i y H→xD D H H'→Rel i y H') (go:∀ i H,i<n→ai H1 H→J.go i H) (stop:∀ H,ai H1 H→J.stop n H)
  (turn:∀ i x H H' (Kt:VK),i<n→ai H1 H→H D≠none→J.yld i H x H'→(∀ y H4,ai H H4→Rel i y H4→Kt y H4)→g x (bh σ vs) H' fun σ2 H2=>bh σ2 vs=bh σ vs∧te σ2 H2 Kt)
  (dO:∀ H' ys,ys.length=n→(∀ i y,ys[i]?=some y→Rel i y H')→H' D=some (.lst ys)→ai H1 H'→Qd H') :
  ∃ W:Nat→Nat→Hp→Prop,(∃ m,W 0 m (upd H1 D (.lst [])))∧∀ i m H,W i m H →
   (J.stop i H∧Qd H)∨(J.go i H∧∃ Nx:Hp→Prop,(∀ H',Nx H'→∃ m',m'<m∧W (i+1) m' H')∧∀ x H',J.yld i H x H'→g x (bh σ vs) H' fun σ2 H2=>bh σ2 vs=bh σ vs∧Cb σ2 H2 fun b H3 =>
    if b=true then te σ2 H3 fun y H4=>∃ acc,H4 D=some (.lst acc)∧acc.length<sizeLine∧Nx (upd H4 D (.lst (acc++[y]))) else Nx H3):=by
 refine⟨fun i m H=>m+i=n∧ai H1 H∧∃ ys:List V,ys.length=i∧H D=some (.lst ys)∧∀ j y,ys[j]?=some y→Rel j y H,⟨n,by lia,ai.new hD,[],rfl,af,fun j y e=>by simp at e⟩,?_⟩
 rintro i m H ⟨em,hs,ys,hl,hd,hr⟩
 by_cases hi:i=n
 ·subst hi;exact .inl ⟨stop H hs,dO H ys hl hr hd hs⟩
 ·have hi':i<n:=by lia
  refine .inr ⟨go i H hi' hs,fun H'=>m - 1+(i+1)=n∧ai H1 H'∧∃ ys:List V,ys.length=i+1∧H' D=some (.lst ys)∧∀ j y,ys[j]?=some y→Rel j y H',fun H' h=>⟨m - 1,by lia,h⟩,fun x H' hy=>?_⟩
  have q:=turn i x H H' (fun y H4=>∃ acc,H4 D=some (.lst acc)∧acc.length<sizeLine∧(m - 1+(i+1)=n∧ai H1 (upd H4 D (.lst (acc++[y])))∧∃ ys:List V,ys.length=i+1∧(upd H4 D (.lst (acc++[y]))) D=some (.lst ys)∧∀ j z,ys[j]?=some z→Rel j z (upd H4 D (.lst (acc++[y]))))) hi' hs (by rw[hd];exact fun z=>nomatch z) hy ?_
  ·simp only[Ds];exact q
  ·intro y H4 s4 r4;have hd4:=s4 D _ hd;refine⟨ys,hd4,by lia,by lia,fun b o e=>?_,ys++[y],by rw[length_append,hl];rfl,af,fun j z e=>?_⟩
   ·rw[ao (au e hD)];exact s4 b o (hs b o e)
   ·rcases Nat.lt_or_ge j ys.length with hj | hj
    ·rw[getElem?_append_left hj] at e;exact mono j z H _ (hr j z e) (ai.ext s4).upd
    ·rw[getElem?_append_right hj] at e;have hj0:j - ys.length=0:=by
      rcases Nat.eq_zero_or_pos (j - ys.length) with hz | hz
      ·exact hz
      ·rw[getElem?_eq_none (by show 1≤_;exact hz)] at e;cases e
     rw[hj0] at e;have ej:j=i:=by lia
     subst ej;have ey:y=z:=Option.some.inj e;subst ey;exact mono j y H4 _ r4 (xD.upd (fun b o e _=>e))
section
variable{H:Hp}{Q:VK}{E:XK}{σ:L2.St}{a b c:Int}
theorem JH:Ge g (.int a) (.int b) H Q=Q (g a b) H:=rfl
theorem Of:rI C g (.int a) (.int b) H Q=(C a b∧Q (g a b) H):=rfl
theorem Oe:rU g (.int a) H Q=Q (g a) H:=rfl
theorem KF:Oh (.int a) (.int b) H Q=Q (.bl (decide (a=b))) H:=rfl
theorem KD:OR (.int a) (.int b) H Q=Q (.bl (!decide (a=b))) H:=rfl
theorem KG{a b:Bool}:Oh (.bl a) (.bl b) H Q=Q (.bl (decide (a=b))) H:=rfl
theorem MT:Ot f (.int a) (.int b) H Q=Q (.int (f a b)) H:=rfl
theorem MK:EA i σ H Q=Om (sl σ i) fun v=>Q v H:=rfl
theorem KC:sl (v::l) 0=v:=rfl
theorem KB:sl (v::l) (i+1)=sl l i:=rfl
theorem MO{α β:Type}{f:α→β}{x:α}{l:List α}:List.map f (x::l)=f x::List.map f l:=rfl
theorem MN{α β:Type}{f:α→β}:List.map f []=[]:=rfl
theorem ML:Om (some v) k=k v:=rfl
theorem ob{b:Bool}{k:Bool→Prop}(h:k b):Ir (.bl b) k:=h
theorem MM{b:Bool}{k:Bool→Prop}:Ir (.bl b) k=k b:=rfl
def m0:List V→Prop→Prop
 | [],p=>p
 | _,_=>False
def mI:List V→(Int→List V→Prop)→Prop
 | .int i::l,k=>k i l
 | _,_=>False
theorem M5(h:m0 l p):l=[]∧p:=by
 cases l with
 | nil=>exact⟨rfl,h⟩
 | cons=>exact h.elim
theorem AT(h:mI l k):∃ i r,l=.int i::r∧k i r:=by
 cases l with
 | nil=>exact h.elim
 | cons x r=>cases x<;>first | exact⟨_,_,rfl,h⟩ | exact h.elim
def m1(l:List V)(k:Int→Prop):Prop:=mI l fun i l=>m0 l (k i)
def m2(l:List V)(k:Int→Int→Prop):Prop:=mI l fun i l=>m1 l (k i)
def m3(l:List V)(k:Int→Int→Int→Prop):Prop:=mI l fun i l=>m2 l (k i)
def m4(l:List V)(k:Int→Int→Int→Int→Prop):Prop:=mI l fun i l=>m3 l (k i)
def m5(l:List V)(k:Int→Int→Int→Int→Int→Prop):Prop:=mI l fun i l=>m4 l (k i)
theorem JO(h:m1 l k):∃ i,l=[.int i]∧k i:=by
 obtain⟨i,r,rfl,h⟩:=AT h;obtain⟨rfl,h⟩:=M5 h;exact⟨i,rfl,h⟩
theorem JN(h:m2 l k):∃ i0 i1,l=[.int i0,.int i1]∧k i0 i1:=by
 obtain⟨i,r,rfl,h⟩:=AT h;obtain⟨i1,rfl,h⟩:=JO h;exact⟨i,i1,rfl,h⟩
theorem M4(h:m3 l k):∃ i0 i1 i2,l=[.int i0,.int i1,.int i2]∧k i0 i1 i2:=by
 obtain⟨i,r,rfl,h⟩:=AT h;obtain⟨i1,i2,rfl,h⟩:=JN h;exact⟨i,i1,i2,rfl,h⟩
theorem JM(h:m4 l k):∃ i0 i1 i2 i3,l=[.int i0,.int i1,.int i2,.int i3]∧k i0 i1 i2 i3:=by
 obtain⟨i,r,rfl,h⟩:=AT h;obtain⟨i1,i2,i3,rfl,h⟩:=M4 h;exact⟨i,i1,i2,i3,rfl,h⟩
theorem M3(h:m5 l k):∃ i0 i1 i2 i3 i4,l=[.int i0,.int i1,.int i2,.int i3,.int i4]∧k i0 i1 i2 i3 i4:=by
 obtain⟨i,r,rfl,h⟩:=AT h;obtain⟨i1,i2,i3,i4,rfl,h⟩:=JM h;exact⟨i,i1,i2,i3,i4,rfl,h⟩
def F1(C:Int→Prop)(g:Int→V):Sp:=fun vs H Q _=>m1 vs fun i=>C i∧Q (g i) H
def MG(C:Int→Int→Prop)(g:Int→Int→V):Sp:=fun vs H Q _=>m2 vs fun i j=>C i j∧Q (g i j) H
def NO(C:Int→Int→Int→Int→Prop)(g:Int→Int→Int→Int→V):Sp:=fun vs H Q _=>m4 vs fun i j k l=>C i j k l∧Q (g i j k l) H
def NM(C:Int→Int→Int→Int→Int→Prop)(g:Int→Int→Int→Int→Int→V):Sp:=fun vs H Q _=>m5 vs fun i j k l m=>C i j k l m∧Q (g i j k l m) H
theorem jz{C g}(h:F1 C g vs H Q E):∃ i,vs=[.int i]∧C i∧Q (g i) H:=JO h
theorem yI{C g}(h:MG C g vs H Q E):∃ i j,vs=[.int i,.int j]∧C i j∧Q (g i j) H:=JN h
theorem Ch{C g}(h:NO C g vs H Q E):∃ i j k l,vs=[.int i,.int j,.int k,.int l]∧C i j k l∧Q (g i j k l) H:=JM h
theorem Cg{C g}(h:NM C g vs H Q E):∃ i j k l m,vs=[.int i,.int j,.int k,.int l,.int m]∧C i j k l m∧Q (g i j k l m) H:=M3 h
theorem NQ{C g}:∀ vs H Q E,F1 C g vs H Q E→vs.length=1:=fun vs H Q E h=>by obtain⟨i,rfl,_⟩:=jz h;rfl
theorem NP{C g}:∀ vs H Q E,MG C g vs H Q E→vs.length=2:=fun vs H Q E h=>by obtain⟨i,j,rfl,_⟩:=yI h;rfl
theorem NN{C g}:∀ vs H Q E,NO C g vs H Q E→vs.length=4:=fun vs H Q E h=>by obtain⟨i,j,k,l,rfl,_⟩:=Ch h;rfl
theorem NL{C g}:∀ vs H Q E,NM C g vs H Q E→vs.length=5:=fun vs H Q E h=>by obtain⟨i,j,k,l,m,rfl,_⟩:=Cg h;rfl
theorem KA{C g}:F1 C g [.int a] H Q E=(C a∧Q (g a) H):=rfl
theorem Kz{C g}:MG C g [.int a,.int b] H Q E=(C a b∧Q (g a b) H):=rfl
theorem Ky{C g}:NO C g [.int a,.int b,.int d,.int e] H Q E=(C a b d e∧Q (g a b d e) H):=rfl
theorem Kx{C g}:NM C g [.int a,.int b,.int d,.int e,.int f] H Q E=(C a b d e f∧Q (g a b d e f) H):=rfl
end
section
variable{X:Cx}
theorem DS:NZ X "int.bit_length" (fun x xs H Q=>∃ i,x=.int i∧xs=[]∧Q (.int (QM.bl i)) H):=by
 intro pins s σ H x xs v us Q I rx rs h;obtain⟨i,rfl,rfl,q⟩:=h;obtain⟨t,rfl⟩:=rx;cases rs;exact call_gives PySem.F.slot_int_bit_length (typeIs_int _ _ _) PySem.F.entry_int_bit_length (PySem.F.args_int_bit_length_1 _) (PySem.AutoIntG2.int_bit_length_int_0 i t) ⟨.int (QM.bl i),H,I.tok _,⟨_,rfl⟩,q⟩
def Iz(i j k:Int):Int:=if j>i then (if k>j then k else j) else (if k>i then k else i)
theorem Fs(hc:X.calm=true):jw X (.builtin "max") (fun xs H Q=>∃ i j k,xs=[.int i,.int j,.int k]∧Q (.int (Iz i j k)) H):=by
 intro pins s σ H xs us Q I r h;obtain⟨i,j,k,rfl,q⟩:=h
 cases r with
 | cons r1 r =>
  cases r with
  | cons r2 r =>
   cases r with
   | cons r3 r =>
    cases r;obtain⟨t1,rfl⟩:=r1
    obtain⟨t2,rfl⟩:=r2;obtain⟨t3,rfl⟩:=r3;refine max_three_ints (I.ok.hd hc) fun h' tk kk=>⟨_,H,I.kept kk,?_,q⟩
    unfold Iz
    by_cases h1:j>i<;>by_cases h2:k>j<;>by_cases h3:k>i<;>simp only[h1,h2,h3,if_true,if_false]<;>exact⟨_,rfl⟩
end
end QB
namespace QB
open PySem PySem.Spec PyProof.Rows L2
abbrev iv(l:List Int):List V:=l.map V.int
def jU(H:Hp)(l:List Int)(Q:VK):Prop:=∀ p H',ai H H'→H p=none→H' p=some (.lst (iv l))→Q (.ref p) H'
def nv(H:Hp)(v:V)(Q:VK):Prop:=∀ H',ai H H'→Q v H'
def LL(H:Hp)(as:List Addr)(ll:List (List Int)):Prop:=as.length=ll.length∧∀ (i:Nat) (b:Addr) (l:List Int),as[i]?=some b→ll[i]?=some l→H b=some (.lst (iv l))
def Aa(H:Hp)(a:Addr)(ll:List (List Int)):Prop:=∃ as:List Addr,H a=some (.lst (as.map V.ref))∧LL H as ll
theorem LL.same(h:LL H as ll)(s:ai H H'):LL H' as ll:=⟨h.1,fun i b l e1 e2=>s _ _ (h.2 i b l e1 e2)⟩
theorem Aa.same(h:Aa H a ll)(s:ai H H'):Aa H' a ll:=let ⟨as,e,h⟩:=h;⟨as,s _ _ e,h.same s⟩
theorem LL.at{H:Hp}{as:List Addr}{ll:List (List Int)}(h:LL H as ll){i:Nat}{b:Addr}(e:as[i]?=some b):∃ l,ll[i]?=some l∧H b=some (.lst (iv l)):=by
 have hi:i<ll.length:=by rw[←h.1];exact (List.getElem?_eq_some_iff.mp e).1
 exact⟨ll[i],getElem?_eq_getElem hi,h.2 i b _ e (getElem?_eq_getElem hi)⟩
theorem LL.at'{H:Hp}{as:List Addr}{ll:List (List Int)}(h:LL H as ll){i:Nat}{l:List Int}(e:ll[i]?=some l):∃ b,as[i]?=some b∧H b=some (.lst (iv l)):=by
 have hi:i<as.length:=by rw[h.1];exact (List.getElem?_eq_some_iff.mp e).1
 exact⟨as[i],getElem?_eq_getElem hi,h.2 i _ l (getElem?_eq_getElem hi) e⟩
def oI(H:Hp)(ll:List (List Int))(Q:VK):Prop:=∀ p as H',ai H H'→H p=none→(∀ b∈as,H b=none∧b≠p)→H' p=some (.lst (as.map V.ref))→LL H' as ll→Q (.ref p) H'
theorem oI.mono(h:oI H ll Q)(s:ai H H1):oI H1 ll Q:=fun p as H' s' n na e=>h p as H' (s.trans s') (s.free n) (fun b hb=>⟨s.free (na b hb).1,(na b hb).2⟩) e
theorem bR{as:List Addr}{i:Nat}{x:V}(e:(as.map V.ref)[i]?=some x):∃ b,as[i]?=some b∧x=.ref b:=by
 rw[getElem?_map] at e
 cases h:as[i]? with
 | none=>rw[h] at e;cases e
 | some b=>rw[h] at e;exact⟨b,rfl,(Option.some.inj e).symm⟩
theorem fq{l:List Int}{i:Nat}{x:V}(e:(iv l)[i]?=some x):∃ n,l[i]?=some n∧x=.int n:=by
 rw[getElem?_map] at e
 cases h:l[i]? with
 | none=>rw[h] at e;cases e
 | some b=>rw[h] at e;exact⟨b,rfl,(Option.some.inj e).symm⟩
theorem M7{l:List Int}{z:Int}{j:Nat}(e:z=(j:Int))(h:j<l.length):JZ (iv l) z=some (.int (l.getD j 0)):=by
 refine Eo e ?_
 rw[getElem?_map,getElem?_eq_getElem h,getD_eq_getElem?_getD,getElem?_eq_getElem h];rfl
theorem IC{J:It}{g:TG}{te:TE}{vs:List Nat}{σ:L2.St}{Qd:Hp→Prop}(n:Nat)(f:Nat→V)(hD:H1 D=none)(hn:n<sizeLine)
  (go:∀ i H,i<n→ai H1 H→J.go i H) (stop:∀ H,ai H1 H→J.stop n H)
  (turn:∀ i x H H' (Kt:VK),i<n→ai H1 H→J.yld i H x H'→(∀ H4,ai H H4→Kt (f i) H4)→g x (bh σ vs) H' fun σ2 H2=>bh σ2 vs=bh σ vs∧te σ2 H2 Kt)
  (dO:∀ H',H' D=some (.lst ((List.range n).map f))→ai H1 H'→Qd H') :
  ∃ W:Nat→Nat→Hp→Prop,(∃ m,W 0 m (upd H1 D (.lst [])))∧∀ i m H,W i m H →
   (J.stop i H∧Qd H)∨(J.go i H∧∃ Nx:Hp→Prop,(∀ H',Nx H'→∃ m',m'<m∧W (i+1) m' H')∧∀ x H',J.yld i H x H'→g x (bh σ vs) H' fun σ2 H2=>bh σ2 vs=bh σ vs∧Cb σ2 H2 fun b H3 =>
    if b=true then te σ2 H3 fun y H4=>∃ acc,H4 D=some (.lst acc)∧acc.length<sizeLine∧Nx (upd H4 D (.lst (acc++[y]))) else Nx H3):=by
 refine AW n (fun i y _=>y=f i) hD hn (fun _ _ _ _ h _=>h) go stop (fun i x H H' Kt hi hs _ hy hk=>turn i x H H' Kt hi hs hy fun H4 s4=>hk _ H4 s4 rfl) fun H' ys hl hr hd hs=>?_
 have e:ys=(List.range n).map f:=by
  apply ext_getElem?;intro i
  by_cases hi:i<n
  ·have e1:ys[i]?=some (ys[i]'(by lia)):=getElem?_eq_getElem (by lia)
   rw[e1,hr i _ e1,getElem?_map,getElem?_range hi];rfl
  ·rw[getElem?_eq_none (by lia),getElem?_eq_none (by simpa using Nat.le_of_not_lt hi)]
 rw[e] at hd;exact dO H' hd hs
theorem BM:∀ ys:List V,(∀ y∈ys,∃ a,y=.ref a)→∃ as:List Addr,ys=as.map V.ref
 | [],_=>⟨[],rfl⟩
 | y::ys,h=>by
  obtain⟨a,rfl⟩:=h y mem_cons_self;obtain⟨as,rfl⟩:=BM ys fun z hz=>h z (mem_cons_of_mem _ hz)
  exact⟨a::as,rfl⟩
theorem GE{J:It}{g:TG}{te:TE}{vs:List Nat}{σ:L2.St}{Qd:Hp→Prop}(n:Nat)(f:Nat→List Int)(hD:H1 D=none)(hn:n<sizeLine)
  (go:∀ i H,i<n→ai H1 H→J.go i H) (stop:∀ H,ai H1 H→J.stop n H)
  (turn:∀ i x H H' (Kt:VK),i<n→ai H1 H→J.yld i H x H'→jU H (f i) Kt→g x (bh σ vs) H' fun σ2 H2=>bh σ2 vs=bh σ vs∧te σ2 H2 Kt)
  (dO:∀ H' as,(∀ b∈as,H1 b=none∧b≠D)→LL H' as ((List.range n).map f)→H' D=some (.lst (as.map V.ref))→ai H1 H'→Qd H') :
  ∃ W:Nat→Nat→Hp→Prop,(∃ m,W 0 m (upd H1 D (.lst [])))∧∀ i m H,W i m H →
   (J.stop i H∧Qd H)∨(J.go i H∧∃ Nx:Hp→Prop,(∀ H',Nx H'→∃ m',m'<m∧W (i+1) m' H')∧∀ x H',J.yld i H x H'→g x (bh σ vs) H' fun σ2 H2=>bh σ2 vs=bh σ vs∧Cb σ2 H2 fun b H3 =>
    if b=true then te σ2 H3 fun y H4=>∃ acc,H4 D=some (.lst acc)∧acc.length<sizeLine∧Nx (upd H4 D (.lst (acc++[y]))) else Nx H3):=by
 refine AW n (fun i y H=>∃ a,y=.ref a∧H1 a=none∧a≠D∧H a=some (.lst (iv (f i)))) hD hn (fun i y H H' h x=>?_) go stop (fun i x H H' Kt hi hs hd hy hk=>turn i x H H' Kt hi hs hy fun p H4 s4 np e4=>hk _ H4 s4 ⟨p,rfl,hs.free np,fun z=>hd (by rw[←z];exact np),e4⟩) fun H' ys hl hr hd hs=>?_
 ·obtain⟨a,e1,e2,e3,e4⟩:=h
  exact⟨a,e1,e2,e3,x a _ e4 e3⟩
 ·obtain⟨as,e⟩:∃ as:List Addr,ys=as.map V.ref:=BM ys fun y hy=>by
   obtain⟨i,hi⟩:=getElem?_of_mem hy;obtain⟨a,e1,_⟩:=hr i y hi
   exact⟨a,e1⟩
  subst e;rw[length_map] at hl;have key:∀ i b,as[i]?=some b→H1 b=none∧b≠D∧H' b=some (.lst (iv (f i))):=fun i b e=>by
   obtain⟨a,e1,e2,e3,e4⟩:=hr i (.ref b) (by rw[getElem?_map,e];rfl)
   cases e1
   exact⟨e2,e3,e4⟩
  refine dO H' as (fun b hb=>?_) ⟨by simpa using hl,fun i b l e1 e2=>?_⟩ hd hs
  ·obtain⟨i,hi⟩:=getElem?_of_mem hb
   exact⟨(key i b hi).1,(key i b hi).2.1⟩
  ·have hi:i<n:=by rw[←hl];exact (List.getElem?_eq_some_iff.mp e1).1
   rw[getElem?_map,getElem?_range hi] at e2
   have:f i=l:=Option.some.inj e2
   rw[←this];exact (key i b e1).2.2
theorem DH{n:Nat}{c j:Int}(hc:0<c)(hj:j=c*(n:Int)):Builtin.Range.rangeSize 0 j c=n:=by
 unfold Builtin.Range.rangeSize;rw[if_pos hc];rcases Nat.eq_zero_or_pos n with h | h
 ·subst h;rw[if_neg (by rw[hj];simp)];rfl
 ·have hj1:0<j:=by rw[hj];exact Int.mul_pos hc (by lia)
  rw[if_pos hj1];have e:j - 0 - 1=(c - 1)+c*((n:Int) - 1):=by rw[hj,Int.mul_sub];lia
  rw[e,Int.add_mul_ediv_left _ _ (by lia),Int.ediv_eq_zero_of_lt (by lia) (by lia)];lia
theorem Co{n:Nat}{c j:Int}(hc:0<c)(hc2:c<1073741824)(hj:j=c*(n:Int))(hn:n≤1073741824):Np 0 j c n:=by
 refine⟨by lia,by lia,?_,DH hc hj⟩
 have h1:0≤j:=by rw[hj];exact Int.mul_nonneg (by lia) (by lia)
 have h2:j≤1073741824*1073741824:=by
  rw[hj];exact Int.mul_le_mul (by lia) (by lia) (by lia) (by decide)
 unfold Builtin.Range.small;rw[DH hc hj];simp only[Builtin.Range.rangeFitsLong,Bool.and_eq_true,Bool.or_eq_true,decide_eq_true_eq,beq_iff_eq];refine⟨⟨⟨⟨⟨by decide,by decide⟩,by lia,by lia⟩,by lia,by lia⟩,by lia,by lia⟩,?_⟩
 right
 rw[if_pos hc,Bool.and_eq_true,decide_eq_true_eq,decide_eq_true_eq];lia
end QB
namespace QB
open PySem PySem.Spec PyProof.Rows L2
def BZ(J:It)(g:TG)(te:TE)(vs:List Nat)(σ:L2.St)(H1:Hp)(D:Addr)(Qd:Hp→Prop):Prop :=
 ∃ W:Nat→Nat→Hp→Prop,(∃ m,W 0 m (upd H1 D (.lst [])))∧∀ i m H,W i m H →
   (J.stop i H∧Qd H)∨(J.go i H∧∃ Nx:Hp→Prop,(∀ H',Nx H'→∃ m',m'<m∧W (i+1) m' H')∧∀ x H',J.yld i H x H'→g x (bh σ vs) H' fun σ2 H2=>bh σ2 vs=bh σ vs∧Cb σ2 H2 fun b H3 =>
    if b=true then te σ2 H3 fun y H4=>∃ acc,H4 D=some (.lst acc)∧acc.length<sizeLine∧Nx (upd H4 D (.lst (acc++[y]))) else Nx H3)
theorem J7:LW wi g Cb te vs σ H Q=wi σ H (fun J H1=>∀ D,H1 D=none→BZ J g te vs σ H1 D (fun H'=>Q (.ref D) H')):=rfl
def Dp(J:It)(g:TG)(tb:TS)(D:om)(σ:L2.St)(H1:Hp):Prop :=
 ∃ W:Nat→Nat→L2.St→Hp→Prop,(∃ m,W 0 m σ H1)∧∀ i m σ H,W i m σ H →
 (J.stop i H∧D.nx σ H)∨(J.go i H∧∃ N:L2.St→Hp→Prop,(∀ σ' H',N σ' H'→∃ m',m'<m∧W (i+1) m' σ' H')∧∀ x H',J.yld i H x H'→g x σ H' fun σ2 H2=>tb { D with nx:=N,ct:=N,bk:=D.nx } σ2 H2)
theorem Hx:LZ wi g tb D σ H=wi σ H (fun J H1=>Dp J g tb D σ H1):=rfl
theorem qk{J:It}{g:TG}{te:TE}{vs:List Nat}{σ:L2.St}{Qd:Hp→Prop}(n:Nat)(f:Nat→V)(hD:H1 D=none)(hn:n<sizeLine)
  (go:∀ i H,i<n→ai H1 H→J.go i H) (stop:∀ H,ai H1 H→J.stop n H)
  (turn:∀ i x H H' (Kt:VK),i<n→ai H1 H→J.yld i H x H'→(∀ H4,ai H H4→Kt (f i) H4)→g x (bh σ vs) H' fun σ2 H2=>bh σ2 vs=bh σ vs∧te σ2 H2 Kt)
  (dO:∀ H',H' D=some (.lst ((List.range n).map f))→ai H1 H'→Qd H'):BZ J g te vs σ H1 D Qd:=IC n f hD hn go stop turn dO
theorem rf{J:It}{g:TG}{te:TE}{vs:List Nat}{σ:L2.St}{Qd:Hp→Prop}(n:Nat)(f:Nat→List Int)(hD:H1 D=none)(hn:n<sizeLine)
  (go:∀ i H,i<n→ai H1 H→J.go i H) (stop:∀ H,ai H1 H→J.stop n H)
  (turn:∀ i x H H' (Kt:VK),i<n→ai H1 H→J.yld i H x H'→jU H (f i) Kt→g x (bh σ vs) H' fun σ2 H2=>bh σ2 vs=bh σ vs∧te σ2 H2 Kt)
  (dO:∀ H' as,(∀ b∈as,H1 b=none∧b≠D)→LL H' as ((List.range n).map f)→H' D=some (.lst (as.map V.ref))→ai H1 H'→Qd H'):BZ J g te vs σ H1 D Qd:=GE n f hD hn go stop turn dO
theorem vA{lo c:Int}{n k:Nat}{te:TE}{vs:List Nat}{σ:L2.St}{Qd:Hp→Prop}(f:Nat→V)(hD:H1 D=none)(hn:n<sizeLine)
  (turn:∀ i H (Kt:VK),i<n→ai H1 H→(∀ H4,ai H H4→Kt (f i) H4)→bh ((bh σ vs).set k (some (.int (lo+(i:Nat)*c)))) vs=bh σ vs∧te ((bh σ vs).set k (some (.int (lo+(i:Nat)*c)))) H Kt)
  (dO:∀ H',H' D=some (.lst ((List.range n).map f))→ai H1 H'→Qd H'):BZ (Nz lo c n) (db k) te vs σ H1 D Qd :=
 qk n f hD hn (fun i H hi _=>hi) (fun H _=>Nat.le_refl _) (fun i x H H' Kt hi hs hy hk=>by
  obtain⟨rfl,rfl⟩:=hy;exact turn i _ Kt hi hs hk) dO
theorem iZ{K:PySem.W.Frag}{a:Addr}{xs:List V}{k:Nat}{te:TE}{vs:List Nat}{σ:L2.St}{H1:Hp}{D:Addr}{Qd:Hp→Prop}(f:Nat→V)(hD:H1 D=none)(hx:aL K H1 a xs)(hn:xs.length<sizeLine)
  (turn:∀ i x H (Kt:VK),xs[i]?=some x→ai H1 H→(∀ H4,ai H H4→Kt (f i) H4)→bh ((bh σ vs).set k (some x)) vs=bh σ vs∧te ((bh σ vs).set k (some x)) H Kt)
  (dO:∀ H',H' D=some (.lst ((List.range xs.length).map f))→ai H1 H'→Qd H'):BZ (FJ K a) (db k) te vs σ H1 D Qd :=
 qk xs.length f hD hn (fun i H hi hs=>⟨xs,xs[i],hs.seq hx,getElem?_eq_getElem hi⟩) (fun H hs=>⟨xs,hs.seq hx,Nat.le_refl _⟩) (fun i x H H' Kt hi hs hy hk=>by
  obtain⟨rfl,hy⟩:=hy;exact turn i x _ Kt (hy xs (hs.seq hx)) hs hk) dO
theorem yf{K:PySem.W.Frag}{a:Addr}{xs:List V}{k:Nat}{te:TE}{vs:List Nat}{σ:L2.St}{H1:Hp}{D:Addr}{Qd:Hp→Prop}(f:Nat→List Int)(hD:H1 D=none)(hx:aL K H1 a xs)(hn:xs.length<sizeLine)
  (turn:∀ i x H (Kt:VK),xs[i]?=some x→ai H1 H→jU H (f i) Kt→bh ((bh σ vs).set k (some x)) vs=bh σ vs∧te ((bh σ vs).set k (some x)) H Kt)
  (dO:∀ H' as,(∀ b∈as,H1 b=none∧b≠D)→LL H' as ((List.range xs.length).map f)→H' D=some (.lst (as.map V.ref))→ai H1 H'→Qd H'):BZ (FJ K a) (db k) te vs σ H1 D Qd :=
 rf xs.length f hD hn (fun i H hi hs=>⟨xs,xs[i],hs.seq hx,getElem?_eq_getElem hi⟩) (fun H hs=>⟨xs,hs.seq hx,Nat.le_refl _⟩) (fun i x H H' Kt hi hs hy hk=>by
  obtain⟨rfl,hy⟩:=hy;exact turn i x _ Kt (hy xs (hs.seq hx)) hs hk) dO
theorem re{lo:Int}{n k:Nat}{te:TE}{vs:List Nat}{σ:L2.St}{Qd:Hp→Prop}(f:Nat→List Int)(hD:H1 D=none)(hn:n<sizeLine)
  (turn:∀ i H (Kt:VK),i<n→ai H1 H→jU H (f i) Kt→bh ((bh σ vs).set k (some (.int (lo+(i:Nat))))) vs=bh σ vs∧te ((bh σ vs).set k (some (.int (lo+(i:Nat))))) H Kt)
  (dO:∀ H' as,(∀ b∈as,H1 b=none∧b≠D)→LL H' as ((List.range n).map f)→H' D=some (.lst (as.map V.ref))→ai H1 H'→Qd H'):BZ (Jj lo n) (db k) te vs σ H1 D Qd :=
 rf n f hD hn (fun i H hi _=>hi) (fun H _=>Nat.le_refl _) (fun i x H H' Kt hi hs hy hk=>by
  obtain⟨rfl,rfl⟩:=hy;exact turn i _ Kt hi hs hk) dO
theorem qj{K:PySem.W.Frag}{a b:Addr}{xs ys:List V}{k l n:Nat}{te:TE}{vs:List Nat}{σ:L2.St}{H1:Hp}{D:Addr}{Qd:Hp→Prop}(f:Nat→V)(hD:H1 D=none)(hx:aL K H1 a xs)(hy:aL K H1 b ys)(hn:n=min xs.length ys.length)(hz:n<sizeLine)
  (turn:∀ i x y H (Kt:VK),xs[i]?=some x→ys[i]?=some y→ai H1 H→(∀ H4,ai H H4→Kt (f i) H4)→bh (((bh σ vs).set k (some x)).set l (some y)) vs=bh σ vs∧te (((bh σ vs).set k (some x)).set l (some y)) H Kt)
  (dO:∀ H',H' D=some (.lst ((List.range n).map f))→ai H1 H'→Qd H'):BZ (Ny K a b) (E8 K 2 (qs (db k) (qs (db l) GX))) te vs σ H1 D Qd:=by
 refine qk n f hD hz (fun i H hi hs=>⟨xs,ys,xs[i]'(by lia),ys[i]'(by lia),hs.seq hx,hs.seq hy,getElem?_eq_getElem _,getElem?_eq_getElem _⟩) (fun H hs=>⟨xs,ys,hs.seq hx,hs.seq hy,by lia⟩) (fun i x H H' Kt hi hs hY hk=>?_) dO
 obtain⟨T,x1,y1,rfl,hT,rfl,e1,e2⟩:=hY;refine⟨T,[x1,y1],rfl,.inl (.inl af),rfl,x1,[y1],rfl,y1,[],rfl,rfl,?_⟩;exact turn i x1 y1 _ Kt (e1 xs (hs.seq hx)) (e2 ys (hs.seq hy)) (hs.trans (ai.new hT)) fun H4 s4=>hk H4 ((ai.new hT).trans s4)
section
variable{X:Cx}{K:PySem.W.Frag}{e:Expr}{es:List Expr}{ta to:TE}{t:TA}{pos p apos cpos tpos:Pos}{x name:Str}
theorem GM(hK:X.K=K:=by rfl):Nw X (Ct K):=by subst hK;exact II
theorem IH(hK:X.K=K:=by rfl):Nw X (EN K):=by subst hK;exact La
theorem gX(hK:X.K=K:=by rfl):OA X (KI K):=by subst hK;exact HK
def DK(K:PySem.W.Frag):List V→Hp→VK→Prop:=fun xs H Q=>∃ p ys,xs=[.ref p]∧aL K H p ys∧Q (.int ys.length) H
theorem Ft(hK:X.K=K:=by rfl):jw X (.builtin "len") (DK K):=by
 subst hK;intro pins s σ H xs us Q I r h;obtain⟨p,ys,e,hs,q⟩:=h;exact zV pins s σ H xs us Q I r ⟨p,ys,e,.inl hs,q⟩
theorem Ja(hc:X.calm=true:=by rfl)(hK:X.K=K:=by rfl):jw X (.builtin "sum") (MU K):=by subst hK;exact Lr hc
theorem qC(hc:X.calm=true:=by rfl)(hK:X.K=K:=by rfl):jw X (.builtin "all") (KL K):=by subst hK;exact Lu hc
theorem Jb(hc:X.calm=true:=by rfl)(hK:X.K=K:=by rfl):jw X (.builtin "any") (KJ K):=by subst hK;exact Ls hc
theorem Gv(hK:X.K=K:=by rfl):ol X (compareOp .In) (Og K false):=by subst hK;exact ES
theorem Gp(h:FB K X.mg x xs)(hK:X.K=K:=by rfl)(hg:Gl X x:=by rfl)(hd:(x==("__debug__":Str))=false:=by decide):PE X (.Name x pos) (OO K xs):=by subst hK;exact MZ h hg hd
theorem gc{es:List Expr}{k:Nat}{t:LC}{n:Nat}(h:Nt X es t)(hc:X.calm=true:=by rfl)(hK:X.K=K:=by rfl)
  (hn:(assignEach es X.env).length=n:=by rfl) (hst:(assignEach es X.env).findIdx? (·.1)=none:=by rfl):PG X (.Tuple es k pos) (E8 K n t):=by subst hK;exact KS hc h hn hst
theorem bT(hl:PE X e ta)(hK:X.K=K:=by rfl):PI X tg e (GO K ta):=by subst hK;exact Ie hl
theorem yT(hl:PE X e ta)(hK:X.K=K:=by rfl):PI X tg e (Lf K ta):=by subst hK;exact KQ hl
theorem iu{elts:List Expr}{kk:Nat}(hm:X.mg "zip"=none)(ha:PA X [e,e2] t)(hK:X.K=K:=by rfl)(hg:Gl X "zip":=by rfl)
  (hs:starEach [e,e2] X.env=(false,eval e X.env)::starEach [e2] X.env:=by rfl) (hpl:(backTo pos (starEach [e2] X.env)).any (·.1)=false:=by rfl):PI X (.Tuple elts kk tpos) (.Call (.Name "zip" p) [e,e2] [] pos) (Le K t):=by
 subst hK;exact KP hg hm ha hs hpl
theorem Ay{elts:List Expr}{kk:Nat}(hm:X.mg "enumerate"=none)(ha:PA X [e] t)(hK:X.K=K:=by rfl)(hg:Gl X "enumerate":=by rfl)(hs:starEach [e] X.env=[(false,eval e X.env)]:=by rfl) :
  PI X (.Tuple elts kk tpos) (.Call (.Name "enumerate" p) [e] [] pos) (GP K t):=by
 subst hK;exact Ig hg hm ha hs
theorem DP{T id:String}{r:V→List V→Hp→VK→Prop}(pa:PlainAttrs T)(slot:Slot T name id)(hty:typeOf (.builtin id)=pure (.type "method_descriptor"))(hm:NZ X id r)(ho:PE X e to)(hK:X.K=K:=by rfl)
  (hbase:attributeBase e name X.env (eval e X.env)=eval e X.env:=by rfl) (hline:(apos.endLine==cpos.line)=true:=by rfl):PE X (.Call (.Attribute e name apos) [] [] cpos) (Ka K T r to):=by
 subst hK;exact KW pa slot hty hm ho hbase hline
end
section
variable{K:PySem.W.Frag}{H:Hp}{Q:VK}{a:Addr}
theorem bj{l:List Int}{z:Int}{j:Nat}(hs:aL K H a (iv l))(e:z=(j:Int))(hj:j<l.length)(q:Q (.int (l.getD j 0)) H):Ct K (.ref a) (.int z) H Q :=
 ⟨a,_,z,_,rfl,rfl,hs,M7 e hj,q⟩
theorem fH{as:List Addr}{z:Int}{j:Nat}{b:Addr}(hs:aL K H a (as.map V.ref))(e:z=(j:Int))(hj:as[j]?=some b)(q:Q (.ref b) H):Ct K (.ref a) (.int z) H Q :=
 ⟨a,_,z,_,rfl,rfl,hs,Eo e (by rw[getElem?_map,hj];rfl),q⟩
theorem cQ(hs:aL K H a xs)(q:Q (.int xs.length) H):DK K [.ref a] H Q:=⟨a,xs,rfl,hs,q⟩
theorem sy{xs:List V}{lo hi:Option Int}(hs:aL K H a xs)(q:∀ p,H p=none→Q (.ref p) (upd H p (.lst (wu xs lo hi)))):KI K (.ref a) lo hi H Q:=⟨a,xs,rfl,hs,q⟩
theorem wt(i j:Nat):wu xs (some (i:Int)) (some (j:Int))=(xs.drop i).take (j - i):=by
 unfold wu;rw[HT.DE,HT.DE];rcases Nat.lt_or_ge xs.length i with h | h
 ·rw[Nat.min_eq_right (Nat.le_of_lt h),drop_eq_nil_of_le (Nat.le_refl _),drop_eq_nil_of_le (Nat.le_of_lt h)];simp
 ·rw[Nat.min_eq_left h];rcases Nat.lt_or_ge xs.length j with h2 | h2
  ·rw[Nat.min_eq_right (Nat.le_of_lt h2),take_of_length_le (by simp),take_of_length_le (by simp;lia)]
  ·rw[Nat.min_eq_left h2]
end
theorem IP{K:PySem.W.Frag}{a b:Addr}{k l n:Nat}{tb:TS}{D:om}(Pv:Nat→L2.St→Hp→Prop)(hn:n=min xs.length ys.length)(h0:Pv 0 σ H1)
  (hx:∀ i σ H,Pv i σ H→aL K H a xs∧aL K H b ys)
  (turn:∀ i x y σ H H',xs[i]?=some x→ys[i]?=some y→Pv i σ H→ai H H'→tb { D with nx:=Pv (i+1),ct:=Pv (i+1),bk:=D.nx } ((σ.set k (some x)).set l (some y)) H')
  (dO:∀ σ H,Pv n σ H→D.nx σ H):Dp (Ny K a b) (E8 K 2 (qs (db k) (qs (db l) GX))) tb D σ H1:=by
 refine⟨fun i m σ H=>m+i=n∧Pv i σ H,⟨n,by lia,h0⟩,?_⟩
 rintro i m σ H ⟨em,hp⟩
 obtain⟨h1,h2⟩:=hx i σ H hp
 by_cases hi:i=n
 ·subst hi;exact .inl ⟨⟨xs,ys,h1,h2,by lia⟩,dO σ H hp⟩
 ·refine .inr ⟨⟨xs,ys,xs[i]'(by lia),ys[i]'(by lia),h1,h2,getElem?_eq_getElem _,getElem?_eq_getElem _⟩,Pv (i+1),fun σ' H' h=>⟨m - 1,by lia,by lia,h⟩,fun x H' hy=>?_⟩
  obtain⟨T,x1,y1,rfl,hT,rfl,e1,e2⟩:=hy
  exact⟨T,[x1,y1],rfl,.inl (.inl af),rfl,x1,[y1],rfl,y1,[],rfl,rfl,turn i x1 y1 σ H _ (e1 xs h1) (e2 ys h2) hp (ai.new hT)⟩
theorem Nf{K:PySem.W.Frag}{a:Addr}{xs:List V}{k l:Nat}{tb:TS}{D:om}(Pv:Nat→L2.St→Hp→Prop)(h0:Pv 0 σ H1)
  (hx:∀ i σ H,Pv i σ H→aL K H a xs)
  (turn:∀ i x σ H H',xs[i]?=some x→Pv i σ H→ai H H'→tb { D with nx:=Pv (i+1),ct:=Pv (i+1),bk:=D.nx } ((σ.set k (some (.int (i:Nat)))).set l (some x)) H')
  (dO:∀ σ H,Pv xs.length σ H→D.nx σ H):Dp (OF K a) (E8 K 2 (qs (db k) (qs (db l) GX))) tb D σ H1:=by
 refine⟨fun i m σ H=>m+i=xs.length∧Pv i σ H,⟨xs.length,by lia,h0⟩,?_⟩
 rintro i m σ H ⟨em,hp⟩
 have h1:=hx i σ H hp
 by_cases hi:i=xs.length
 ·subst hi;exact .inl ⟨⟨xs,h1,Nat.le_refl _⟩,dO σ H hp⟩
 ·refine .inr ⟨⟨xs,xs[i]'(by lia),h1,getElem?_eq_getElem _⟩,Pv (i+1),fun σ' H' h=>⟨m - 1,by lia,by lia,h⟩,fun x H' hy=>?_⟩
  obtain⟨T,x1,rfl,hT,rfl,e1⟩:=hy
  exact⟨T,[.int (i:Nat),x1],rfl,.inl (.inl af),rfl,_,[x1],rfl,x1,[],rfl,rfl,turn i x1 σ H _ (e1 xs h1) hp (ai.new hT)⟩
theorem Lk{K:PySem.W.Frag}{a:Addr}{xs:List V}{k:Nat}{tb:TS}{D:om}{σ:L2.St}{H1:Hp}(Pv:Nat→L2.St→Hp→Prop)(h0:Pv 0 σ H1)(hx:∀ i σ H,Pv i σ H→aL K H a xs)
  (turn:∀ i x σ H,xs[i]?=some x→Pv i σ H→tb { D with nx:=Pv (i+1),ct:=Pv (i+1),bk:=D.nx } (σ.set k (some x)) H) (dO:∀ σ H,Pv xs.length σ H→D.nx σ H):Dp (FJ K a) (db k) tb D σ H1 :=
 GZ (K:=K) (a:=a) (xs:=xs) Pv h0 (fun i σ H _ h=>hx i σ H h) turn dO
theorem IQ{lo:Int}{n k:Nat}{tb:TS}{D:om}(Pv:Nat→L2.St→Hp→Prop)(h0:Pv 0 σ H1)
  (turn:∀ i σ H,i<n→Pv i σ H→tb { D with nx:=Pv (i+1),ct:=Pv (i+1),bk:=D.nx } (σ.set k (some (.int (lo+i)))) H) (dO:∀ σ H,Pv n σ H→D.nx σ H):Dp (Jj lo n) (db k) tb D σ H1 :=
 E9 (lo:=lo) (n:=n) Pv h0 turn dO
def fz(i j:Int):Prop:=i.natAbs<2 ^ 256∧j.natAbs<2 ^ 256
theorem Em(h:i.natAbs<2 ^ 256):Builtin.Int.intBits i≤256:=by
 unfold Builtin.Int.intBits
 split
 ·exact Nat.zero_le _
 ·rename_i hz
  have hz':i.natAbs≠0:=by intro z;apply hz;simp;lia
  have:=(QM.log2_lt hz').2 h
  lia
theorem bq:ol X (binaryOp .Mult) (rI fz fun i j=>.int (i*j)):=M1 fun _ _ _ _ _ _ _ hc q=>mul_int q (IntMulOk.of_bits (Nat.le_trans (Em hc.1) (by decide)) (Nat.le_trans (Em hc.2) (by decide)))
theorem Kw{lo hi n:Nat}(hl:lo<2)(hh:hi≤1073741824)(hn:n=(hi - lo+1) / 2):Np (lo:Int) (hi:Int) 2 n:=by
 have hs:Builtin.Range.rangeSize (lo:Int) (hi:Int) 2=n:=by
  unfold Builtin.Range.rangeSize;rw[if_pos (by decide)]
  split<;>lia
 refine⟨by decide,by decide,?_,hs⟩
 have fl:∀ x:Int,-9223372036854775808≤x→x<9223372036854775808→Builtin.Range.rangeFitsLong x=true:=by
  intro x h1 h2;unfold Builtin.Range.rangeFitsLong;rw[decide_eq_true (show -(2 ^ 63)≤x from h1),decide_eq_true (show x<2 ^ 63 from h2)];rfl
 unfold Builtin.Range.small;rw[hs,fl (lo:Int) (by lia) (by lia),fl (hi:Int) (by lia) (by lia),fl 2 (by decide) (by decide),fl (n:Int) (by lia) (by lia),if_pos (by decide),fl ((hi:Int)+(2 - 1)) (by lia) (by lia)]
 simp
theorem _root_.L2.eJ.m(hr:eJ k A)(h:j≤k:=by decide):eJ j A:=hr.mono h
section
variable{X:Cx}{a b e:Expr}{ta tb te:TE}{pos p apos:Pos}{x:Str}
theorem xL(K:PySem.W.Frag)(ha:PE X a ta)(hb:PE X b tb)(hs:uk b:=by exact fun _ _=>rfl)(hK:X.K=K:=by rfl):PE X (.Subscript a b pos) (Hm (Ct K) ta tb):=JJ (GM hK) ha hb hs
theorem xT(K:PySem.W.Frag)(ha:PE X a ta)(hb:PE X b tb)(hs:uk b:=by exact fun _ _=>rfl)(hK:X.K=K:=by rfl):PE X (.Subscript a b pos) (Hm (EN K) ta tb):=JJ (IH hK) ha hb hs
end
section
variable{X:Cx}{a b c e:Expr}{ta tb tc te:TE}{pos p apos:Pos}{x:Str}
theorem gq(ho:ol X (compareOp op) r)(ha:PE X a ta)(hb:PE X b tb)(hm:behindInMarks op b=false:=by exact fo _):PT X (.Compare a [op] [b] pos) (Dt (Hm r ta tb)):=du ho ha hb hm
theorem tU(ho:ol X (compareOp op) r)(ha:PE X a ta)(hb:PE X b tb)(hm:behindInMarks op b=false:=by exact fo _):PE X (.Compare a [op] [b] pos) (Hm r ta tb):=Ik ho ha hb hm
theorem bu(ha:PE X a ta):BY X [.Return (some a) pos] (J5 ta):=aB (KO ha)
end
section
variable{X:Cx}{K:PySem.W.Frag}{o e:Expr}{es:List Expr}{to te:TE}{t:TA}{pos p apos cpos pos':Pos}{x:Str}
theorem tW(K:PySem.W.Frag)(hm:X.mg "len"=none)(ha:PA X (e::es) t)(hg:Gl X "len":=by rfl)(he:starEach (e::es) X.env=(false,eval e X.env)::starEach es X.env:=by rfl)(hpl:(backTo pos (starEach es X.env)).any (·.1)=false:=by rfl)(hK:X.K=K:=by rfl):PE X (.Call (.Name "len" p) (e::es) [] pos) (NI (DK K) t):=dZ (Ft hK) hg hm PySem.boot_len ha (by decide) (by decide) he hpl
theorem JW(ho:PE X o to)(ha:PA X (e::es) t)(hbase:attributeBase o "append" X.env (eval o X.env)=eval o X.env:=by rfl)
  (hfew:((backTo cpos (starEach (e::es) X.env)).all (fun x=>!x.1)&&(backToKw cpos (keywordEach [] X.env)).all (fun x=>x.1.isSome)&&decide ((e::es).length+([]:List Keyword).length+(if ([]:List Keyword).isEmpty then 0 else 1)<30))=true:=by rfl)
  (hline:(apos.endLine==cpos.line)=true:=by rfl) (hs:starEach (e::es) X.env=(false,eval e X.env)::starEach es X.env:=by rfl) (hplain:(backTo cpos (starEach es X.env)).any (·.1)=false:=by rfl):PE X (.Call (.Attribute o "append" apos) (e::es) [] cpos) (NJ X.K "list" pY to t) :=
 JK PySem.F.plainAttrs_list PySem.F.slot_list_append PySem.F.type_list_append EW ho ha hbase hfew hline hs hplain
theorem Lo(ho:PE X o to)(ha:PA X (e::es) t)(hbase:attributeBase o "extend" X.env (eval o X.env)=eval o X.env:=by rfl)
  (hfew:((backTo cpos (starEach (e::es) X.env)).all (fun x=>!x.1)&&(backToKw cpos (keywordEach [] X.env)).all (fun x=>x.1.isSome)&&decide ((e::es).length+([]:List Keyword).length+(if ([]:List Keyword).isEmpty then 0 else 1)<30))=true:=by rfl)
  (hline:(apos.endLine==cpos.line)=true:=by rfl) (hs:starEach (e::es) X.env=(false,eval e X.env)::starEach es X.env:=by rfl) (hplain:(backTo cpos (starEach es X.env)).any (·.1)=false:=by rfl):PE X (.Call (.Attribute o "extend" apos) (e::es) [] cpos) (NJ X.K "list" ua to t) :=
 JK PySem.F.plainAttrs_list PySem.F.slot_list_extend PySem.F.type_list_extend EV ho ha hbase hfew hline hs hplain
theorem sS(i:Nat)(hN:X.N.Nodup)(he:PE X e te)(hi:X.N[i]?=some x:=by rfl)(hx:Loc X.env.scope x:=by first | exact Or.inl rfl | exact Or.inr rfl)(hs:swapsWith e (some (.Name x pos')) pos.line X.env=pure false:=by rfl)
  (hf:X.fn x=true∨X.env.scope.names.lookup x=some .local:=by first | exact .inl rfl | exact .inr rfl | assumption):PS X (.Assign [.Name x pos'] e pos) (EB te (db i)):=KN hN hi hx he hs hf
theorem gN(i:Nat)(hN:X.N.Nodup)(hi:X.N[i]?=some x:=by rfl)(hx:Loc X.env.scope x:=by first | exact Or.inl rfl | exact Or.inr rfl)(hf:X.fn x=true∨X.env.scope.names.lookup x=some .local:=by first | exact .inl rfl | exact .inr rfl | assumption):PG X (.Name x pos) (db i):=Ih hN hi hx hf
end
end QB
namespace QB
open PySem PySem.Spec PyProof.Rows L2
inductive Dl:List DictEntry→List (Int×Addr)→Prop
 | nil:Dl [] []
 | cons {i:Int}{t:Tok}{a:Addr}{es:List DictEntry}{kvs:List (Int×Addr)}{hs:Int}:hs=hashInt i→Dl es kvs→Dl ({ hash:=hs,key:=.int i t,val:=.ref a }::es) ((i,a)::kvs)
structure Es(K:PySem.W.Frag)(d:Addr)(kvs:List (Int×Addr)):Prop where
 ex:∃ (es:Array DictEntry) (ep:Nat),K.lookup d=some ⟨.type "dict",none,.dict es ep,#[]⟩∧Dl es.toList kvs
 nd:(kvs.map (·.1)).Nodup
theorem Dl.pairs(h:Dl es kvs):Pairs (intKind P w) es (kvs.map fun x=>(x.1,Value.ref x.2))∧∀ e∈es,∃ k,(intKind P w).is k e.key=true∧e.hash=(intKind P w).hash k:=by
 induction h with
 | nil=>exact⟨.nil,fun e he=>by cases he⟩
 | @cons i t a es kvs hs hh h ih =>
  refine⟨.cons (intKind_is P w i t) rfl ih.1,fun e he=>?_⟩
  rcases mem_cons.1 he with rfl | he
  ·exact⟨i,intKind_is P w i t,hh⟩
  ·exact ih.2 e he
theorem Es.dict{P:Program}{w:World}{K:PySem.W.Frag}{d:Addr}{kvs:List (Int×Addr)}{h:Heap}(t:Es K d kvs)(X:K.In h):h.DictOf (intKind P w) d (kvs.map fun x=>(x.1,Value.ref x.2)):=by
 obtain⟨⟨es,ep,e,te⟩,nd⟩:=t;obtain⟨p1,p2⟩:=te.pairs (P:=P) (w:=w);refine⟨_,es,ep,X _ _ e,⟨rfl,rfl,rfl⟩,rfl,fun x hx=>p2 x (by simpa using hx),p1,?_⟩
 rw[map_map];exact nd
structure J0(P:Program)(w:World)(K:PySem.W.Frag)(mg:Str→Option Value)(base:Heap)(k:Nat)(x:Str)(ps:List Str)(SP:Int→Sp→Prop):Prop where
 ex:∃ d kvs,mg x=some (.ref d)∧Es K d kvs∧∀ i sp,SP i sp→∃ f fd,valueAt (kvs.map fun x=>(x.1,Value.ref x.2)) i=some (.ref f)∧ii P w K mg base FK k f fd ps sp∧PySem.W.keepIn K (.ref f)=true∧io K fd ps []
def J4(SP:Int→Sp→Prop)(ti:TE)(t:TA):TE:=fun σ H Q=>ti σ H fun y H1=>∃ i sp,y=.int i∧SP i sp∧t σ H1 fun vs H2=>sp vs H2 Q E0
section
variable{X:Cx}{e b:Expr}{es:List Expr}{t:TA}{ti:TE}{p p2 pos:Pos}{x:Str}{k:Nat}{ps:List Str}{SP:Int→Sp→Prop}
theorem KU(F:J0 X.prog X.w X.K X.mg X.base k x ps SP)(hr:eJ k X.A)(hb:PE X b ti)(ha:PA X (e::es) t)(hs:uk b)(hg:Gl X x:=by rfl)(hdb:(x==("__debug__":Str))=false:=by decide)
  (he:starEach (e::es) X.env=(false,eval e X.env)::starEach es X.env:=by rfl) (hpl:(backTo pos (starEach es X.env)).any (·.1)=false:=by rfl)
  (ht:eval (.Call (.Subscript (.Name x p) b p2) (e::es) [] pos) X.env=(do
   let f ←eval (.Subscript (.Name x p) b p2) X.env
   callWith pos f [] (backTo pos (starEach (e::es) X.env)) (backToKw pos (keywordEach [] X.env))):=by rfl):PE X (.Call (.Subscript (.Name x p) b p2) (e::es) [] pos) (J4 SP ti t):=by
 obtain⟨d,kvs,hm,T,F⟩:=F;intro pins s σ H Q I h;rw[ht];refine wpAny_bind (Subscript_ (nQ I hg hm (dL (hb pins s σ H _ I h) fun u s1 ⟨y,H1,I1,ry,i,sp,ey,hsp,q⟩=>?_) hdb))
 subst ey;obtain⟨tk,rfl⟩:=ry;obtain⟨f,fd,hv,F,hk,hbd⟩:=F i sp hsp;have hd:s1.heap.DictOf (intKind X.prog X.w) d _:=T.dict I1.kIn;refine subscriptTail_builtinR hd.typeIs slot_dict_getitem.lookup (wpAny_getItem_of (intKind_is X.prog X.w i tk) hd.mapOf hv ⟨rfl,?_⟩) (hs _ _);have I2:=I1.tok (s1.toks+1);refine PySem.W.callWith_K (h₀:=X.base) I.ok.mod.kin hk (dL (ha pos pins _ σ H1 _ I2 q) fun us s3 ⟨vs,H3,I3,r,q3⟩=>⟨I3.kIn,?_⟩) he hpl
 exact uQ F hr hbd .nil u9 I3 r (by rw[append_nil];exact q3)
end
end QB
namespace QB
open PySem PySem.Spec PyProof.Rows L2
theorem Hq{K:PySem.W.Frag}{i:Int}{H:Hp}:J2 K "int" (.int i) H=True:=by unfold J2;simp
def yE(C:Addr)(f:Str)(x:V)(H:Hp)(Q:VK):Prop:=∃ a dx fs v,x=.ref a∧H a=some (.ins C dx fs)∧fs.lookup f=some v∧Q v H
theorem J8:OP C ta f σ H Q=ta σ H fun x H1=>yE C f x H1 Q:=rfl
theorem ag(h:H a=some (.ins C dx fs))(hl:fs.lookup f=some v)(q:Q v H):yE C f (.ref a) H Q:=⟨a,dx,fs,v,rfl,h,hl,q⟩
def Ho(C:Addr)(f:Str)(x y:V)(H:Hp)(Q:Hp→Prop):Prop:=∃ a dx fs,x=.ref a∧H a=some (.ins C dx fs)∧fs.length<1000∧Q (upd H a (.ins C dx (be f y fs)))
theorem Kv:OQ C ta tv f D σ H=tv σ H fun y H1=>ta σ H1 fun x H2=>Ho C f x y H2 (fun H3=>D.nx σ H3):=rfl
theorem bv(h:H a=some (.ins C dx fs))(hl:fs.length<1000)(q:Q (upd H a (.ins C dx (be f y fs)))):Ho C f (.ref a) y H Q:=⟨a,dx,fs,rfl,h,hl,q⟩
def NE(C:Addr)(f:Str)(x:V)(H:Hp)(te:VK→Prop)(Q:Hp→Prop):Prop:=∃ a dx fs i,x=.ref a∧H a=some (.ins C dx fs)∧fs.lookup f=some (.int i)∧te fun y H2=>∃ j dx' fs',y=.int j∧H2 a=some (.ins C dx' fs')∧fs'.length<1000∧Q (upd H2 a (.ins C dx' (be f (.int (i+j)) fs')))
theorem HM:MJ C ta tv f D σ H=ta σ H fun x H1=>NE C f x H1 (fun k=>tv σ H1 k) (fun H3=>D.nx σ H3):=rfl
def LM(C:Addr)(m:Str)(x:V)(H:Hp)(q:Prop):Prop:=∃ a dx fs,x=.ref a∧H a=some (.ins C dx fs)∧fs.lookup m=none∧q
theorem Hw:LV C m sp ta t σ H Q=ta σ H fun x H1=>LM C m x H1 (t σ H1 fun vs H2=>sp (x::vs) H2 Q E0):=rfl
theorem aT(h:H a=some (.ins C dx fs))(hl:fs.lookup m=none)(k:q):LM C m (.ref a) H q:=⟨a,dx,fs,rfl,h,hl,k⟩
abbrev Ro:=Addr→Nat
def rl(d:Bool)(k:Nat):Nat:=cond d 64 32+k
abbrev Rg(lo hi:Nat):Nat→Prop:=fun k=>lo≤k∧k<hi
def Wf(r:Ro)(H:Hp):Prop:=∀ a,H a=none→r a=0
structure Fr(S:Nat→Prop)(r:Ro)(H:Hp)(r':Ro)(H':Hp):Prop where
 st:∀ a o,H a=some o→¬ S (r a)→H' a=some o
 ro:∀ a,H a≠none→r' a=r a
 dm:∀ a,H a≠none→H' a≠none
 wf:Wf r' H'
section
variable{S S':Nat→Prop}{r r' r'':Ro}{H H' H'':Hp}{a:Addr}{o o':HO}
theorem Fr.refl(w:Wf r H):Fr S r H r H:=⟨fun _ _ e _=>e,fun _ _=>rfl,fun _ h=>h,w⟩
theorem Fr.trans(f:Fr S r H r' H')(g:Fr S r' H' r'' H''):Fr S r H r'' H'' :=
 ⟨fun a o e n=>g.st a o (f.st a o e n) (by rw[f.ro a (by rw[e];exact fun z=>nomatch z)];exact n),fun a h=>(g.ro a (f.dm a h)).trans (f.ro a h),fun a h=>g.dm a (f.dm a h),g.wf⟩
theorem Fr.mono(f:Fr S r H r' H')(h:∀ k,S k→S' k):Fr S' r H r' H':=⟨fun a o e n=>f.st a o e fun z=>n (h _ z),f.ro,f.dm,f.wf⟩
theorem bB(e:H a=some o):H a≠none:=by rw[e];exact fun z=>nomatch z
theorem Wf.same(w:Wf r H)(s:ai H H'):Wf r H':=fun a e=>w a (s.free e)
theorem Fr.same(w:Wf r H)(s:ai H H'):Fr S r H r H':=by
 refine⟨fun a o e _=>s a o e,fun _ _=>rfl,fun a h=>?_,w.same s⟩
 cases e:H a with
 | none=>exact absurd e h
 | some o=>exact bB (s a o e)
theorem Fr.upd(w:Wf r H)(e:H a=some o)(h:S (r a)):Fr S r H r (L2.upd H a o'):=by
 refine⟨fun b u eb n=>?_,fun _ _=>rfl,fun b hb=>?_,fun b hb=>?_⟩
 ·rw[ao (fun z=>n (by rw[z];exact h))];exact eb
 ·by_cases z:b=a
  ·rw[z,af];exact fun z=>nomatch z
  ·rw[ao z];exact hb
 ·by_cases z:b=a
  ·rw[z,af] at hb;cases hb
  ·rw[ao z] at hb;exact w b hb
def giv(r:Ro)(a:Addr)(k:Nat):Ro:=fun b=>if b=a then k else r b
theorem cY:giv r a k a=k:=if_pos rfl
theorem gO(h:b≠a):giv r a k b=r b:=if_neg h
theorem Fr.keep(f:Fr S r H r' H')(e:H a=some o)(hr:r a=k)(n:¬ S k):H' a=some o∧r' a=k :=
 ⟨f.st a o e (by rw[hr];exact n),(f.ro a (bB e)).trans hr⟩
theorem Fr.role(f:Fr S r H r' H')(e:H a=some o)(hr:r a=k):r' a=k:=(f.ro a (bB e)).trans hr
end
def sF(k x y z v:V):List (Str×V):=[("kind",k),("x",x),("y",y),("z",z),("v",v)]
def pF(st sh at_ nb paid en:V):List (Str×V):=[("steps",st),("shapes",sh),("at",at_),("numbers",nb),("paid",paid),("ended",en)]
def tF(s w h rw:V):List (Str×V):=[("start_row",s),("widths",w),("heights",h),("rows",rw)]
def fF(a b c:V):List (Str×V):=[("moved",a),("pages_read",b),("pages_written",c)]
def mF(g t p:V):List (Str×V):=[("ground",g),("tiles",t),("program",p)]
def cF(k r c:V):List (Str×V):=[("kind",k),("rows",r),("cols",c)]
def xF(p s h w:V):List (Str×V):=[("place",p),("stride",s),("height",h),("width",w)]
def jF(k m n kk d a b c:V):List (Str×V):=[("kind",k),("m",m),("n",n),("k",kk),("depth",d),("a",a),("b",b),("c",c)]
def bF(j r c h w:V):List (Str×V):=[("job",j),("row",r),("column",c),("height",h),("width",w)]
open Qw in
def dX(C:Addr)(H:Hp)(a:Addr)(s:Qw.Step):Prop:=∃ dx,H a=some (.ins C dx (sF (.int (s.kind:Int)) (.int (s.x:Int)) (.int (s.y:Int)) (.int (s.z:Int)) (.int (s.v:Int))))
def zY(C:Addr)(r:Ro)(H:Hp)(as:List Addr)(ss:List Qw.Step):Prop:=as.length=ss.length∧∀ (i:Nat) (a:Addr) (s:Qw.Step),as[i]?=some a→ss[i]?=some s→dX C H a s∧r a=0
def nV(C:Addr)(r:Ro)(H:Hp)(l:Addr)(ss:List Qw.Step):Prop:=∃ as:List Addr,H l=some (.lst (as.map V.ref))∧r l=0∧zY C r H as ss
def ko(r:Ro)(H:Hp)(l:Addr)(shs:List Qw.Shape):Prop:=∃ as:List Addr,H l=some (.lst (as.map V.ref))∧r l=0∧LL H as (shs.map fun s=>QM.nI s.nums)∧(∀ a∈as,r a=0)∧∀ s∈shs,s.widths.length=8∧s.heights.length=8
def qJ(r:Ro)(H:Hp)(v:V)(e:Option (List Nat)):Prop:=match e with
 | none=>v=.non
 | some l=>∃ a,v=.ref a∧H a=some (.lst (iv (QM.nI l)))∧r a=0
section
variable{S:Nat→Prop}{r r':Ro}{H H':Hp}{C a l:Addr}{as:List Addr}
theorem zY.fr(h:zY C r H as ss)(f:Fr S r H r' H')(n:¬ S 0):zY C r' H' as ss:=by
 refine⟨h.1,fun i a s e1 e2=>?_⟩
 obtain⟨⟨dx,h1⟩,h2⟩:=h.2 i a s e1 e2;obtain⟨k1,k2⟩:=f.keep h1 h2 n
 exact⟨⟨dx,k1⟩,k2⟩
theorem nV.fr(h:nV C r H l ss)(f:Fr S r H r' H')(n:¬ S 0):nV C r' H' l ss:=by
 obtain⟨as,h1,h2,h3⟩:=h;obtain⟨k1,k2⟩:=f.keep h1 h2 n
 exact⟨as,k1,k2,h3.fr f n⟩
theorem LL.fr(h:LL H as ll)(h0:∀ a∈as,r a=0)(f:Fr S r H r' H')(n:¬ S 0):LL H' as ll∧∀ a∈as,r' a=0:=by
 refine⟨⟨h.1,fun i b l e1 e2=>(f.keep (h.2 i b l e1 e2) (h0 b (mem_of_getElem? e1)) n).1⟩,fun a ha=>?_⟩
 obtain⟨i,hi⟩:=getElem?_of_mem ha;obtain⟨l,hl,e⟩:=h.at hi;exact f.role e (h0 a ha)
theorem ko.fr(h:ko r H l shs)(f:Fr S r H r' H')(n:¬ S 0):ko r' H' l shs:=by
 obtain⟨as,h1,h2,h3,h4,h5⟩:=h;obtain⟨k1,k2⟩:=f.keep h1 h2 n;obtain⟨k3,k4⟩:=LL.fr h3 h4 f n
 exact⟨as,k1,k2,k3,k4,h5⟩
theorem qJ.fr(h:qJ r H v e)(f:Fr S r H r' H')(n:¬ S 0):qJ r' H' v e:=by
 cases e with
 | none=>exact h
 | some l =>
  obtain⟨a,h1,h2,h3⟩:=h;obtain⟨k1,k2⟩:=f.keep h2 h3 n
  exact⟨a,h1,k1,k2⟩
end
theorem M8:OC X .BitOr (Ot fun i j=>Builtin.bitOr i j):=by
 intro pins s σ H x y v u Q I r1 r2 h;obtain⟨i,j,rfl,rfl,q⟩:=ve h;exact Lc pins s σ H _ _ v u Q I r1 r2 (by rw[JH];exact q)
theorem El(a b:Nat):Builtin.bitOr (a:Int) (b:Int)=((a ||| b:Nat):Int):=by
 unfold Builtin.bitOr Builtin.bitAnd;have h1:decide (0≤Builtin.bitNot (a:Int))=false:=decide_eq_false (by unfold Builtin.bitNot;lia)
 have h2:decide (0≤Builtin.bitNot (b:Int))=false:=decide_eq_false (by unfold Builtin.bitNot;lia)
 rw[h1,h2];dsimp only;have e:∀ x:Int,Builtin.bitNot (Builtin.bitNot x)=x:=fun x=>by unfold Builtin.bitNot;lia
 rw[e,e,e,Int.toNat_natCast,Int.toNat_natCast]
end QB
namespace QT
open PySem PySem.Spec PyProof.Rows L2 QB
def bS(i:Nat):Stmt:=PySem.Challenge.pw_quiltwork_s01_answers.main.body.getD i (.Pass ⟨0,0,0,0⟩)
abbrev ox:Stmt:=bS 11
abbrev lg:Stmt:=bS 12
abbrev jj:Stmt:=bS 13
abbrev uG:Stmt:=bS 14
abbrev pM:Stmt:=bS 15
abbrev lZ:Stmt:=bS 16
abbrev xP:Stmt:=bS 17
abbrev rY:Stmt:=bS 18
abbrev oM:Stmt:=bS 27
abbrev Am:Stmt:=bS 28
abbrev mf:Stmt:=bS 29
abbrev lY:Stmt:=bS 30
abbrev oy:Stmt:=bS 31
abbrev ib:Stmt:=bS 32
abbrev gG:Stmt:=bS 33
abbrev jD:Stmt:=bS 34
abbrev iH:Stmt:=bS 35
abbrev ot:Stmt:=bS 36
abbrev su:Stmt:=bS 37
abbrev gD:Stmt:=bS 38
abbrev JF:Stmt:=bS 39
abbrev iG:Stmt:=bS 40
abbrev gC:Stmt:=bS 41
abbrev eV:Stmt:=bS 42
abbrev mh:Stmt:=bS 43
abbrev pJ:Stmt:=bS 44
abbrev xV:Stmt:=bS 45
abbrev jY:Stmt:=bS 52
abbrev md:Stmt:=bS 53
abbrev pH:Stmt:=aP (bS 54) 0
abbrev oC:Stmt:=aP (bS 54) 1
abbrev my:Stmt:=aP (bS 54) 2
abbrev gy:Stmt:=aP (bS 54) 3
abbrev pE:Stmt:=aP (bS 56) 0
abbrev jm:Stmt:=aP (bS 56) 1
abbrev gY:Stmt:=aP (bS 56) 2
abbrev jl:Stmt:=aP (bS 56) 3
abbrev oN:Stmt:=bS 57
abbrev kC:Stmt:=bS 64
abbrev rX:Stmt:=bS 65
abbrev pL:Stmt:=bS 66
abbrev xS:Stmt:=bS 67
abbrev oO:Stmt:=bS 68
abbrev uH:Stmt:=aP (bS 85) 0
abbrev oB:Stmt:=aP (bS 85) 1
abbrev lh:Stmt:=aP (bS 85) 2
abbrev mq:Stmt:=aP (bS 85) 3
abbrev ou:Stmt:=aP (bS 86) 0
abbrev iJ:Stmt:=aP (bS 86) 1
abbrev mx:Stmt:=aP (bS 86) 2
abbrev mr:Stmt:=aP (bS 86) 3
abbrev pK:Stmt:=bS 87
abbrev kD:Stmt:=bS 88
abbrev xR:Stmt:=bS 96
abbrev si:Stmt:=bS 97
abbrev uJ:Stmt:=bS 98
abbrev uK:Stmt:=bS 105
abbrev rZ:Stmt:=bS 106
abbrev uI:Stmt:=bS 107
abbrev r9:Stmt:=bS 108
abbrev mi:Stmt:=bS 109
abbrev jZ:Stmt:=bS 110
abbrev oo:Stmt:=bS 111
abbrev mj:Stmt:=bS 112
abbrev oq:Stmt:=bS 113
abbrev lX:Stmt:=bS 115
abbrev jk:Stmt:=aP (bS 116) 0
abbrev dt:Stmt:=aP (bS 116) 1
abbrev gR:Stmt:=aP (bS 116) 2
abbrev eW:Stmt:=aP (bS 116) 3
abbrev eY:Stmt:=aP (bS 116) 4
abbrev ip:Stmt:=aP (bS 116) 5
abbrev eX:Stmt:=aP (bS 116) 6
abbrev ft:Stmt:=aP (bS 116) 7
abbrev fR:Stmt:=aP (bS 116) 8
abbrev ic:Stmt:=aP (bS 116) 9
abbrev pC:Stmt:=bS 118
abbrev k9:Stmt:=aP (bS 119) 0
abbrev fu:Stmt:=aP (bS 119) 1
abbrev j4:Stmt:=aP (bS 119) 2
abbrev jn:Stmt:=aP (bS 119) 3
abbrev eQ:Stmt:=aP (bS 120) 0
abbrev iK:Stmt:=aP (bS 120) 1
abbrev xU:Stmt:=bS 121
abbrev on:Stmt:=bS 126
abbrev pN:Stmt:=bS 127
abbrev r0:Stmt:=aP (bS 128) 0
abbrev jo:Stmt:=aP (bS 128) 1
abbrev fZ:Stmt:=aP (bS 128) 2
abbrev gZ:Stmt:=aP (bS 128) 3
abbrev jX:Stmt:=bS 129
abbrev yL:Stmt:=bS 130
abbrev xO:Stmt:=bS 131
abbrev pG:Stmt:=aP (bS 138) 0
abbrev gw:Stmt:=aP (bS 138) 1
abbrev gx:Stmt:=aP (bS 138) 2
abbrev gt:Stmt:=aP (bS 138) 3
abbrev xQ:Stmt:=aP (bS 139) 0
abbrev lf:Stmt:=bS 140
abbrev me:Stmt:=bS 141
abbrev Ao:Stmt:=bS 142
abbrev r8:Stmt:=aP (bS 155) 0
abbrev sr:Stmt:=bS 156
abbrev se:Stmt:=bS 157
abbrev sf:Stmt:=bS 158
abbrev oz:Stmt:=bS 159
abbrev oA:Stmt:=bS 160
abbrev gQ:Stmt:=bS 161
abbrev qP:Stmt:=bS 162
abbrev pI:Stmt:=bS 164
abbrev jC:Stmt:=bS 165
abbrev ow:Stmt:=aP (bS 173) 0
abbrev xW:Stmt:=bS 174
abbrev iI:Stmt:=bS 175
abbrev so:Stmt:=bS 176
abbrev uM:Stmt:=bS 177
abbrev uN:Stmt:=bS 178
abbrev pS:Stmt:=bS 179
abbrev pR:Stmt:=bS 180
abbrev sj:Stmt:=bS 181
abbrev pP:Stmt:=bS 182
abbrev uL:Stmt:=bS 183
abbrev pQ:Stmt:=bS 184
abbrev uO:Stmt:=bS 185
abbrev sk:Stmt:=bS 186
abbrev mn:Stmt:=bS 187
abbrev pD:Stmt:=bS 188
abbrev pO:Stmt:=bS 189
abbrev ml:Stmt:=bS 190
abbrev uP:Stmt:=bS 191
abbrev j0:Stmt:=bS 193
set_option genInjectivity false
set_option genSizeOf false
set_option genSizeOfSpec false
structure Tx(K:PySem.W.Frag)(mg:Str→Option Value) where
 cK:Addr
 da:Addr
 dP:Addr
 aS:Addr
 z5:Addr
 aZ:Addr
 nW:Addr
 jf:Addr
 eO:Addr
 Jl:Addr
 ij:Addr
 cZ:Addr
 sQ:bG mg "PRECISION" 24
 sT:bG mg "HALF_SIGN" 32768
 lw:bG mg "HALF_FRACTION" 128
 qp:bG mg "HALF_LEAST" 87
 Ba:bG mg "HALF_MOST" 167
 jR:bG mg "SINGLE_SIGN" 2147483648
 eM:bG mg "SINGLE_FRACTION" 8388608
 i5:bG mg "SINGLE_LEAST" 27
 wX:bG mg "SINGLE_MOST" 227
 oa:bG mg "PRODUCT_TO_SINGLE" 536870912
 vK:bG mg "WORD_MODULUS" 4294967296
 fi:bG mg "PAIRS_KIND" 4
 wY:bG mg "ROW_NUMBERS" 16
 qo:bG mg "ROW_LENGTH" 64
 rn:bG mg "MOST_ROWS_dots" 16
 jS:bG mg "GROUND_SIZE" 16384
 sR:bG mg "PAGE_SIZE" 1024
 D7:bG mg "PAGES" 16
 CQ:bG mg "READABLE" 1
 o8:bG mg "WRITABLE" 2
 ug:bG mg "TILES" 8
 eT:bG mg "SHAPE_LENGTH" 17
 rk:bG mg "MOST_START_ROW" 15
 zo:bG mg "MOST_WIDTH" 64
 wZ:bG mg "MOST_HEIGHT" 16
 JU:bG mg "END" 0
 uh:bG mg "SHAPE" 1
 Lh:bG mg "FREE" 2
 GU:bG mg "ZERO" 3
 zq:bG mg "LOAD" 4
 zn:bG mg "STORE" 5
 mZ:bG mg "FIRST_DOT" 6
 CT:bG mg "LAST_DOT" 10
 A4:bG mg "SET" 11
 Na:bG mg "ADD" 12
 Li:bG mg "COPY" 13
 D8:bG mg "AGAIN" 14
 jQ:bG mg "STEP_LENGTH" 5
 zp:bG mg "MOST_STEPS" 1024
 yn:bG mg "NUMBERS" 8
 pf:bG mg "NO_FAULT" 0
 E7:bG mg "NO_STEP" 1
 CS:bG mg "NO_SHAPE" 2
 A6:bG mg "NO_FIT" 3
 E6:bG mg "OUTSIDE" 4
 vL:bG mg "NOT_IN_RANGE" 5
 nT:bG mg "MODULUS" 18446744073709551616
 w8:bG mg "CAME_TO_END" 0
 A5:bG mg "PAUSES" 1
 rA:bG mg "AT_CLOSED_PAGE" 2
 vS:bG mg "AT_FAULT" 3
 oe:bG mg "MOST_ROWS_weaving" 64
 kR:bG mg "MOST_COLUMNS_weaving" 64
 i6:bG mg "GROUP_LENGTH" 4
 zr:bG mg "JOB_LENGTH" 10
 rm:bG mg "MOST_ROWS_jobs" 64
 og:bG mg "MOST_COLUMNS_jobs" 64
 GV:bG mg "MOST_K" 256
 dB:bG mg "DOT_DEPTH" 16
 qr:bG mg "BLOCK_ROWS" 16
 lA:bG mg "BLOCK_COLUMNS" 16
 jP:bG mg "ZERO_NUMBER" 0
 vR:bG mg "A_STRIDE" 1
 vQ:bG mg "B_STRIDE" 2
 vP:bG mg "C_STRIDE" 3
 vM:bG mg "C_TILE" 0
 ym:bG mg "WHOLE_A" 1
 yk:bG mg "WHOLE_B" 2
 A9:bG mg "LEFT_A" 3
 A8:bG mg "LEFT_B" 4
 zt:bG mg "DONE" 0
 A7:bG mg "NOT_ENDED" 1
 eG:bG mg "REFUSED" (-1)
 o9:bG mg "NO_SHAPE_REFUSED" (-2)
 lv:bG mg "RANGE_REFUSED" (-3)
 kQ:bG mg "NO_PROGRAM" (-9)
 lH:FB K mg "KINDS_WITH_SIGNED_Y" [.int 0,.int 1]
 lG:FB K mg "KINDS_WITH_SIGNED_Z" [.int 0,.int 2]
 Nn:mg "abs"=none
 BK:mg "all"=none
 Nm:mg "any"=none
 sX:mg "enumerate"=none
 eB:mg "len"=none
 Lx:mg "list"=none
 Nl:mg "max"=none
 JY:mg "min"=none
 dW:mg "range"=none
 Nk:mg "sum"=none
 qG:mg "zip"=none
 eI:rR K cK
 iX:aK K cK "cells"
 iW:aK K cK "pages"
 GL:mg "Ground"=some (.ref cK)
 aG:rR K da
 fc:aK K da "numbers"
 eS:aK K da "at"
 GJ:mg "Reader"=some (.ref da)
 aD:rR K dP
 bf:aK K dP "kind"
 cu:aK K dP "x"
 iV:aK K dP "y"
 kh:aK K dP "z"
 gk:aK K dP "v"
 K9:mg "Step"=some (.ref dP)
 ap:rR K aS
 di:aK K aS "steps"
 dI:aK K aS "shapes"
 cC:aK K aS "at"
 cq:aK K aS "numbers"
 cn:aK K aS "paid"
 cM:aK K aS "ended"
 E1:mg "Program"=some (.ref aS)
 G9:rR K z5
 qf:aK K z5 "start_row"
 vx:aK K z5 "widths"
 tJ:aK K z5 "heights"
 zf:aK K z5 "rows"
 IE:mg "Tiles"=some (.ref z5)
 bM:rR K aZ
 eL:aK K aZ "moved"
 cR:aK K aZ "pages_read"
 cr:aK K aZ "pages_written"
 AX:mg "Footprint"=some (.ref aZ)
 sW:rR K nW
 hG:aK K nW "start_row"
 qg:aK K nW "widths"
 oX:aK K nW "heights"
 tK:aK K nW "rows"
 CO:mg "DryTiles"=some (.ref nW)
 bK:rR K jf
 ff:aK K jf "kind"
 fe:aK K jf "rows"
 fg:aK K jf "cols"
 IF:mg "Cloth"=some (.ref jf)
 bb:rR K eO
 gm:aK K eO "place"
 dn:aK K eO "stride"
 lu:aK K eO "height"
 gl:aK K eO "width"
 GK:mg "Matrix"=some (.ref eO)
 aR:rR K Jl
 gM:aK K Jl "kind"
 js:aK K Jl "m"
 nM:aK K Jl "n"
 uf:aK K Jl "k"
 dN:aK K Jl "depth"
 nP:aK K Jl "a"
 nN:aK K Jl "b"
 iz:aK K Jl "c"
 M6:mg "Job"=some (.ref Jl)
 bZ:rR K ij
 fX:aK K ij "job"
 mU:aK K ij "row"
 iY:aK K ij "column"
 gn:aK K ij "height"
 gV:aK K ij "width"
 IG:mg "Block"=some (.ref ij)
 aX:rR K cZ
 cU:aK K cZ "ground"
 cN:aK K cZ "tiles"
 br:aK K cZ "program"
 E2:mg "Machine"=some (.ref cZ)
 xj:FA K mg "is_in_range" ox
 tQ:FA K mg "half_in_range" lg
 qt:FA K mg "single_in_range" jj
 CY:FA K mg "value_of" uG
 zH:FA K mg "half_value" pM
 vV:FA K mg "single_value" lZ
 Fe:FA K mg "rounded" xP
 Bf:FA K mg "single_of" rY
 CW:FA K mg "words_of" oM
 G1:FA K mg "row_of" Am
 Bn:FA K mg "halves_of" mf
 Bd:FA K mg "with_sign" lY
 xm:FA K mg "byte_column" oy
 tO:FA K mg "inner_product" ib
 Db:FA K mg "byte_dot" gG
 xk:FA K mg "half_values" jD
 vZ:FA K mg "every_second" iH
 xf:FA K mg "rounded_sum" ot
 Bu:FA K mg "add_pairs" su
 C0:FA K mg "pair_dot" gD
 Nh:FA K mg "dot" JF
 vW:FA K mg "row_in_range" iG
 rC:FA K mg "words_in_range" gC
 rE:FA K mg "pairs_in_range" eV
 v0:FA K mg "dot_in_range" mh
 zE:FA K mg "is_row_dot" pJ
 Fk:FA K mg "dot_row" xV
 rG:FA K mg "lies_in_ground" jY
 vX:FA K mg "pages_of_row" md
 zC:∃ f fd,wF K "__init__" "Ground.__init__" pH f fd∧Mk K cK f
 xB:MA K cK "read" "Ground.read" oC
 wo:MA K cK "write" "Ground.write" my
 lL:MA K cK "first_closed" "Ground.first_closed" gy
 zA:∃ f fd,wF K "__init__" "Reader.__init__" pE f fd∧Mk K da f
 qx:MA K da "has_more" "Reader.has_more" jm
 m7:MA K da "take_number" "Reader.take_number" gY
 qw:MA K da "take_row" "Reader.take_row" jl
 CZ:FA K mg "parts_of" oN
 zw:FA K mg "zero_shape" kC
 Be:FA K mg "widths_in" rX
 zG:FA K mg "heights_in" pL
 Fi:FA K mg "is_size" xS
 C3:FA K mg "is_shape" oO
 C1:∃ f fd,wF K "__init__" "Step.__init__" uH f fd∧Mk K dP f
 xA:MA K dP "is_dot" "Step.is_dot" oB
 tS:MA K dP "dot_kind" "Step.dot_kind" lh
 wk:MA K dP "is_move" "Step.is_move" mq
 xh:∃ f fd,wF K "__init__" "Program.__init__" ou f fd∧Mk K aS f
 pi:MA K aS "has_step" "Program.has_step" iJ
 wn:MA K aS "step" "Program.step" mx
 wm:MA K aS "twin" "Program.twin" mr
 zF:FA K mg "is_program" pK
 zz:FA K mg "program_of" kD
 Fh:FA K mg "is_step" xR
 Bp:FA K mg "dot_fault" si
 C4:FA K mg "fault_of" uJ
 C5:FA K mg "end_with" uK
 Bg:FA K mg "row_place" rZ
 C2:FA K mg "move_row" uI
 Bk:FA K mg "move_rows" r9
 wa:FA K mg "do_tile_step" mi
 rH:FA K mg "do_number_step" jZ
 xb:FA K mg "step_behind" oo
 wc:FA K mg "come_to_step" mj
 xc:FA K mg "run_program" oq
 Bc:FA K mg "zero_rows" lX
 Bh:∃ f fd,wF K "__init__" "Tiles.__init__" jk f fd∧Mk K z5 f
 qu:MA K z5 "set_shape" "Tiles.set_shape" dt
 xz:MA K z5 "shown" "Tiles.shown" gR
 rJ:MA K z5 "is_there" "Tiles.is_there" eW
 rL:MA K z5 "contents" "Tiles.contents" eY
 zO:MA K z5 "zero" "Tiles.zero" ip
 rK:MA K z5 "dot_fits" "Tiles.dot_fits" eX
 xy:MA K z5 "words" "Tiles.words" ft
 kj:MA K z5 "dot_is_in_range" "Tiles.dot_is_in_range" fR
 tR:MA K z5 "add_dot" "Tiles.add_dot" ic
 zx:FA K mg "with_pages" pC
 tM:∃ f fd,wF K "__init__" "Footprint.__init__" k9 f fd∧Mk K aZ f
 jT:MA K aZ "first_closed" "Footprint.first_closed" fu
 rM:MA K aZ "read" "Footprint.read" j4
 qy:MA K aZ "write" "Footprint.write" jn
 i7:MA K nW "dot_is_in_range" "DryTiles.dot_is_in_range" eQ
 pj:MA K nW "add_dot" "DryTiles.add_dot" iK
 Fj:FA K mg "dry_run" xU
 xa:FA K mg "unit_length" on
 zI:FA K mg "group_rows" pN
 Bi:∃ f fd,wF K "__init__" "Cloth.__init__" r0 f fd∧Mk K jf f
 qz:MA K jf "has_sizes" "Cloth.has_sizes" jo
 kS:MA K jf "unwoven_length" "Cloth.unwoven_length" fZ
 nh:MA K jf "woven_length" "Cloth.woven_length" gZ
 rD:FA K mg "unwoven_places" jX
 IU:FA K mg "weave" yL
 Fd:FA K mg "unweave" xO
 zB:∃ f fd,wF K "__init__" "Matrix.__init__" pG f fd∧Mk K eO f
 lJ:MA K eO "place_of_row" "Matrix.place_of_row" gw
 lK:MA K eO "place_behind" "Matrix.place_behind" gx
 lI:MA K eO "shares_bytes" "Matrix.shares_bytes" gt
 Fg:∃ f fd,wF K "__init__" "Job.__init__" xQ f fd∧Mk K Jl f
 tP:FA K mg "has_job_sizes" lf
 Bm:FA K mg "lies_well" me
 G2:FA K mg "job_of" Ao
 Bj:∃ f fd,wF K "__init__" "Block.__init__" r8 f fd∧Mk K ij f
 Bt:FA K mg "blocks_of" sr
 Bl:FA K mg "move_of_c" se
 Bo:FA K mg "dot_steps" sf
 xo:FA K mg "block_steps" oz
 xp:FA K mg "block_sizes" oA
 xq:FA K mg "block_shape" gQ
 Ff:FA K mg "planned" qP
 zD:FA K mg "matrix_row" pI
 xg:FA K mg "product_row" jC
 xi:∃ f fd,wF K "__init__" "Machine.__init__" ow f fd∧Mk K cZ f
 Fl:FA K mg "counted" xW
 ph:FA K mg "counted_in_range" iI
 Bs:FA K mg "call_page" so
 C7:FA K mg "call_put" uM
 C8:FA K mg "call_get" uN
 zN:FA K mg "call_shape" pS
 zM:FA K mg "call_shown" pR
 Bq:FA K mg "call_tile" sj
 zK:FA K mg "call_start" pP
 C6:FA K mg "call_run" uL
 zL:FA K mg "call_stand" pQ
 C9:FA K mg "call_dry" uO
 Br:FA K mg "call_plan" sk
 wg:FA K mg "call_product" mn
 zy:FA K mg "take_cloth" pD
 zJ:FA K mg "call_weave" pO
 we:FA K mg "call_unweave" ml
 Da:FA K mg "call_dot" uP
 Fm:FA K mg "answers" j0
 vY:∃ f fd,wF K "__init__" "Tiles.__init__" jk f fd∧Mk K nW f
 m9:MA K nW "set_shape" "Tiles.set_shape" dt
 rO:MA K nW "shown" "Tiles.shown" gR
 oh:MA K nW "is_there" "Tiles.is_there" eW
 oj:MA K nW "contents" "Tiles.contents" eY
 tT:MA K nW "zero" "Tiles.zero" ip
 oi:MA K nW "dot_fits" "Tiles.dot_fits" eX
 rN:MA K nW "words" "Tiles.words" ft
section
variable{K:PySem.W.Frag}{mg:Str→Option Value}
def Tx.dY(T:Tx K mg)(d:Bool):Addr:=match d with | false=>T.z5 | true=>T.nW
theorem Tx.ba(T:Tx K mg)(d:Bool):rR K (T.dY d):=match d with | false=>T.G9 | true=>T.sW
def Tx.NG(T:Tx K mg)(d:Bool):Addr:=match d with | false=>T.cK | true=>T.aZ
theorem Tx.Ha(T:Tx K mg)(d:Bool):rR K (T.NG d):=match d with | false=>T.eI | true=>T.bM
theorem Tx.bU(T:Tx K mg)(d:Bool):aK K (T.dY d) "start_row":=match d with | false=>T.qf | true=>T.hG
theorem Tx.cJ(T:Tx K mg)(d:Bool):aK K (T.dY d) "widths":=match d with | false=>T.vx | true=>T.qg
theorem Tx.ck(T:Tx K mg)(d:Bool):aK K (T.dY d) "heights":=match d with | false=>T.tJ | true=>T.oX
theorem Tx.dh(T:Tx K mg)(d:Bool):aK K (T.dY d) "rows":=match d with | false=>T.zf | true=>T.tK
theorem Tx.wj(T:Tx K mg)(d:Bool):MA K (T.dY d) "set_shape" "Tiles.set_shape" dt:=match d with | false=>T.qu | true=>T.m9
theorem Tx.Dd(T:Tx K mg)(d:Bool):MA K (T.dY d) "shown" "Tiles.shown" gR:=match d with | false=>T.xz | true=>T.rO
theorem Tx.xt(T:Tx K mg)(d:Bool):MA K (T.dY d) "is_there" "Tiles.is_there" eW:=match d with | false=>T.rJ | true=>T.oh
theorem Tx.xx(T:Tx K mg)(d:Bool):MA K (T.dY d) "contents" "Tiles.contents" eY:=match d with | false=>T.rL | true=>T.oj
theorem Tx.Fn(T:Tx K mg)(d:Bool):MA K (T.dY d) "zero" "Tiles.zero" ip:=match d with | false=>T.zO | true=>T.tT
theorem Tx.xu(T:Tx K mg)(d:Bool):MA K (T.dY d) "dot_fits" "Tiles.dot_fits" eX:=match d with | false=>T.rK | true=>T.oi
theorem Tx.Dc(T:Tx K mg)(d:Bool):MA K (T.dY d) "words" "Tiles.words" ft:=match d with | false=>T.xy | true=>T.rN
end
theorem uF:jv ["calls","machine","reader","given","answer"] ["calls"] (aC j0):=⟨rfl,rfl,rfl,by decide +kernel,rfl,by decide +kernel,by decide +kernel⟩
theorem Di:Jm "answers" "answers" j0 ["calls"]:=by (repeat intro _);rfl
end QT
noncomputable section
set_option maxHeartbeats 0
namespace HD
open PySem PySem.W L2 QT
noncomputable def v (s:Str) (t:Nat):Value:=.str s t
def W(t:Nat):Value:=v "/claim/cut.py" t
noncomputable def R (a:Nat):Value:=.ref a
def I(n:Int):Value:=.int n 0
def vN:Value:=.none
def vT:Value:=.bool true
def vF:Value:=.bool false
def oV(c:String)(l:List Value):Obj:=⟨.type c,none,.fields l.toArray,#[]⟩
def tV(l:List Value):Obj:=⟨.type "tuple",none,.seq l.toArray 0,#[]⟩
def ns:Nat→List Str→List Value
 | _,[]=>[]
 | t,s::l=>v s t::ns (t+1) l
def tE:Obj:=tV []
def tN(t:Nat)(l:List Str):Obj:=tV (ns t l)
def fV(l:List Value):Obj:=⟨.none,none,.fields l.toArray,#[]⟩
def fE:Obj:=fV []
def fB(n q:Str)(st:Stmt):Obj:=⟨.none,none,.func { name:=n,qualname:=q,params:=fC st,body:=.stmts (fj st),scope:=aC st,globals:=0,closure:=[],defaults:=.none,kwdefaults:=.none },#[]⟩
def fb(n:Str)(st:Stmt):Obj:=fB n n st
def fO(n q:Str)(st:Stmt)(m:Value)(c:Nat):Obj:=⟨.type "function",none,.func (fnOf n q (fC st) (fj st) (aC st) .none .none .none m none (.ref c) .none),#[]⟩
def cV(n q:Str)(t line argc fl r:Nat)(b x y z:Value)(e:Nat):Obj:=oV "code" [v n t,v q (t+1),W (t+2),I line,I argc,I 0,I 0,I fl,R r,b,I 181,R (r+1),vN,x,y,z,I e,I line,W (e+1)]
def cO(n q:Str)(t line argc fl r e:Nat):Obj:=cV n q t line argc fl r vT (R (r+2)) (R (r+3)) (R (r+4)) e
def co(n:Str)(t line argc fl r e:Nat):Obj:=cO n n t line argc fl r e
def E(P:Params)(s:Str)(t:Nat)(x:Value):DictEntry:=⟨PyData.keyHash P s,v s t,x⟩
def G(i:Int)(t:Nat)(h:Int)(x:Value):DictEntry:=⟨h,.int i t,x⟩
def dV(l:List DictEntry)(n:Nat):Obj:=⟨.type "dict",none,.dict l.toArray n,#[]⟩
def fr(a b c d e:Value):Obj:=⟨.type "frame",none,.plain,#[some a,some b,some c,none,some d,none,some e]⟩
def kO(z:Option Value)(n:Str)(bs mro:List Value)(ns:Nat)(sub:List Value)(t1 t2:Nat):Obj:=⟨.type "type",none,.cls { name:=n,bases:=bs,mro:=mro,ns:=ns,qualname:=n,subclasses:=sub },#[z,none,some (v n t1),some (v n t2),some (.builtin "object.__new__"),some (.bool true)]⟩
def nO:Stmt→Str
 | .FunctionDef n _ _ _ _ _ _ _ _ _=>n
 | _=>Str.ofString ""
def lO:Stmt→Nat
 | .FunctionDef _ _ _ _ _ _ _ _ _ p=>p.line
 | _=>0
def vO(s:Stmt):List Str:=((aC s).names.filter fun x=>decide (x.2=.local)).map (·.1)
def D(q:Str)(s:Stmt)(t r:Nat)(m:Value):List Obj:=[tE,fE,tV (ns (t+3) (vO s)),tE,fB (nO s) q s,cO (nO s) q t (lO s) (fC s).args.length 3 r (t+3+(vO s).length),fO (nO s) q s m (r+5)]
def F(s:Stmt):Nat→Nat→Value→List Obj:=D (nO s) s
def dq(q:Str)(s:Stmt)(t r:Nat)(m:Value):List Obj:=[tE,fE,fB (nO s) q s,cV (nO s) q t (lO s) (fC s).args.length 3 r vT vN vN (R (r+2)) (t+3),fO (nO s) q s m (r+3)]
def d(s:Stmt):Nat→Nat→Value→List Obj:=dq (nO s) s
def OU:List (List Obj)→List Obj
 | []=>[]
 | a::l=>a++OU l
def nu:Nat→List Obj→Frag
 | _,[]=>[]
 | n,o::l=>(n,o)::nu (n+1) l
def ev{α:Type}:List α→List α
 | a::_::l=>a::ev l
 | l=>l
def bt:Nat→List (Nat×Obj)→BT
 | 0,_=>.nil
 | _,[]=>.nil
 | f+1,x::l=>.node x.2 (bt f (ev l)) (bt f (ev l.tail))
def bp:Obj:=oV "builtin_function_or_method" [.builtin "type.__prepare__",.type "type"]
def bi(c:Nat):List Obj:=[oV "super" [R c,R c,R c],oV "builtin_function_or_method" [.builtin "object.__init_subclass__",R c]]
abbrev MS:Type:=List (Stmt×Nat×Nat)
def ms(c:String)(m:Value):Nat→Nat→MS→List Obj
 | _,_,[]=>[]
 | t,r,(s,e,a)::l=>(if a=r+6 then D (Str.ofString c++Str.ofString "."++nO s) s t r m else dq (Str.ofString c++Str.ofString "."++nO s) s t r m)++ms c m (e+1) (a+1) l
def lE(x:Nat×Nat):MS→Nat×Nat
 | []=>x
 | x::l=>lE x.2 l
def cE(P:Params)(t ln:Nat)(m:Value)(q x:List DictEntry)(l:MS):List DictEntry:=E P "__module__" t m::q++E P "__firstlineno__" (t+4) (.int ln (t+3))::l.map (fun x=>E P (nO x.1) x.2.1 (R x.2.2))++x
def sE(P:Params)(l:MS)(n:Nat):DictEntry:=E P "__static_attributes__" ((lE (0,0) l).1+1+n) (R ((lE (0,0) l).2+1))
def cA(P:Params)(b:Obj)(c:String)(t ln i n:Nat)(m:Value)(l:MS):List Obj:=[b,bp,dV (cE P t ln m [E P "__qualname__" (t+2) (v (Str.ofString c) (t+1))] [sE P l n] l) (l.length+4),tE,fV (l.flatMap fun x=>[I (lO x.1),I 4,R (x.2.2 - 1)]),cV (Str.ofString c) (Str.ofString c) (t - 5) ln 0 0 (i+3) vF vN vN vN (t - 2),fr (R (i+5)) (R 3) (R (i+2)) m (R 0)]++ms c m (t+5) (i+7) l
def cB(P:Params)(c:String)(t ln u z:Nat)(m:Value)(l:MS)(ns:List Str)(s:List Value):List Obj:=[tN (u - ns.length) ns,dV (cE P t ln m [] [sE P l ns.length,E P "__dict__" (u+2) (R (z+1)),E P "__weakref__" (u+4) (R (z+2)),E P "__doc__" (u+5) vN] l) 4,kO none (Str.ofString c) [.type "object"] [R z,.type "object"] (z - 1) s (t - 7) (t+1),oV "getset_descriptor" [v "__dict__" (u+1),R z,.builtin "function.__dict__",.builtin "function.__dict__#set"],oV "getset_descriptor" [v "__weakref__" (u+3),R z,.builtin "ExceptionGroup.__weakref__",vN]]++bi z
def cl(P:Params)(c:String)(t ln i:Nat)(m:Value)(l:MS)(ns:List Str)(s:List Value):List Obj:=cA P tE c t ln i ns.length m l++cB P c t ln ((lE (0,0) l).1+1+ns.length) ((lE (0,0) l).2+3) m l ns s
def hE(s:Str)(t:Nat)(x:Value)(P:Params):DictEntry:=E P s t x
def jE(s:Str)(t:Nat)(n:Int):Params→DictEntry:=hE s t (.int n (t - 1))
def gE(s:Str)(t a:Nat):Params→DictEntry:=hE s t (R a)
def mE(P:Params):List DictEntry:=[hE "__doc__" 166 vN,hE "__package__" 167 vN,hE "__loader__" 168 (.builtin "__main__.__loader__#opaque"),hE "__spec__" 169 vN,gE "__annotations__" 170 6,gE "__builtins__" 171 4,hE "__file__" 173 (W 172),hE "__cached__" 174 vN,jE "PRECISION" 190 24,jE "HALF_SIGN" 192 32768,jE "HALF_FRACTION" 194 128,jE "HALF_LEAST" 196 87,jE "HALF_MOST" 198 167,jE "SINGLE_SIGN" 200 2147483648,jE "SINGLE_FRACTION" 202 8388608,jE "SINGLE_LEAST" 204 27,jE "SINGLE_MOST" 206 227,jE "PRODUCT_TO_SINGLE" 208 536870912,gE "is_in_range" 220 21,gE "half_in_range" 227 28,gE "single_in_range" 234 35,gE "value_of" 246 42,gE "half_value" 253 49,gE "single_value" 260 56,gE "rounded" 270 63,gE "single_of" 281 70,jE "WORD_MODULUS" 285 4294967296,jE "PAIRS_KIND" 287 4,gE "KINDS_WITH_SIGNED_Y" 290 71,gE "KINDS_WITH_SIGNED_Z" 293 72,jE "ROW_NUMBERS" 295 16,jE "ROW_LENGTH" 297 64,jE "MOST_ROWS_dots" 299 16,gE "words_of" 305 77,gE "row_of" 314 84,gE "halves_of" 320 89,gE "with_sign" 326 94,gE "byte_column" 336 101,gE "inner_product" 342 106,gE "byte_dot" 348 111,gE "half_values" 354 116,gE "every_second" 360 121,gE "rounded_sum" 371 128,gE "add_pairs" 383 135,gE "pair_dot" 389 140,gE "dot" 399 147,gE "row_in_range" 405 152,gE "words_in_range" 411 157,gE "pairs_in_range" 417 162,gE "dot_in_range" 427 169,gE "is_row_dot" 438 176,gE "dot_row" 448 183,jE "GROUND_SIZE" 452 16384,jE "PAGE_SIZE" 454 1024,jE "PAGES" 456 16,jE "READABLE" 458 1,jE "WRITABLE" 460 2,gE "lies_in_ground" 468 190,gE "pages_of_row" 476 197,gE "Ground" 536 235,gE "Reader" 592 277,gE "parts_of" 598 286,jE "TILES" 602 8,jE "SHAPE_LENGTH" 604 17,jE "MOST_START_ROW" 606 15,jE "MOST_WIDTH" 608 64,jE "MOST_HEIGHT" 610 16,gE "zero_shape" 616 293,gE "widths_in" 623 300,gE "heights_in" 630 307,gE "is_size" 638 314,gE "is_shape" 644 319,jE "END" 648 0,jE "SHAPE" 650 1,jE "FREE" 652 2,jE "ZERO" 654 3,jE "LOAD" 656 4,jE "STORE" 658 5,jE "FIRST_DOT" 660 6,jE "LAST_DOT" 662 10,jE "SET" 664 11,jE "ADD" 666 12,jE "COPY" 668 13,jE "AGAIN" 670 14,jE "STEP_LENGTH" 672 5,jE "MOST_STEPS" 674 1024,jE "NUMBERS" 676 8,gE "Step" 734 357,gE "Program" 791 399,gE "is_program" 799 410,gE "program_of" 805 415,jE "NO_FAULT" 809 0,jE "NO_STEP" 811 1,jE "NO_SHAPE" 813 2,jE "NO_FIT" 815 3,jE "OUTSIDE" 817 4,jE "NOT_IN_RANGE" 819 5,gE "is_step" 827 422,gE "dot_fault" 835 429,gE "fault_of" 844 436,jE "MODULUS" 848 18446744073709551616,jE "CAME_TO_END" 850 0,jE "PAUSES" 852 1,jE "AT_CLOSED_PAGE" 854 2,jE "AT_FAULT" 856 3,gE "end_with" 864 443,gE "row_place" 874 450,gE "move_row" 890 457,gE "move_rows" 902 464,gE "do_tile_step" 911 471,gE "do_number_step" 920 478,gE "step_behind" 928 485,gE "come_to_step" 939 492,gE "run_program" 951 499,gE "zero_rows" 959 504,gE "Tiles" 1062 578,gE "with_pages" 1074 589,gE "Footprint" 1132 627,gE "DryTiles" 1171 655,gE "dry_run" 1184 664,jE "MOST_ROWS_weaving" 1188 64,jE "MOST_COLUMNS_weaving" 1190 64,jE "GROUP_LENGTH" 1192 4,gE "unit_length" 1199 671,gE "group_rows" 1206 678,gE "Cloth" 1261 716,gE "unwoven_places" 1275 727,gE "weave" 1281 732,gE "unweave" 1292 739,jE "JOB_LENGTH" 1296 10,jE "MOST_ROWS_jobs" 1298 64,jE "MOST_COLUMNS_jobs" 1300 64,jE "MOST_K" 1302 256,jE "DOT_DEPTH" 1304 16,gE "Matrix" 1362 777,gE "Job" 1398 798,gE "has_job_sizes" 1405 809,gE "lies_well" 1411 814,gE "job_of" 1419 821,jE "BLOCK_ROWS" 1423 16,jE "BLOCK_COLUMNS" 1425 16,jE "ZERO_NUMBER" 1427 0,jE "A_STRIDE" 1429 1,jE "B_STRIDE" 1431 2,jE "C_STRIDE" 1433 3,jE "C_TILE" 1435 0,jE "WHOLE_A" 1437 1,jE "WHOLE_B" 1439 2,jE "LEFT_A" 1441 3,jE "LEFT_B" 1443 4,gE "Block" 1478 838,gE "blocks_of" 1488 849,gE "move_of_c" 1497 856,gE "dot_steps" 1509 863,gE "block_steps" 1520 870,gE "block_sizes" 1530 877,gE "block_shape" 1536 882,gE "planned" 1542 887,gE "matrix_row" 1553 894,gE "product_row" 1559 899,jE "DONE" 1563 0,jE "NOT_ENDED" 1565 1,hE "REFUSED" 1568 (.int (-1) 1567),hE "NO_SHAPE_REFUSED" 1571 (.int (-2) 1570),hE "RANGE_REFUSED" 1574 (.int (-3) 1573),hE "NO_PROGRAM" 1577 (.int (-9) 1576),gE "Machine" 1607 916,gE "counted" 1614 927,gE "counted_in_range" 1621 934,gE "call_page" 1631 941,gE "call_put" 1641 948,gE "call_get" 1651 955,gE "call_shape" 1660 962,gE "call_shown" 1668 969,gE "call_tile" 1678 976,gE "call_start" 1688 983,gE "call_run" 1697 990,gE "call_stand" 1707 997,gE "call_dry" 1716 1004,gE "call_plan" 1725 1011,gE "call_product" 1735 1018,gE "take_cloth" 1745 1025,gE "call_weave" 1755 1032,gE "call_unweave" 1765 1039,gE "call_dot" 1778 1046,gE "CALLS" 1809 1047,gE "answers" 1820 1054].map fun f=>f P
def tp:List Nat→List Value
 | a::b::l=>I a::I 0::R b::tp l
 | _=>[]
def fl:List Value:=tp [12,20,15,27,17,34,19,41,25,48,27,55,29,62,38,69,54,76,56,83,61,88,63,93,65,100,70,105,72,110,82,115,84,120,86,127,91,134,96,139,107,146,111,151,113,156,115,161,119,168,121,175,125,182,135,189,137,196,139,203,158,245,177,285,185,292,187,299,189,306,191,313,195,318,215,325,232,367,255,409,259,414,270,421,274,428,280,435,297,442,300,449,303,456,322,463,332,470,342,477,353,484,358,491,375,498,382,503,384,510,435,588,439,595,457,637,464,663,475,670,477,677,479,684,495,726,505,731,507,738,519,745,535,787,546,808,550,813,556,820,573,827,581,848,587,855,590,862,594,869,603,876,615,881,618,886,626,893,628,898,645,905,651,926,653,933,655,940,662,947,669,954,675,961,681,968,683,975,689,982,696,989,701,996,707,1003,712,1010,718,1017,724,1024,729,1031,735,1038,741,1045,751,1053]
def q1:Value:=v "quiltwork.singles" 187
def q2:Value:=v "quiltwork.dots" 282
def q3:Value:=v "quiltwork.ground" 449
def q4:Value:=v "quiltwork.reader" 537
def q5:Value:=v "quiltwork.shapes" 599
def q6:Value:=v "quiltwork.programs" 645
def q7:Value:=v "quiltwork.faults" 806
def q8:Value:=v "quiltwork.runs" 845
def q9:Value:=v "quiltwork.tiles" 952
def Cv:Value:=v "quiltwork.dry" 1063
def Cu:Value:=v "quiltwork.weaving" 1185
def EO:Value:=v "quiltwork.jobs" 1293
def BX:Value:=v "quiltwork.plans" 1420
def NR:Value:=v "quiltwork.products" 1543
def ku:Value:=v "quiltwork.machine" 1560
def K0(P:Params)(a b:Obj):Frag:=nu 0 (OU [[PySem.W.boot_o_0 P,PySem.W.boot_o_1 P,PySem.W.boot_o_2 P,a,PySem.W.boot_o_4 P,PySem.W.boot_o_5 P,PySem.W.boot_o_6 P,PySem.W.boot_o_7 P,PySem.W.boot_o_8 P,PySem.W.boot_o_9 P,PySem.W.boot_o_10 P,tE,b,cV "<module>" "<module>" 182 1 0 0 11 vF vN vN vN 185,fr (R 13) (R 3) (R 3) (v "__main__" 164) (R 0)],F ox 209 15 q1,F lg 221 22 q1,F jj 228 29 q1,F uG 235 36 q1,F pM 247 43 q1,F lZ 254 50 q1,F xP 261 57 q1,F rY 271 64 q1,[tV [.int 0 288,.int 1 289],tV [.int 0 291,.int 2 292]],d oM 300 73 q2,F Am 306 78 q2,d mf 315 85 q2,d lY 321 90 q2,F oy 327 95 q2,d ib 337 102 q2,d gG 343 107 q2,d jD 349 112 q2,d iH 355 117 q2,F ot 361 122 q2,F su 372 129 q2,d gD 384 136 q2,F JF 390 141 q2,d iG 400 148 q2,d gC 406 153 q2,d eV 412 158 q2,F mh 418 163 q2,F pJ 428 170 q2,F xV 439 177 q2,F jY 461 184 q3,F md 469 191 q3,cl P "Ground" 484 139 198 q3 [(pH,495,211),(oC,504,218),(my,515,225),(gy,526,232)] ["cells","pages"] [],cl P "Reader" 546 158 240 q4 [(pE,558,253),(jm,565,260),(gY,573,267),(jl,582,274)] ["at","numbers"] [],d oN 593 282 q4,[tE,fE,tE,tE,fb "zero_shape" kC,co "zero_shape" 611 185 0 3 287 614,fO "zero_shape" "zero_shape" kC q5 292],F rX 617 294 q5,F pL 624 301 q5,F xS 631 308 q5,d oO 639 315 q5,cl P "Step" 684 215 320 q6 [(uH,700,333),(oB,707,340),(lh,714,347),(mq,721,354)] ["kind","v","x","y","z"] [],cl P "Program" 742 232 362 q6 [(ou,755,375),(iJ,762,382),(mx,769,389),(mr,777,396)] ["at","ended","numbers","paid","shapes","steps"] [],F pK 792 404 q6,d kD 800 411 q6,F xR 820 416 q7,F si 828 423 q7,F uJ 836 430 q7,F uK 857 437 q8,F rZ 865 444 q8,F uI 875 451 q8,F r9 891 458 q8,F mi 903 465 q8,F jZ 912 472 q8,F oo 921 479 q8,F mj 929 486 q8,F oq 940 493 q8,d lX 954 500 q9,cl P "Tiles" 967 384 505 q9 [(jk,978,518),(dt,984,523),(gR,991,530),(eW,999,537),(eY,1009,544),(ip,1017,551),(eX,1027,558),(ft,1033,563),(fR,1044,570),(ic,1050,575)] ["heights","rows","start_row","widths"] [R 655],F pC 1065 583 Cv,cl P "Footprint" 1082 439 590 Cv [(k9,1093,603),(fu,1103,610),(j4,1112,617),(jn,1121,624)] ["moved","pages_read","pages_written"] [],cA P (tV [R 578]) "DryTiles" 1140 457 632 1 Cv [(eQ,1155,645),(iK,1166,652)],[tN 1167 ["start_row"],dV [E P "__module__" 1140 Cv,E P "__firstlineno__" 1144 (.int 457 1143),E P "dot_is_in_range" 1155 (R 645),E P "add_dot" 1166 (R 652),E P "__static_attributes__" 1168 (R 653),E P "__doc__" 1169 vN] 2,kO (some (R 632)) "DryTiles" [R 578] [R 655,R 578,.type "object"] 654 [] 1133 1141],bi 655,F xU 1172 658 Cv,F on 1193 665 Cu,F pN 1200 672 Cu,cl P "Cloth" 1214 479 679 Cu [(r0,1228,692),(jo,1235,699),(fZ,1242,706),(gZ,1250,713)] ["cols","kind","rows"] [],F jX 1262 721 Cu,d yL 1276 728 Cu,F xO 1282 733 Cu,cl P "Matrix" 1312 519 740 EO [(pG,1327,753),(gw,1335,760),(gx,1342,767),(gt,1350,774)] ["height","place","stride","width"] [],cl P "Job" 1370 535 782 EO [(xQ,1382,795)] ["a","b","c","depth","k","kind","m","n"] [],F lf 1399 803 EO,d me 1406 810 EO,F Ao 1412 815 EO,cl P "Block" 1451 573 822 BX [(r8,1465,835)] ["column","height","job","row","width"] [],F sr 1479 843 BX,F se 1489 850 BX,F sf 1498 857 BX,F oz 1510 864 BX,F oA 1521 871 BX,d gQ 1531 878 BX,d qP 1537 883 BX,F pI 1545 888 NR,d jC 1554 895 NR,cl P "Machine" 1585 645 900 ku [(ow,1596,913)] ["ground","program","tiles"] [],F xW 1608 921 ku,F iI 1615 928 ku,F so 1622 935 ku,F uM 1632 942 ku,F uN 1642 949 ku,F pS 1652 956 ku,F pR 1661 963 ku,F sj 1669 970 ku,F pP 1679 977 ku,F uL 1689 984 ku,F pQ 1698 991 ku,F uO 1708 998 ku,F sk 1717 1005 ku,F mn 1726 1012 ku,F pD 1736 1019 ku,F pO 1746 1026 ku,F ml 1756 1033 ku,F uP 1766 1040 ku,[dV [G 1 1779 1 (R 941),G 2 1780 2 (R 948),G 3 1781 3 (R 955),G 4 1782 4 (R 962),G 5 1783 5 (R 969),G 6 1784 6 (R 976),G 7 1785 7 (R 983),G 8 1786 8 (R 990),G 9 1787 9 (R 997),G 10 1788 10 (R 1004),G 11 1789 11 (R 1011),G 12 1790 12 (R 1018),G 13 1791 13 (R 1032),G 14 1792 14 (R 1039),G 15 1793 15 (R 1046)] 15],F j0 1810 1048 ku])
def mD(P:Params)(x:Value)(m ep:Nat):Obj:=dV (E P "__name__" 165 x::(mE P).take m) ep
def S(x:Value)(m ep f n t:Nat)(w:World)(os:OsState):SharedT:={ tree:=bt 12 ((K0 w.params (mD w.params x m ep) (fV (fl.take f))).take n),n:=n,life:={},gens:=#[],drawn:={},toks:=t,os:=os }
def S0:World→OsState→SharedT:=S (v "__main__" 164) 8 9 0 15 187
def S1:World→OsState→SharedT:=S (v "quiltwork.programs" 645) 81 82 111 320 665
def S2:World→OsState→SharedT:=S (v "quiltwork.plans" 1420) 146 147 210 822 1436
def S3:World→OsState→SharedT:=S (v "quiltwork.machine" 1560) 185 186 297 1047 1779
def S4:World→OsState→SharedT:=S (v "quiltwork.machine" 1560) 186 187 297 1048 1810
def S5:World→OsState→SharedT:=S (v "quiltwork.machine" 1560) 187 188 300 1055 1821
def K(P:Params):Frag:=K0 P (mD P (v "quiltwork.machine" 1560) 187 188) (fV fl)
abbrev pr:Program:=PySem.Challenge.pw_quiltwork_s01_answers
def en:Env:={ scope:=pr.main.scope,locals:=mainNs,globals:=mainNs,cells:=[],code:=.ref 13,frame:=some 14 }
abbrev z4:Pos:=⟨0,0,0,0⟩
abbrev an:Option Value:=some (.ref 6)
def g1:List Stmt:=(pr.main.body.drop 0).take 79
theorem r1(w:World)(p:Program)(b:List Stmt)(os:OsState):segRunT treeTable p w 11 an 1 2051 (S0 w os) (piecesOf g1 en (.body b en) z4 [topFrame z4])=some (.next,S1 w os,.body b en,⟨208,0,208,3⟩):=by rw[PySem.W.Fast.te10110043849684766642];kernel_rfl
def g2:List Stmt:=(pr.main.body.drop 79).take 72
theorem r2(w:World)(p:Program)(b:List Stmt)(os:OsState):segRunT treeTable p w 11 an 1 3752 (S1 w os) (piecesOf g2 en (.body b en) ⟨208,0,208,3⟩ [topFrame z4])=some (.next,S2 w os,.body b en,⟨568,0,568,6⟩):=by rw[PySem.W.Fast.te10110043849684766642];kernel_rfl
def g3:List Stmt:=(pr.main.body.drop 151).take 41
theorem r3(w:World)(p:Program)(b:List Stmt)(os:OsState):segRunT treeTable p w 11 an 1 1418 (S2 w os) (piecesOf g3 en (.body b en) ⟨568,0,568,6⟩ [topFrame z4])=some (.next,S3 w os,.body b en,⟨741,0,749,73⟩):=by rw[PySem.W.Fast.te10110043849684766642];kernel_rfl
def g4:List Stmt:=(pr.main.body.drop 192).take 1
theorem r4:∀ (w:World) (p:Program) (b:List Stmt) (os:OsState),segRunT treeTable p w 11 an 1 221 (S3 w os) (piecesOf g4 en (.body b en) ⟨741,0,749,73⟩ [topFrame z4])=some (.next,S4 w os,.body b en,⟨750,0,750,5⟩):=byRow2 "special-get-raises" (fun w p b os=>by rw[PySem.W.Fast.te10110043849684766642];kernel_rfl) fun w p b os=>by rw[PySem.W.Fast.te10110043849684766642];kernel_rfl
def g5:List Stmt:=(pr.main.body.drop 193).take 1
theorem r5(w:World)(p:Program)(b:List Stmt)(os:OsState):segRunT treeTable p w 11 an 1 34 (S4 w os) (piecesOf g5 en (.body b en) ⟨750,0,750,5⟩ [topFrame z4])=some (.next,S5 w os,.body b en,⟨751,0,759,16⟩):=by rw[PySem.W.Fast.te10110043849684766642];kernel_rfl
end HD
end
noncomputable section
set_option maxHeartbeats 0
namespace HD
open PySem PySem.W L2 QT
abbrev b:List Stmt:=behindTheImports pr
theorem pre(w:World)(os:OsState):topGo treeTable pr w 11 an 12 ⟨boot_heap w.params,Array.mk [],boot_drawn,boot_toks,os⟩ (topStub pr)=some ((S0 w os).abs,⟨denote treeTable (.body b en),.body b en,z4,[topFrame z4]⟩):=by
 kernel_rfl
theorem blk(w:World)(os:OsState):segRun treeTable pr w 11 an 1 1 (S0 w os).abs (blockOf b en (.body b en) z4 [topFrame z4])=some (.next,(S0 w os).abs,.body b en,z4):=by
 rw[PySem.W.Fast.te14374325043358763698];kernel_rfl
theorem dO(w:World)(os:OsState):topRun treeTable pr w 11 an 2 (S5 w os).abs ⟨doneF .next,.body b en,⟨751,0,759,16⟩,[topFrame z4]⟩=some (S5 w os).abs:=by
 rw[PySem.W.Fast.te14082659384304107361];kernel_rfl
theorem O2:b=g1++(g2++(g3++(g4++(g5++[])))):=by kernel_rfl
theorem run(w:World)(os:OsState):topRun treeTable pr w 11 an (12+(1+(2051+(3752+(1418+(221+(34+2))))))) ⟨boot_heap w.params,Array.mk [],boot_drawn,boot_toks,os⟩ (topStub pr)=some (S5 w os).abs:=by
 refine go_top (pre w os) (piece_block (blk w os) ?_);have k:=piece_app (segRun_of (r1 w pr b os)) (piece_app (segRun_of (r2 w pr b os)) (piece_app (segRun_of (r3 w pr b os)) (piece_app (segRun_of (r4 w pr b os)) (piece_app (segRun_of (r5 w pr b os)) (piece_nil (dO w os))))));rw[←O2] at k;exact k
def qv:Program:={ pr with main:={ pr.main with body:=[bS 193] } }
def H1(P:Params):Heap:=absHeap (bt 12 (K P)) 1055 {}
theorem M0:∀ w:World,(fencedOpening treeTable pr w 15068).map (fun s=>(s.heap,s.gens,s.drawn,s.toks))=some (boot_heap w.params,Array.mk [],boot_drawn,boot_toks):=boot_open (by kernel_rfl) (by kernel_rfl) (fun s=>by kernel_rfl)
theorem size:∀ w:World,((boot_heap w.params).isNs mainGlobals&&(Array.mk []:Array GenState).size==0,(boot_heap w.params).objs.size,(boot_heap w.params).nsMap mainGlobals "__annotations__")=(true,11,an):=fun w=>by kernel_rfl
theorem s5(w:World)(os:OsState):(S5 w os).abs=⟨H1 w.params,#[],{},1821,os⟩:=by kernel_rfl
end HD
end
noncomputable section
set_option maxHeartbeats 0
namespace HD
open PySem PySem.W L2 QT
def lz:List Str:=["PRECISION","HALF_SIGN","HALF_FRACTION","HALF_LEAST","HALF_MOST","SINGLE_SIGN","SINGLE_FRACTION","SINGLE_LEAST","SINGLE_MOST","PRODUCT_TO_SINGLE","is_in_range","half_in_range","single_in_range","value_of","half_value","single_value","rounded","single_of","WORD_MODULUS","PAIRS_KIND","KINDS_WITH_SIGNED_Y","KINDS_WITH_SIGNED_Z","ROW_NUMBERS","ROW_LENGTH","MOST_ROWS_dots","words_of","row_of","halves_of","with_sign","byte_column","inner_product","byte_dot","half_values","every_second","rounded_sum","add_pairs","pair_dot","dot","row_in_range","words_in_range","pairs_in_range","dot_in_range","is_row_dot","dot_row","GROUND_SIZE","PAGE_SIZE","PAGES","READABLE","WRITABLE","lies_in_ground","pages_of_row","Ground","Reader","parts_of","TILES","SHAPE_LENGTH","MOST_START_ROW","MOST_WIDTH","MOST_HEIGHT","zero_shape","widths_in","heights_in","is_size","is_shape","END","SHAPE","FREE","ZERO","LOAD","STORE","FIRST_DOT","LAST_DOT","SET","ADD","COPY","AGAIN","STEP_LENGTH","MOST_STEPS","NUMBERS","Step","Program","is_program","program_of","NO_FAULT","NO_STEP","NO_SHAPE","NO_FIT","OUTSIDE","NOT_IN_RANGE","is_step","dot_fault","fault_of","MODULUS","CAME_TO_END","PAUSES","AT_CLOSED_PAGE","AT_FAULT","end_with","row_place","move_row","move_rows","do_tile_step","do_number_step","step_behind","come_to_step","run_program","zero_rows","Tiles","with_pages","Footprint","DryTiles","dry_run","MOST_ROWS_weaving","MOST_COLUMNS_weaving","GROUP_LENGTH","unit_length","group_rows","Cloth","unwoven_places","weave","unweave","JOB_LENGTH","MOST_ROWS_jobs","MOST_COLUMNS_jobs","MOST_K","DOT_DEPTH","Matrix","Job","has_job_sizes","lies_well","job_of","BLOCK_ROWS","BLOCK_COLUMNS","ZERO_NUMBER","A_STRIDE","B_STRIDE","C_STRIDE","C_TILE","WHOLE_A","WHOLE_B","LEFT_A","LEFT_B","Block","blocks_of","move_of_c","dot_steps","block_steps","block_sizes","block_shape","planned","matrix_row","product_row","DONE","NOT_ENDED","REFUSED","NO_SHAPE_REFUSED","RANGE_REFUSED","NO_PROGRAM","Machine","counted","counted_in_range","call_page","call_put","call_get","call_shape","call_shown","call_tile","call_start","call_run","call_stand","call_dry","call_plan","call_product","take_cloth","call_weave","call_unweave","call_dot","CALLS"].map Str.ofString
def Xt(s:Shared):Bool:=xlAt qv [] s&&recOk [] s
theorem l1(w:World)(os:OsState):(staticsOk (importedModules pr.main.body) (boot_heap w.params) (H1 w.params)&&namesBound pr (H1 w.params)&&gensDone ⟨H1 w.params,#[],{},1821,os⟩&&laidKept (boot_heap w.params) (H1 w.params))=true:=by kernel_rfl
theorem l2(w:World)(os:OsState):openSeen qv lz (importedModules pr.main.body) Xt true ⟨H1 w.params,#[],{},1821,os⟩=openGood qv lz:=by
 rw[PySem.W.Fast.te4187177175401517315];kernel_rfl
end HD
end
noncomputable section
set_option maxHeartbeats 0
namespace HD
open PySem PySem.W L2 QT
theorem left:LeftO pr qv lz Xt (fun s=>s.heap) (fun w=>H1 w.params) 15068 :=
 LeftO.of_pieces M0 size (fun w os=>by rw[run w os,s5]) (by kernel_rfl) (fun w=>funext fun os=>looks_pair (l1 w os) (looks_pair (l2 w os) rfl))
theorem Oq(P:Params):(List.range 1055).map (bt 12 (K P)).get=(K P).map (fun p=>some p.2):=by kernel_rfl
theorem O1(P:Params):List.range 1055=(K P).map (·.1):=by kernel_rfl
def nf:Obj→Bool
 | ⟨_,_,.freed,_⟩=>false
 | _=>true
theorem O0(P:Params):(K P).all (fun x=>nf x.2)=true:=by kernel_rfl
theorem Lg{h:Heap}{a:Nat}{o:Obj}(e:h.objs[a]?=some o)(n:nf o=true):h.get? a=some o:=by
 unfold Heap.get?;rw[e];obtain⟨c,d,x,s⟩:=o
 cases x<;>first | rfl | cases n
theorem vz{a:Nat}{o:Obj}:∀ {l:Frag},l.lookup a=some o→(a,o)∈l
 | [],h=>by cases h
 | (b,u)::l,h=>by
  rw[lookup_cons] at h
  split at h
  ·rename_i e
   have e1:a=b:=by simpa using e
   have e2:u=o:=Option.some.inj h;rw[e1,e2];exact mem_cons_self
  ·exact mem_cons_of_mem _ (vz h)
theorem kin(P:Params):(K P).In (H1 P):=by
 intro a o h;have hm:=vz h;obtain⟨i,hi⟩:=getElem?_of_mem hm;have h1:(List.range 1055)[i]?=some a:=by rw[O1 P,getElem?_map,hi];rfl
 have h2:((List.range 1055).map (bt 12 (K P)).get)[i]?=some (some o):=by rw[Oq P,getElem?_map,hi];rfl
 rw[getElem?_map,h1] at h2;have h3:(bt 12 (K P)).get a=some o:=Option.some.inj h2;have h4:a<1055:=mem_range.1 (mem_of_getElem? h1);refine Lg ?_ (all_eq_true.1 (O0 P) _ hm);unfold H1;rw[absHeap_at,if_pos h4,h3];rfl
end HD
end
namespace HD
open PySem PySem.W
theorem MI:PySem.Challenge.rw_quiltwork_s01_answers.wellSaid=true:=by
 unfold OpenSpec.wellSaid;rw[Fast.te12908688711261696721,Fast.te18344453789297297638];kernel_rfl
theorem whole:pr.tablesWhole=true:=by
 unfold Program.tablesWhole TablesWhole.wProgram;rw[Fast.te6116379765354995101];kernel_rfl
end HD
set_option exponentiation.threshold 1024
namespace QD
open PySem PySem.Spec PyProof.Rows L2 QB QT QM
variable{P:Program}{w:World}{K:PySem.W.Frag}{mg:Str→Option Value}{base:Heap}
local macro_rules | `(tactic| walk_at "dd")=>`(tactic| (try dsimp only[Hu,LY,OM,L5,LU,Dt,tB,Hm,OK,MK,KC,KB,ML,MM,tC,Cd,JH,Of,Oe,J5,LR,Jt,Js,KF,KD,KG,EB,db,L4,MT,ON,Jv,LS,Jr,Ju,uw,J9,NI,Ka,NJ,J6,LQ,KA,Kz,Ky,Kx,J7,Hx,JT,M9,JS,GO,Lf,Le,GP,bh,J8,Kv,HM,Hw,LX,Nb,OL,Jq,Hv,L2.start,MO,MN,length_cons,length_nil,List.replicate_zero,replicate_succ,cons_append,nil_append,Nat.reduceSub,Nat.reduceAdd,List.set_cons_zero,List.set_cons_succ]))
local macro_rules | `(tactic| walk_at "rd")=>`(tactic| (walk_at "dd";(try simp only[Hq,List.getElem?_cons_zero,List.getElem?_cons_succ,Nat.sub_self,Option.some.injEq,V.int.injEq,V.bl.injEq,V.ref.injEq,List.cons.injEq,exists_eq_left',exists_eq_left,exists_and_left,and_assoc,true_and,and_true,decide_eq_true_eq,if_true,if_false,reduceIte,Bool.false_eq_true,Bool.true_eq_false,exists_const,Bool.not_eq_true',decide_eq_false_iff_not]);walk_at "dd"))
local macro_rules | `(tactic| walk_at "ln")=>`(tactic| (intro vs H Q E h;first | (obtain⟨e,_⟩:=h;subst e;rfl) | (obtain⟨_,e,_⟩:=h;subst e;rfl) | (obtain⟨_,_,e,_⟩:=h;subst e;rfl) | (obtain⟨_,_,_,e,_⟩:=h;subst e;rfl) | (obtain⟨_,_,_,_,e,_⟩:=h;subst e;rfl) | (obtain⟨_,_,_,_,_,e,_⟩:=h;subst e;rfl) | (obtain⟨_,_,_,_,_,_,e,_⟩:=h;subst e;rfl) | (obtain⟨_,_,_,_,_,_,_,e,_⟩:=h;subst e;rfl) | (obtain⟨_,_,_,_,_,_,_,_,e,_⟩:=h;subst e;rfl) | (obtain⟨_,_,_,_,_,_,_,_,_,e,_⟩:=h;subst e;rfl) | (obtain⟨_,_,_,_,_,_,_,_,_,_,e,_⟩:=h;subst e;rfl) | (obtain⟨_,_,_,_,_,_,_,_,_,_,_,e,_⟩:=h;subst e;rfl) | (obtain⟨_,_,_,_,_,_,_,_,_,_,_,_,e,_⟩:=h;subst e;rfl) | (obtain⟨_,_,_,_,_,_,_,_,_,_,_,_,_,e,_⟩:=h;subst e;rfl) | (obtain⟨_,e,_⟩:=jz h;subst e;rfl) | (obtain⟨_,_,e,_⟩:=yI h;subst e;rfl) | (obtain⟨_,_,_,e,_⟩:=sp3_ex h;subst e;rfl) | (obtain⟨_,_,_,_,e,_⟩:=Ch h;subst e;rfl) | (obtain⟨_,_,_,_,_,e,_⟩:=Cg h;subst e;rfl) | (rcases h with ⟨e,_⟩ | ⟨_,_,e,_⟩<;>(subst e;rfl))))
theorem ge(T:Tx K mg):bg P w K mg base 1 "lies_in_ground" ["place","length"] (MG (fun _ _=>True) fun i j=>.bl (decide (i+j≤16384))):=by
 refine bg.of [] T.rG fun sc H Q E hr h=>?_
 replace h:=yI h;obtain⟨i,j,rfl,_,k⟩:=h;refine⟨_,(bu (tU gz (aq bn (pv 0) (pv 1)) (am T.jS))),?_⟩;walk_at "rd";exact k
theorem CG(T:Tx K mg):bg P w K mg base 1 "is_size" ["width","height"] (MG (fun _ _=>True) fun i j=>.bl (decide (i≤64)&&(decide (j≤16)&&(decide (i=0)==decide (j=0))))):=by
 refine bg.of [] T.Fi fun sc H Q E hr h=>?_
 replace h:=yI h;obtain⟨i,j,rfl,_,k⟩:=h
 try dsimp only at k
 refine⟨_,(ab (aU (PW.pt (g7 (gq mM (pv 0) (am T.zo)) (fJ (gq mM (pv 1) (am T.wZ))))) (bu j8) aF) (bu (tU cI (tU cI (pv 0) aj) (tU cI (pv 1) aj)))),?_⟩;walk_at "rd";refine aN (fun h1=>?_) fun h1=>aN (fun h2=>?_) fun h2=>?_
 ·rw[decide_eq_false (show ¬ i≤64 by lia),Bool.false_and] at k;exact k
 ·rw[decide_eq_false (show ¬ j≤16 by lia),Bool.false_and,Bool.and_false] at k;exact k
 ·rw[decide_eq_true (show i≤64 by lia),decide_eq_true (show j≤16 by lia),Bool.true_and,Bool.true_and] at k
  have e:decide (decide (i=0)=decide (j=0))=(decide (i=0)==decide (j=0)):=by
   by_cases a:i=0<;>by_cases b:j=0<;>simp[a,b]
  rw[e];exact k
theorem mQ(T:Tx K mg):bg P w K mg base 1 "is_in_range" ["number","sign","fraction","least","most"] (NM (fun _ s f _ _=>0<s∧0<f∧f<1073741824) fun n s f l m=>.bl (df n s f l m)):=by
 refine bg.of ["size"] T.xj fun sc H Q E hr h=>?_
 replace h:=Cg h;obtain⟨n,sg,fr,l,m,rfl,⟨h1,h2,h3⟩,k⟩:=h
 try dsimp only at k
 unfold df at k;refine⟨_,(ab (sS 5 sc.nd (aq eR (pv 0) (pv 1))) (bu (DN (tU cI (pv 5) aj) (jK (iN gz gz (pv 3) (aq gd (pv 5) (pv 2)) (pv 4)))))),?_⟩;walk_at "rd";refine⟨h1,aN (fun h4=>?_) fun h4=>⟨⟨h2,h3⟩,aN (fun h5=>?_) fun h5=>?_⟩⟩
 ·rw[decide_eq_true h4,Bool.true_or] at k;exact k
 ·rw[decide_eq_false h4,Bool.false_or,decide_eq_true h5,Bool.true_and] at k;exact k
 ·rw[decide_eq_false h4,Bool.false_or,decide_eq_false h5,Bool.false_and] at k;exact k
theorem qW(T:Tx K mg):bg P w K mg base 2 "half_in_range" ["number"] (F1 (fun _=>True) fun n=>.bl (fv n)):=by
 refine bg.of [] T.tQ fun sc H Q E hr h=>?_
 replace h:=jz h;obtain⟨n,rfl,_,k⟩:=h;refine⟨_,(bu (aA (mQ T) hr.m (aa (pv 0) (aa (am T.sT) (aa (am T.lw) (aa (am T.qp) (aa (am T.Ba) ae))))))),?_⟩;walk_at "rd"
 exact⟨by decide,by decide,by decide,k⟩
theorem oQ(T:Tx K mg):bg P w K mg base 2 "single_in_range" ["number"] (F1 (fun _=>True) fun n=>.bl (bC n)):=by
 refine bg.of [] T.qt fun sc H Q E hr h=>?_
 replace h:=jz h;obtain⟨n,rfl,_,k⟩:=h;refine⟨_,(bu (aA (mQ T) hr.m (aa (pv 0) (aa (am T.jR) (aa (am T.eM) (aa (am T.i5) (aa (am T.wX) ae))))))),?_⟩;walk_at "rd"
 exact⟨by decide,by decide,by decide,k⟩
def LI(n sg fr l:Int):Prop:=0<sg∧0<fr∧fr≤8388608∧(n % sg=0∨(l≤n % sg / fr∧n % sg / fr≤l+1000))
theorem sH(T:Tx K mg):bg P w K mg base 1 "value_of" ["number","sign","fraction","least"] (NO LI fun n s f l=>.int (dQ n s f l)):=by
 refine bg.of ["size","value"] T.CY fun sc H Q E hr h=>?_
 replace h:=Ch h;obtain⟨n,sg,fr,l,rfl,⟨h1,h2,h3,h4⟩,k⟩:=h
 try dsimp only at k
 unfold dQ at k;refine⟨_,(ab (sS 4 sc.nd (aq eR (pv 0) (pv 1))) (ab (aU (gq cI (pv 4) aj) (bu aj) aF) (ab (sS 5 sc.nd (aq kJ (aq bn (pv 2) (aq eR (pv 4) (pv 2))) (aq ig (aq gd (pv 4) (pv 2)) (pv 3)))) (bu (dw (gq kb (pv 0) (pv 1)) (pv 5) (Az uq (pv 5))))))),?_⟩;walk_at "rd";refine⟨h1,aN (fun h5=>?_) fun h5=>?_⟩
 ·rw[if_pos h5] at k;exact k
 ·have h6:l≤n % sg / fr∧n % sg / fr≤l+1000:=h4.resolve_left h5;have h7:=Int.emod_nonneg (n % sg) (show fr≠0 by lia)
  have h8:=Int.emod_lt_of_pos (n % sg) h2;rw[if_neg h5] at k;refine⟨h2,⟨h2,by lia⟩,⟨by lia,by lia,by lia⟩,aN (fun h9=>?_) fun h9=>?_⟩
  ·rw[if_pos h9] at k;exact k
  ·rw[if_neg h9] at k;exact k
theorem Fo(h:fv n=true):LI n 32768 128 87:=by
 refine⟨by decide,by decide,by decide,?_⟩
 unfold fv df at h;rw[Bool.or_eq_true,Bool.and_eq_true,decide_eq_true_eq,decide_eq_true_eq,decide_eq_true_eq] at h;lia
theorem By(h:bC n=true):LI n 2147483648 8388608 27:=by
 refine⟨by decide,by decide,by decide,?_⟩
 unfold bC df at h;rw[Bool.or_eq_true,Bool.and_eq_true,decide_eq_true_eq,decide_eq_true_eq,decide_eq_true_eq] at h;lia
theorem wP(T:Tx K mg):bg P w K mg base 2 "half_value" ["number"] (F1 (fun n=>fv n=true) fun n=>.int (QM.hv n)):=by
 refine bg.of [] T.zH fun sc H Q E hr h=>?_
 replace h:=jz h;obtain⟨n,rfl,h1,k⟩:=h;refine⟨_,(bu (aA (sH T) hr.m (aa (pv 0) (aa (am T.sT) (aa (am T.lw) (aa (am T.qp) ae)))))),?_⟩;walk_at "rd"
 exact⟨Fo h1,k⟩
theorem tm(T:Tx K mg):bg P w K mg base 2 "single_value" ["number"] (F1 (fun n=>bC n=true) fun n=>.int (QM.sv n)):=by
 refine bg.of [] T.vV fun sc H Q E hr h=>?_
 replace h:=jz h;obtain⟨n,rfl,h1,k⟩:=h;refine⟨_,(bu (aA (sH T) hr.m (aa (pv 0) (aa (am T.jR) (aa (am T.eM) (aa (am T.i5) ae)))))),?_⟩;walk_at "rd"
 exact⟨By h1,k⟩
theorem JX(h:i.natAbs<2 ^ n):QM.bl i≤n:=by
 unfold QM.bl
 split
 ·exact Nat.zero_le _
 ·rename_i hz
  have hz':i.natAbs≠0:=by
   intro z;apply hz;simp;lia
  have:=(QM.log2_lt hz').2 h
  lia
theorem JP:i.natAbs<2 ^ QM.bl i:=by
 unfold QM.bl
 split
 ·rename_i hz;have:i=0:=by simpa using hz
  subst this;decide
 ·rename_i hz
  have hz':i.natAbs≠0:=by
   intro z;apply hz;simp;lia
  exact (QM.log2_lt hz').1 (Nat.lt_succ_self _)
theorem ID(h:QM.bl i=s+25):(i / 2 ^ s).natAbs<2 ^ 26:=by
 have h1:=JP (i:=i);rw[h,Nat.pow_add] at h1;have hP:0<2 ^ s:=Nat.two_pow_pos s;have e:((2:Int) ^ s)=((2 ^ s:Nat):Int):=by simp
 rw[e];generalize 2 ^ s=P at *;have h2:=Int.mul_ediv_add_emod i (P:Int);have h3:=Int.emod_nonneg i (show (P:Int)≠0 by lia)
 have h4:=Int.emod_lt_of_pos i (show (0:Int)<(P:Int) by lia)
 generalize i / (P:Int)=q at *;generalize i % (P:Int)=r at *;rcases Int.le_total 0 q with hq | hq
 ·have h5:(P:Int)*q<(P:Int)*33554432:=by lia
  have:=Int.lt_of_mul_lt_mul_left h5 (by lia)
  lia
 ·have h5:(P:Int)*(-33554433)<(P:Int)*q:=by
   rw[Int.mul_neg];lia
  have:=Int.lt_of_mul_lt_mul_left h5 (by lia)
  lia
theorem oR(T:Tx K mg):bg P w K mg base 1 "rounded" ["value"] (F1 (fun i=>i.natAbs<2 ^ 300) fun i=>.int (bA i)):=by
 refine bg.of ["spare","kept","halfway"] T.Fe fun sc H Q E hr h=>?_
 replace h:=jz h;obtain⟨i,rfl,hC,k⟩:=h
 try dsimp only at k
 unfold bA at k;refine⟨_,(ab (sS 1 sc.nd (aq ig (aq ig (DP (K:=K) PySem.F.plainAttrs_int PySem.F.slot_int_bit_length PySem.F.type_int_bit_length DS (pv 0)) (am T.sQ)) aj)) (ab (aU (gq kb (pv 1) aj) (bu (pv 0)) aF) (ab (sS 2 sc.nd (aq vd (pv 0) (pv 1))) (ab (aU (gq cI (aq eR (pv 2) aj) aj) (ab (sS 3 sc.nd (tU cI (aq kJ (pv 2) (pv 1)) (pv 0))) (aB (Gi (i:=2) sc.nd rfl (Or.inl rfl) (dw (PW.pt (qS (cf (pv 3)) (nL (gq cI (aq eR (pv 2) aj) aj)))) (Az uq aj) aj) Lb))) aF) (bu (aq kJ (pv 2) (pv 1))))))),?_⟩;walk_at "rd";have hb:QM.bl i≤300:=JX hC;refine aN (fun h1=>?_) fun h1=>?_
 ·rw[if_pos h1] at k;exact k
 ·rw[if_neg h1] at k;have hk:(i / 2 ^ ((QM.bl i:Int) - 24 - 1).toNat).natAbs<2 ^ 26:=ID (by lia)
  have cp:∀ d:Int,-1≤d→d≤1→Jk (i / 2 ^ ((QM.bl i:Int) - 24 - 1).toNat+d) ((QM.bl i:Int) - 24 - 1):=fun d h1 h2=>⟨by lia,by lia,by lia⟩
  have cp0:Jk (i / 2 ^ ((QM.bl i:Int) - 24 - 1).toNat) ((QM.bl i:Int) - 24 - 1):=⟨by lia,by lia,by lia⟩
  refine⟨by lia,by decide,aN (fun h2=>?_) fun h2=>?_⟩
  ·rw[if_pos h2] at k;refine⟨cp0,aN (fun h3=>?_) fun h3=>?_⟩
   ·refine⟨by decide,aN (fun h4=>?_) fun h4=>?_⟩
    ·rw[if_pos ⟨h3,h4⟩] at k;exact⟨cp _ (by decide) (by decide),k⟩
    ·rw[if_neg (fun z=>h4 z.2)] at k;exact⟨cp _ (by decide) (by decide),k⟩
   ·rw[if_neg (fun z=>h3 z.1)] at k;exact⟨cp _ (by decide) (by decide),k⟩
  ·rw[if_neg h2] at k;exact⟨cp0,k⟩
theorem yV(T:Tx K mg):bg P w K mg base 1 "single_of" ["value"] (F1 (fun i=>i.natAbs≤2 ^ 250) fun i=>.int (fI i)):=by
 refine bg.of ["size","spare","digits","number"] T.Bf fun sc H Q E hr h=>?_
 replace h:=jz h;obtain⟨i,rfl,hC,k⟩:=h
 try dsimp only at k
 unfold fI at k
 try dsimp only at k
 simp only[gt_iff_lt] at k;refine⟨_,(ab (aU (gq cI (pv 0) aj) (bu aj) aF) (ab (sS 1 sc.nd (dZ Hb (by rfl) T.Nn boot_abs (aa (pv 0) ae))) (ab (sS 2 sc.nd (aq ig (DP (K:=K) PySem.F.plainAttrs_int PySem.F.slot_int_bit_length PySem.F.type_int_bit_length DS (pv 1)) (am T.sQ))) (ab (sS 3 sc.nd (dw (gq mM (pv 2) aj) (aq vd (pv 1) (pv 2)) (aq kJ (pv 1) (Az uq (pv 2))))) (ab (sS 4 sc.nd (aq ig (aq bn (aq bq (aq bn (am T.i5) (pv 2)) (am T.eM)) (pv 3)) (am T.eM))) (bu (dw (gq mM (pv 0) aj) (pv 4) (aq bn (pv 4) (am T.jR))))))))),?_⟩
 walk_at "rd";have e1:(if i<0 then -i else i)=(i.natAbs:Int):=by split<;>lia
 have hb:QM.bl (i.natAbs:Int)≤251:=JX (by rw[Int.natAbs_natCast];exact Nat.lt_of_le_of_lt hC (by decide))
 have hl:=JP (i:=(i.natAbs:Int));have cm:fz (27+((QM.bl (i.natAbs:Int):Int) - 24)) 8388608:=⟨Nat.lt_of_le_of_lt (show (27+((QM.bl (i.natAbs:Int):Int) - 24)).natAbs≤1000 by lia) (by decide),by decide⟩
 rw[e1];rw[Int.natAbs_natCast] at hl;refine aN (fun h0=>?_) fun h0=>aN (fun h1=>⟨by lia,cm,aN (fun h2=>?_) fun h2=>?_⟩) fun h1=>⟨?_,cm,aN (fun h2=>?_) fun h2=>?_⟩
 ·rw[if_pos h0] at k;exact k
 ·rw[if_neg h0,if_pos h1,if_pos h2] at k;exact k
 ·rw[if_neg h0,if_pos h1,if_neg h2] at k;exact k
 ·refine⟨by lia,by lia,?_⟩
  have:2 ^ QM.bl (i.natAbs:Int)≤2 ^ 24:=Nat.pow_le_pow_right (by decide) (by lia)
  lia
 ·rw[if_neg h0,if_neg h1,if_pos h2] at k;exact k
 ·rw[if_neg h0,if_neg h1,if_neg h2] at k;exact k
def Ak(K:PySem.W.Frag)(C:List Int→Prop)(g:List Int→List Int):Sp:=fun vs H Q _=>∃ a l,vs=[.ref a]∧aL K H a (iv l)∧C l∧jU H (g l) Q
theorem sz{n:Nat}(h:n≤1000000):n<sizeLine:=Nat.lt_of_le_of_lt h (by decide)
def LN(l:List Int):Prop:=∀ i:Nat,0≤l.getD i 0∧l.getD i 0<256
theorem Jc(h:0≤v∧v<2 ^ 40)(h2:0≤n∧n≤1000):Jk v n:=⟨h2.1,by lia,by lia⟩
theorem sG(T:Tx K mg):bg P w K mg base 1 "words_of" ["row"] (Ak K (fun l=>l.length % 4=0∧l.length≤1000000∧LN l) bI):=by
 refine bg.of ["q"] T.CW fun sc H Q E hr h=>?_
 obtain⟨a,l,rfl,hl,⟨h4,hlen,hb⟩,k⟩:=h;refine⟨_,(bu (dM (own:=[("q",1)]) rfl sc.nd (fT rfl T.dW (aa aj (aa (tW K T.eB (aa (pv 0) ae)) (aa aj ae)))) (aY (N:=["row","q"]) (sc:=aC oM) (by decide +kernel)) (fun _ _ _ _ _=>(gN 1 sc.nd)) (fun _ _ _ _ _=>(bE)) (fun _ _ _ _ _=>(aq bn (aq bn (aq bn (xL K (pv 0) (pv 1)) (aq kJ (xL K (pv 0) (aq bn (pv 1) aj)) aj)) (aq kJ (xL K (pv 0) (aq bn (pv 1) aj)) aj)) (aq kJ (xL K (pv 0) (aq bn (pv 1) aj)) aj))))),?_⟩
 walk_at "rd";refine cQ hl ?_
 walk_at "rd";have hlv:(iv l).length=l.length:=length_map _;refine⟨l.length / 4,Co (by decide) (by decide) (by lia) (by lia),fun D hD=>?_⟩
 refine vA (fun q=>.int (l.getD (4*q) 0+l.getD (4*q+1) 0*2 ^ 8+l.getD (4*q+2) 0*2 ^ 16+l.getD (4*q+3) 0*2 ^ 24)) hD (sz (by lia)) (fun i H1 Kt hi hs hk=>?_) fun H' h1 h2=>k D H' h2 hD ?_
 ·walk_at "rd";refine bj (j:=4*i) (hs.seq hl) (by lia) (by lia) ?_
  refine bj (j:=4*i+1) (hs.seq hl) (by lia) (by lia) ?_
  walk_at "rd";refine⟨Jc (by have:=hb (4*i+1);lia) (by decide),bj (j:=4*i+2) (hs.seq hl) (by lia) (by lia) ?_⟩
  walk_at "rd";refine⟨Jc (by have:=hb (4*i+2);lia) (by decide),bj (j:=4*i+3) (hs.seq hl) (by lia) (by lia) ?_⟩
  walk_at "rd"
  exact⟨Jc (by have:=hb (4*i+3);lia) (by decide),hk _ ai.refl⟩
 ·rw[h1];unfold bI;rw[iv,map_map];rfl
theorem qb(T:Tx K mg):bg P w K mg base 1 "halves_of" ["row"] (Ak K (fun l=>l.length % 2=0∧l.length≤1000000∧LN l) bX):=by
 refine bg.of ["q"] T.Bn fun sc H Q E hr h=>?_
 obtain⟨a,l,rfl,hl,⟨h4,hlen,hb⟩,k⟩:=h;refine⟨_,(bu (dM (own:=[("q",1)]) rfl sc.nd (fT rfl T.dW (aa aj (aa (tW K T.eB (aa (pv 0) ae)) (aa aj ae)))) (aY (N:=["row","q"]) (sc:=aC mf) (by decide +kernel)) (fun _ _ _ _ _=>(gN 1 sc.nd)) (fun _ _ _ _ _=>(bE)) (fun _ _ _ _ _=>(aq bn (xL K (pv 0) (pv 1)) (aq kJ (xL K (pv 0) (aq bn (pv 1) aj)) aj))))),?_⟩
 walk_at "rd";refine cQ hl ?_
 walk_at "rd";have hlv:(iv l).length=l.length:=length_map _;refine⟨l.length / 2,Co (by decide) (by decide) (by lia) (by lia),fun D hD=>?_⟩
 refine vA (fun q=>.int (l.getD (2*q) 0+l.getD (2*q+1) 0*2 ^ 8)) hD (sz (by lia)) (fun i H1 Kt hi hs hk=>?_) fun H' h1 h2=>k D H' h2 hD ?_
 ·walk_at "rd";refine bj (j:=2*i) (hs.seq hl) (by lia) (by lia) ?_
  refine bj (j:=2*i+1) (hs.seq hl) (by lia) (by lia) ?_
  walk_at "rd"
  exact⟨Jc (by have:=hb (2*i+1);lia) (by decide),hk _ ai.refl⟩
 ·rw[h1];unfold bX;rw[iv,map_map];rfl
theorem kE(l:List Int)(f:Int→V):(List.range l.length).map (fun i=>f (l.getD i 0))=l.map f:=by
 apply ext_getElem?;intro i
 by_cases h:i<l.length
 ·rw[getElem?_map,getElem?_range h,getElem?_map,getElem?_eq_getElem h];show some (f (l.getD i 0))=some (f l[i]);rw[getD_eq_getElem?_getD,getElem?_eq_getElem h];rfl
 ·rw[getElem?_eq_none (by simpa using Nat.le_of_not_lt h),getElem?_eq_none (by simpa using Nat.le_of_not_lt h)]
theorem gW{l:List Int}{i:Nat}{n:Int}(e:l[i]?=some n):l.getD i 0=n:=by rw[getD_eq_getElem?_getD,e];rfl
theorem p6(T:Tx K mg):bg P w K mg base 1 "with_sign" ["row"] (Ak K (fun l=>l.length≤1000000) bP):=by
 refine bg.of ["value"] T.Bd fun sc H Q E hr h=>?_
 obtain⟨a,l,rfl,hl,hlen,k⟩:=h;refine⟨_,(bu (dM (own:=[("value",1)]) rfl sc.nd (bT (K:=K) (pv 0)) (aY (N:=["row","value"]) (sc:=aC lY) (by decide +kernel)) (fun _ _ _ _ _=>(gN 1 sc.nd)) (fun _ _ _ _ _=>(bE)) (fun _ _ _ _ _=>(dw (gq kb (pv 1) aj) (pv 1) (aq ig (pv 1) aj))))),?_⟩
 walk_at "rd";refine⟨⟨_,hl⟩,fun D hD=>?_⟩
 have hlv:(iv l).length=l.length:=length_map _;refine iZ (fun i=>.int (if l.getD i 0<128 then l.getD i 0 else l.getD i 0 - 256)) hD hl (sz (by lia)) (fun i x H1 Kt hi hs hk=>?_) fun H' h1 h2=>k D H' h2 hD ?_
 ·obtain⟨n,hn,rfl⟩:=fq hi;rw[gW hn] at hk;walk_at "rd";refine aN (fun h3=>?_) fun h3=>?_
  ·rw[if_pos h3] at hk;exact hk _ ai.refl
  ·rw[if_neg h3] at hk;exact hk _ ai.refl
 ·rw[h1,hlv,kE l fun v=>.int (if v<128 then v else v - 256)]
  unfold bP;rw[iv,map_map];rfl
theorem eZ{C:List Int→Prop}{g:List Int→List Int}{H:Hp}{Q:VK}{E:XK}{a:Addr}{l:List Int}(hs:aL K H a (iv l))(hc:C l)(q:∀ p H',ai H H'→H p=none→H' p=some (.lst (iv (g l)))→Q (.ref p) H'):Ak K C g [.ref a] H Q E:=⟨a,l,rfl,hs,hc,q⟩
theorem A3{l:List Int}{i:Nat}(h:i<l.length):l.getD i 0∈l:=by
 rw[getD_eq_getElem?_getD,getElem?_eq_getElem h];exact getElem_mem h
def LK(l:List Int):Prop:=l.length % 2=0∧l.length≤1000000∧LN l
theorem o7(l:List Int):(bX l).length=l.length / 2:=by unfold bX;rw[length_map,length_range]
theorem mR(T:Tx K mg):bg P w K mg base 3 "half_values" ["row"] (Ak K (fun l=>LK l∧cz l=true) aw):=by
 refine bg.of ["number"] T.xk fun sc H Q E hr h=>?_
 obtain⟨a,l,rfl,hl,⟨hsh,hr1⟩,k⟩:=h;refine⟨_,(bu (dM (own:=[("number",1)]) rfl sc.nd (bT (K:=K) (aA (qb T) hr.m (aa (pv 0) ae))) (aY (N:=["row","number"]) (sc:=aC jD) (by decide +kernel)) (fun _ _ _ _ _=>(gN 1 sc.nd)) (fun _ _ _ _ _=>(bE)) (fun _ _ _ _ _=>(aA (wP T) hr.m (aa (pv 1) ae))))),?_⟩
 walk_at "rd";refine eZ hl hsh fun p H0 s0 np hp=>?_
 walk_at "rd";refine⟨⟨_,aL.of hp⟩,fun D hD=>?_⟩
 have hlv:(iv (bX l)).length=(bX l).length:=length_map _;refine iZ (fun i=>.int (QM.hv ((bX l).getD i 0))) hD (aL.of hp) (sz (by rw[hlv,o7];have:=hsh.2.1;lia)) (fun i x H1 Kt hi hs hk=>?_) fun H' h1 h2=>k D H' (s0.trans h2) (s0.free hD) ?_
 ·obtain⟨n,hn,rfl⟩:=fq hi;rw[gW hn] at hk;walk_at "rd"
  exact⟨(all_eq_true.1 hr1) n (mem_of_getElem? hn),hk _ ai.refl⟩
 ·rw[h1,hlv,kE (bX l) fun v=>.int (QM.hv v)]
  unfold aw;rw[iv,map_map];rfl
def HI(K:PySem.W.Frag)(C:List Int→Prop)(g:List Int→V):Sp:=fun vs H Q _=>∃ a l,vs=[.ref a]∧aL K H a (iv l)∧C l∧nv H (g l) Q
theorem t9(hs:aL K H a (iv l))(hc:C l)(q:∀ H',ai H H'→Q (g l) H'):HI K C g [.ref a] H Q E:=⟨a,l,rfl,hs,hc,q⟩
theorem uX{H:Hp}{Q:VK}{a:Addr}{bs:List Bool}(hs:aL K H a (bs.map V.bl))(q:Q (.bl (bs.all id)) H):KL K [.ref a] H Q:=⟨a,bs,rfl,hs,q⟩
theorem i8{α:Type}(l:List α)(f:α→Bool):(l.map f).all id=l.all f:=by rw[all_map];rfl
theorem tq(T:Tx K mg):bg P w K mg base 3 "row_in_range" ["row"] (HI K LK fun l=>.bl (cz l)):=by
 refine bg.of ["number"] T.vW fun sc H Q E hr h=>?_
 obtain⟨a,l,rfl,hl,hsh,k⟩:=h;refine⟨_,(bu (dZ (qC (K:=K)) (by rfl) T.BK boot_all (aa (dM (own:=[("number",1)]) rfl sc.nd (bT (K:=K) (aA (qb T) hr.m (aa (pv 0) ae))) (aY (N:=["row","number"]) (sc:=aC iG) (by decide +kernel)) (fun _ _ _ _ _=>(gN 1 sc.nd)) (fun _ _ _ _ _=>(bE)) (fun _ _ _ _ _=>(aA (qW T) hr.m (aa (pv 1) ae)))) ae))),?_⟩
 walk_at "rd";refine eZ hl hsh fun p H0 s0 np hp=>?_
 walk_at "rd";refine⟨⟨_,aL.of hp⟩,fun D hD=>?_⟩
 have hlv:(iv (bX l)).length=(bX l).length:=length_map _;refine iZ (fun i=>.bl (fv ((bX l).getD i 0))) hD (aL.of hp) (sz (by rw[hlv,o7];have:=hsh.2.1;lia)) (fun i x H1 Kt hi hs hk=>?_) fun H' h1 h2=>?_
 ·obtain⟨n,hn,rfl⟩:=fq hi;rw[gW hn] at hk;walk_at "rd";exact hk _ ai.refl
 ·rw[hlv,kE (bX l) fun v=>.bl (fv v)] at h1
  refine uX (bs:=(bX l).map fv) (aL.of (by rw[h1,map_map];rfl)) ?_
  rw[i8];exact k H' (s0.trans h2)
theorem p5(T:Tx K mg):bg P w K mg base 3 "words_in_range" ["words"] (HI K (fun l=>l.length≤1000000) fun l=>.bl (l.all bC)):=by
 refine bg.of ["word"] T.rC fun sc H Q E hr h=>?_
 obtain⟨a,l,rfl,hl,hlen,k⟩:=h;refine⟨_,(bu (dZ (qC (K:=K)) (by rfl) T.BK boot_all (aa (dM (own:=[("word",1)]) rfl sc.nd (bT (K:=K) (pv 0)) (aY (N:=["words","word"]) (sc:=aC gC) (by decide +kernel)) (fun _ _ _ _ _=>(gN 1 sc.nd)) (fun _ _ _ _ _=>(bE)) (fun _ _ _ _ _=>(aA (oQ T) hr.m (aa (pv 1) ae)))) ae))),?_⟩
 walk_at "rd";refine⟨⟨_,hl⟩,fun D hD=>?_⟩
 have hlv:(iv l).length=l.length:=length_map _;refine iZ (fun i=>.bl (bC (l.getD i 0))) hD hl (sz (by lia)) (fun i x H1 Kt hi hs hk=>?_) fun H' h1 h2=>?_
 ·obtain⟨n,hn,rfl⟩:=fq hi;rw[gW hn] at hk;walk_at "rd";exact hk _ ai.refl
 ·rw[hlv,kE l fun v=>.bl (bC v)] at h1
  refine uX (bs:=l.map bC) (aL.of (by rw[h1,map_map];rfl)) ?_
  rw[i8];exact k H' h2
def FW(K:PySem.W.Frag)(C:List Int→List Int→Prop)(g:List Int→List Int→V):Sp:=fun vs H Q _=>∃ a b l r,vs=[.ref a,.ref b]∧aL K H a (iv l)∧aL K H b (iv r)∧C l r∧nv H (g l r) Q
theorem uU(hs:aL K H a (iv l))(hs2:aL K H b (iv r))(hc:C l r)(q:∀ H',ai H H'→Q (g l r) H'):FW K C g [.ref a,.ref b] H Q E:=⟨a,b,l,r,rfl,hs,hs2,hc,q⟩
theorem Et(l r:List Int):((List.range (min l.length r.length)).map fun i=>l.getD i 0*r.getD i 0)=(l.zip r).map fun p=>p.1*p.2:=by
 apply ext_getElem?;intro i
 by_cases h:i<min l.length r.length
 ·rw[getElem?_map,getElem?_range h,getElem?_map];have e:(l.zip r)[i]?=some (l.getD i 0,r.getD i 0):=by
   rw[getElem?_zip_eq_some,getD_eq_getElem?_getD,getD_eq_getElem?_getD,getElem?_eq_getElem (by lia),getElem?_eq_getElem (by lia)]
   exact⟨rfl,rfl⟩
  rw[e];rfl
 ·rw[getElem?_eq_none (by simpa using Nat.le_of_not_lt h),getElem?_eq_none (by rw[length_map,length_zip];lia)]
def Ji(l:List Int):Prop:=∀ x∈l,x.natAbs<2 ^ 64
theorem qU(T:Tx K mg):bg P w K mg base 1 "inner_product" ["left","right"] (FW K (fun l r=>l.length≤1000000∧Ji l∧Ji r) fun l r=>.int (dD l r)):=by
 refine bg.of ["a","b"] T.tO fun sc H Q E hr h=>?_
 obtain⟨a,b,l,r,rfl,hl,hr2,⟨hlen,m1,m2⟩,k⟩:=h;refine⟨_,(bu (dZ (Ja (K:=K)) (by rfl) T.Nk boot_sum (aa (dM (own:=[("a",2),("b",3)]) rfl sc.nd (iu (K:=K) T.qG (aa (pv 0) (aa (pv 1) ae))) (aY (N:=["left","right","a","b"]) (sc:=aC ib) (by decide +kernel)) (fun _ _ _ _ _=>(gc (K:=K) (n:=2) (bO (gN 2 sc.nd) (bO (gN 3 sc.nd) f9)))) (fun _ _ _ _ _=>(bE)) (fun _ _ _ _ _=>(aq bq (pv 2) (pv 3)))) ae))),?_⟩
 walk_at "rd";refine⟨_,hl,_,hr2,fun D hD=>?_⟩
 refine qj (n:=min l.length r.length) (fun i=>.int (l.getD i 0*r.getD i 0)) hD hl hr2 (by rw[length_map,length_map]) (sz (by lia)) (fun i x y H1 Kt hi hj hs hk=>?_) fun H' h1 h2=>?_
 ·obtain⟨n,hn,rfl⟩:=fq hi;obtain⟨m,hm,rfl⟩:=fq hj;rw[gW hn,gW hm] at hk;walk_at "rd"
  have:=m1 n (mem_of_getElem? hn)
  have:=m2 m (mem_of_getElem? hm)
  exact⟨⟨by lia,by lia⟩,hk _ ai.refl⟩
 ·refine⟨D,(l.zip r).map fun (p:Int×Int)=>p.1*p.2,rfl,aL.of ?_,k H' h2⟩
  rw[h1,←Et,map_map];rfl
theorem eU{p:Addr}{xs:List V}{H:Hp}(h:H p=some (.lst xs)):J2 K "list" (.ref p) H:=.inl ⟨rfl,xs,aL.of h⟩
theorem uW{l b:Addr}{xs zs:List V}{H:Hp}{Q:VK}(h1:H l=some (.lst xs))(h2:H b=some (.lst zs))(hz:xs.length+zs.length≤sizeLine)(q:Q .non (upd H l (.lst (xs++zs)))):ua (.ref l) [.ref b] H Q:=⟨l,b,xs,zs,rfl,rfl,h1,h2,hz,q⟩
theorem mC(h1:H l=some (.lst xs))(hz:xs.length<sizeLine)(q:Q .non (upd H l (.lst (xs++[y])))):pY (.ref l) [y] H Q:=⟨l,xs,y,rfl,rfl,h1,hz,q⟩
theorem iC{α:Type}{l:List α}{i:Nat}{x:α}(h:l[i]?=some x):l.take (i+1)=l.take i++[x]:=by
 obtain⟨hi,e⟩:=List.getElem?_eq_some_iff.mp h;rw[take_add_one,h];rfl
theorem EJ{l:List (Int×Int)}{p:Int×Int}:bD (l++[p])=bA (bD l+p.1*p.2):=by
 unfold bD;rw[foldl_append,foldl_cons,foldl_nil]
theorem Ci{l:List (Int×Int)}(h:km l)(i:Nat):km (l.take i):=fun p hp=>h p (mem_of_mem_take hp)
theorem mO(T:Tx K mg):bg P w K mg base 2 "rounded_sum" ["left","right"] (FW K (fun l r=>(l.zip r).length≤16∧km (l.zip r)) fun l r=>.int (bD (l.zip r))):=by
 refine bg.of ["total","a","b"] T.xf fun sc H Q E hr h=>?_
 obtain⟨a,b,l,r,rfl,hl,hr2,⟨h16,hsm⟩,k⟩:=h;refine⟨_,(ab (sS 2 sc.nd aj) (ab (dS PassesOwn.never rfl (iu (K:=K) T.qG (aa (pv 0) (aa (pv 1) ae))) (gc (K:=K) (n:=2) (bO (gN 3 sc.nd) (bO (gN 4 sc.nd) f9))) (aB (sS 2 sc.nd (aA (oR T) hr.m (aa (aq bn (pv 2) (aq bq (pv 3) (pv 4))) ae))))) (bu (pv 2)))),?_⟩;walk_at "rd";refine⟨_,hl,_,hr2,?_⟩;refine IP (n:=(l.zip r).length) (fun i σ H'=>∃ v3 v4:Option V,σ=[some (.ref a),some (.ref b),some (.int (bD ((l.zip r).take i))),v3,v4]∧ai H H') (by rw[length_zip,length_map,length_map]) ⟨none,none,rfl,ai.refl⟩ (fun i σ H' ⟨_,_,_,s1⟩=>⟨s1.seq hl,s1.seq hr2⟩) ?_ ?_
 ·rintro i x y σ H0 H1 hi hj ⟨v3,v4,rfl,s1⟩ s2
  obtain⟨n,hn,rfl⟩:=fq hi;obtain⟨m,hm,rfl⟩:=fq hj;have hz:(l.zip r)[i]?=some (n,m):=by rw[getElem?_zip_eq_some];exact⟨hn,hm⟩
  obtain⟨b1,b2⟩:=hsm (n,m) (mem_of_getElem? hz);have b3:(bD ((l.zip r).take i)).natAbs≤2 ^ 208:=j6 (Ci hsm i) (by rw[length_take];lia)
  have b4:(n*m).natAbs≤2 ^ 88*2 ^ 88:=gU b1 b2;have b5:=dH (bD ((l.zip r).take i)) (n*m);walk_at "rd";refine⟨⟨Nat.lt_of_le_of_lt b1 (by decide),Nat.lt_of_le_of_lt b2 (by decide)⟩,Nat.lt_of_le_of_lt b5 (Nat.lt_of_le_of_lt (Nat.add_le_add b3 b4) (by decide)),?_,s1.trans s2⟩
  rw[iC hz,EJ]
 ·rintro σ H' ⟨v3,v4,rfl,s1⟩
  walk_at "rd";rw[take_length];exact k H' s1
theorem ET(T:Tx K mg):bg P w K mg base 1 "row_of" ["words"] (Ak K (fun ws=>ws.length≤250000∧∀ x∈ws,0≤x) mG):=by
 refine bg.of ["row","word"] T.G1 fun sc H Q E hr h=>?_
 obtain⟨a,l,rfl,hl,⟨hlen,hpos⟩,k⟩:=h;refine⟨_,(ab (sS 1 sc.nd (aJ ae)) (ab (dS PassesOwn.never rfl (bT (K:=K) (pv 0)) (gN 2 sc.nd) (aB (bQ (Lo (pv 1) (aa (aJ (aa (aq CA (pv 2) aj) (aa (aq CA (aq vd (pv 2) aj) aj) (aa (aq CA (aq vd (pv 2) aj) aj) (aa (aq vd (pv 2) aj) ae))))) ae))))) (bu (pv 1)))),?_⟩;walk_at "rd";refine⟨by decide,fun D hD=>?_⟩
 have s0:ai H (upd H D (.lst [])):=ai.new hD;refine⟨⟨_,s0.seq hl⟩,?_⟩;have hrl:∀ l:List Int,(mG l).length=4*l.length:=by
  intro l;induction l with
  | nil=>rfl
  | cons x l ih=>unfold mG at ih ⊢;rw[flatMap_cons,length_append,ih,length_cons,length_cons,length_cons,length_cons,length_cons,length_nil];lia
 refine Lk (xs:=iv l) (fun i σ H'=>∃ v:Option V,σ=[some (.ref a),some (.ref D),v]∧H' D=some (.lst (iv (mG (l.take i))))∧ai H H') ⟨none,rfl,af,s0⟩ (fun i σ H' ⟨_,_,_,s1⟩=>s1.seq hl) ?_ ?_
 ·rintro i x σ H1 hi ⟨v,rfl,h1,s1⟩
  obtain⟨n,hn,rfl⟩:=fq hi;have hn0:=hpos n (mem_of_getElem? hn);walk_at "rd";refine⟨eU h1,by decide,by decide,by decide,by decide,fun p hp=>?_⟩
  refine uW (by rw[ao (au h1 hp)];exact h1) af ?_ ⟨?_,fun b o e=>?_⟩
  ·rw[length_map,hrl,length_take];show _+4≤16777216;lia
  ·rw[af,iC hn];have e:mG (l.take i++[n])=mG (l.take i)++[n % 256,n / 2 ^ 8 % 256,n / 2 ^ 16 % 256,n / 2 ^ 24]:=by
    unfold mG;rw[flatMap_append];rfl
   have m8:∀ x:Int,0≤x→Builtin.bitAnd x 255=x % 256:=fun x hx=>Bits.BH 8 hx
   have d8:(0:Int)≤n / 2 ^ 8:=Int.ediv_nonneg hn0 (by decide)
   have d16:(0:Int)≤n / 2 ^ 16:=Int.ediv_nonneg hn0 (by decide)
   rw[e];unfold iv;rw[map_append];show some (HO.lst (_++[V.int (Builtin.bitAnd n 255),V.int (Builtin.bitAnd (n / 2 ^ 8) 255),V.int (Builtin.bitAnd (n / 2 ^ 16) 255),V.int (n / 2 ^ 24)]))=_;rw[m8 _ hn0,m8 _ d8,m8 _ d16];rfl
  ·have nD:b≠D:=au e hD;rw[ao nD,ao (au (s1 _ _ e) hp)];exact s1 _ _ e
 ·rintro σ H' ⟨v,rfl,h1,s1⟩
  walk_at "rd";rw[length_map,take_length] at h1;exact k D H' s1 hD h1
theorem ai.seqT(e:ai H H')(h:lP K H a xs):lP K H' a xs:=by
 rcases h with (h | ⟨o,h⟩) | h
 ·exact .inl (.inl (e _ _ h))
 ·exact .inl (.inr ⟨o,e _ _ h⟩)
 ·exact .inr h
theorem yP{H:Hp}{Q:VK}{a:Addr}{xs:List V}{v:V}{z:Int}{j:Nat}(hs:lP K H a xs)(e:z=(j:Int))(hj:xs[j]?=some v)(q:Q v H):EN K (.ref a) (.int z) H Q :=
 ⟨a,_,z,_,rfl,rfl,hs,Eo e hj,q⟩
def Rows(K:PySem.W.Frag)(H:Hp)(a:Addr)(ll:List (List Int)):Prop:=∃ as:List Addr,aL K H a (as.map V.ref)∧LL H as ll
theorem Rows.same(h:Rows K H a ll)(s:ai H H'):Rows K H' a ll:=let ⟨as,e,h⟩:=h;⟨as,s.seq e,h.same s⟩
def Mz(K:PySem.W.Frag):Sp:=fun vs H Q _=>∃ a zs j,vs=[.ref a,.int ((j:Nat):Int)]∧Rows K H a zs∧zs.length≤1000∧j≤1000∧jU H (bw zs j) Q
theorem Jd(zs:List (List Int))(j:Nat):(bw zs j).length≤4*zs.length:=by
 induction zs with
 | nil=>exact Nat.le_refl _
 | cons z zs ih =>
  unfold bw at ih ⊢;rw[flatMap_cons,length_append,length_cons,length_take];lia
theorem vj(T:Tx K mg):bg P w K mg base 1 "byte_column" ["z_rows","j"] (Mz K):=by
 refine bg.of ["column","row"] T.xm fun sc H Q E hr h=>?_
 obtain⟨a,zs,j,rfl,⟨as,ha,hz⟩,hlen,hj,k⟩:=h;refine⟨_,(ab (sS 2 sc.nd (aJ ae)) (ab (dS PassesOwn.never rfl (bT (K:=K) (pv 0)) (gN 3 sc.nd) (aB (bQ (Lo (pv 2) (aa (g9 (gX (K:=K)) (pv 3) (dE (aq bq aj (pv 1))) (dE (aq bn (aq bq aj (pv 1)) aj))) ae))))) (bu (pv 2)))),?_⟩;walk_at "rd";refine⟨by decide,fun D hD=>?_⟩
 have s0:ai H (upd H D (.lst [])):=ai.new hD;refine⟨⟨_,s0.seq ha⟩,?_⟩;refine Lk (xs:=as.map V.ref) (fun i σ H'=>∃ v:Option V,σ=[some (.ref a),some (.int (j:Int)),some (.ref D),v]∧H' D=some (.lst (iv (bw (zs.take i) j)))∧ai H H') ⟨none,rfl,af,s0⟩ (fun i σ H' ⟨_,_,_,s1⟩=>s1.seq ha) ?_ ?_
 ·rintro i x σ H1 hi ⟨v,rfl,h1,s1⟩
  obtain⟨b,hb,rfl⟩:=bR hi;obtain⟨z,hz1,hz2⟩:=hz.at hb;walk_at "rd";have cm:fz 4 (j:Int):=⟨by decide,Nat.lt_of_le_of_lt (show (j:Int).natAbs≤1000 by lia) (by decide)⟩
  refine⟨eU h1,cm,cm,sy (aL.of (s1 _ _ hz2)) fun p hp=>?_⟩
  have hcl:=Jd (zs.take i) j;have htk:(zs.take i).length≤1000:=by rw[length_take];lia
  have ec:wu (iv z) (some (4*(j:Int))) (some (4*(j:Int)+4))=iv ((z.drop (4*j)).take 4):=by
   have e1:(4*(j:Int))=((4*j:Nat):Int):=by lia
   have e2:(4*(j:Int)+4)=((4*j+4:Nat):Int):=by lia
   rw[e2,e1,wt,show 4*j+4 - 4*j=4 by lia]
   unfold iv;rw[←map_drop,←map_take]
  rw[ec];refine uW (by rw[ao (au h1 hp)];exact h1) af ?_ ⟨?_,fun c o e=>?_⟩
  ·rw[length_map,length_map,length_take];show _≤16777216;lia
  ·rw[af,iC hz1];unfold iv;rw[←map_append];have e:bw (zs.take i++[z]) j=bw (zs.take i) j++(z.drop (4*j)).take 4:=by
    unfold bw;rw[flatMap_append,flatMap_cons,flatMap_nil,append_nil]
   rw[e]
  ·rw[ao (au e hD),ao (au (s1 _ _ e) hp)];exact s1 _ _ e
 ·rintro σ H' ⟨v,rfl,h1,s1⟩
  walk_at "rd";rw[length_map,hz.1,take_length] at h1;exact k D H' s1 hD h1
def Mb(K:PySem.W.Frag):Sp:=fun vs H Q _=>∃ a l first,vs=[.ref a,.int ((first:Nat):Int)]∧aL K H a (iv l)∧first<2∧l.length≤1000000∧jU H (cX l first) Q
theorem lj(T:Tx K mg):bg P w K mg base 1 "every_second" ["values","first"] (Mb K):=by
 refine bg.of ["q"] T.vZ fun sc H Q E hr h=>?_
 obtain⟨a,l,first,rfl,hl,h2,hlen,k⟩:=h
 refine⟨_,(bu (dM (own:=[("q",2)]) rfl sc.nd (fT rfl T.dW (aa (pv 1) (aa (tW K T.eB (aa (pv 0) ae)) (aa aj ae)))) (aY (N:=["values","first","q"]) (sc:=aC iH) (by decide +kernel)) (fun _ _ _ _ _=>(gN 2 sc.nd)) (fun _ _ _ _ _=>(bE)) (fun _ _ _ _ _=>(xL K (pv 0) (pv 2))))),?_⟩
 walk_at "rd";refine cQ hl ?_
 walk_at "rd";rw[show (iv l).length=l.length from length_map _]
 refine⟨(l.length - first+1) / 2,Kw h2 (by lia) rfl,fun D hD=>?_⟩
 refine vA (fun q=>.int (l.getD (first+2*q) 0)) hD (sz (by lia)) (fun i H1 Kt hi hs hk=>?_) fun H' h1 h2=>k D H' h2 hD ?_
 ·walk_at "rd";exact bj (j:=first+2*i) (hs.seq hl) (by lia) (by lia) (hk _ ai.refl)
 ·rw[h1];unfold cX;rw[iv,map_map];rfl
def LA(K:PySem.W.Frag)(H:Hp)(t:Addr)(p:List Int×List Int):Prop:=∃ a b:Addr,lP K H t [.ref a,.ref b]∧aL K H a (iv p.1)∧aL K H b (iv p.2)
theorem LA.same(h:LA K H t p)(s:ai H H'):LA K H' t p:=let ⟨a,b,h1,h2,h3⟩:=h;⟨a,b,ai.seqT s h1,s.seq h2,s.seq h3⟩
def Pr(y z:List Int×List Int):Prop:=(y.1.zip z.1).length≤16∧(y.2.zip z.2).length≤16∧km (y.1.zip z.1)∧km (y.2.zip z.2)
def MF(K:PySem.W.Frag):Sp:=fun vs H Q _=>∃ x ty tz y z,vs=[.int x,.ref ty,.ref tz]∧LA K H ty y∧LA K H tz z∧bC x=true∧Pr y z∧nv H (.int (gJ x y z)) Q
theorem zd(T:Tx K mg):bg P w K mg base 3 "add_pairs" ["word","y_parts","z_parts"] (MF K):=by
 refine bg.of ["lower","upper","inner"] T.Bu fun sc H Q E hr h=>?_
 obtain⟨x,ty,tz,y,z,rfl,hy,hz,hx,⟨l1,l2,m1,m2⟩,k⟩:=h;refine⟨_,(ab (sS 3 sc.nd (aA (mO T) hr.m (aa (xT K (pv 1) aj) (aa (xT K (pv 2) aj) ae)))) (ab (sS 4 sc.nd (aA (mO T) hr.m (aa (xT K (pv 1) aj) (aa (xT K (pv 2) aj) ae)))) (ab (sS 5 sc.nd (aq bq (aA (oR T) hr.m (aa (aq bn (pv 3) (pv 4)) ae)) (am T.oa))) (bu (aA (yV T) hr.m (aa (aA (oR T) hr.m (aa (aq bn (aA (tm T) hr.m (aa (pv 0) ae)) (pv 5)) ae)) ae)))))),?_⟩;walk_at "rd";obtain⟨y0,y1,hT,hy0,hy1⟩:=hy;obtain⟨z0,z1,hU,hz0,hz1⟩:=hz;refine yP (j:=0) hT rfl rfl (yP (j:=0) hU rfl rfl (uU hy0 hz0 ⟨l1,m1⟩ fun H1 s1=>?_))
 refine yP (j:=1) (ai.seqT s1 hT) rfl rfl (yP (j:=1) (ai.seqT s1 hU) rfl rfl (uU (s1.seq hy1) (s1.seq hz1) ⟨l2,m2⟩ fun H2 s2=>?_))
 walk_at "rd";have b1:=j6 m1 l1;have b2:=j6 m2 l2;have b3:=dH (bD (y.1.zip z.1)) (bD (y.2.zip z.2));have b4:=ir (bD (y.1.zip z.1)+bD (y.2.zip z.2));have b5:(bA (bD (y.1.zip z.1)+bD (y.2.zip z.2))).natAbs≤2 ^ 210:=by lia
 have b6:(bA (bD (y.1.zip z.1)+bD (y.2.zip z.2))*536870912).natAbs≤2 ^ 210*536870912:=gU b5 (by decide)
 have b7:=Jw hx;have b8:=dH (QM.sv x) (bA (bD (y.1.zip z.1)+bD (y.2.zip z.2))*536870912);have b9:=uZ hx m1 m2 l1 l2;refine⟨by lia,⟨by lia,by decide⟩,hx,by lia,b9,k H2 (s1.trans s2)⟩
theorem lT(Pv:L2.St→Hp→Prop)(h1:∀ R:L2.St→Hp→Prop,(∀ σ' H',Pv σ' H'→R σ' H')→t { D with nx:=R } σ H)(h2:∀ σ' H',Pv σ' H'→u D σ' H'):Hu t u D σ H:=h1 (u D) h2
theorem D4(x:Int):∀ l:List Int,NT (.int x) (iv l)=decide (x∈l)
 | []=>rfl
 | y::l=>by
  show ((y==x)||NT (.int x) (iv l))=_;rw[D4 x l]
  by_cases h:y=x
  ·subst h;simp
  ·have h':¬ x=y:=fun z=>h z.symm
   simp[h,h']
theorem JG(hs:lP K H p (iv l))(q:Q (.bl (decide (x∈l))) H):Og K false (.int x) (.ref p) H Q:=by
 refine⟨p,iv l,rfl,.inr hs,rfl,?_,?_⟩
 ·unfold iv;rw[all_map];exact all_eq_true.2 fun _ _=>rfl
 ·rw[if_neg (by decide),D4];exact q
def FD(ll:List (List Int)):Prop:=∀ l∈ll,l.length≤1000∧∀ x∈l,0≤x∧x<256
def NW(ll:List (List Int)):Prop:=∀ l∈ll,l.length≤1000∧∀ x∈l,-256≤x∧x<256
theorem FD.sg(h:FD ll):NW ll:=fun l hl=>⟨(h l hl).1,fun x hx=>by have:=(h l hl).2 x hx;lia⟩
theorem FD.sign(h:FD ll):NW (ll.map bP):=by
 intro l hl;obtain⟨m,hm,rfl⟩:=mem_map.1 hl;refine⟨by unfold bP;rw[length_map];exact (h m hm).1,fun x hx=>?_⟩
 obtain⟨y,hy,rfl⟩:=mem_map.1 hx
 have:=(h m hm).2 y hy
 split<;>lia
theorem Cs(ll:List (List Int))(f:List Int→List Int):(List.range ll.length).map (fun i=>f (ll.getD i []))=ll.map f:=by
 apply ext_getElem?;intro i
 by_cases h:i<ll.length
 ·rw[getElem?_map,getElem?_range h,getElem?_map,getElem?_eq_getElem h];show some (f (ll.getD i []))=some (f ll[i]);rw[getD_eq_getElem?_getD,getElem?_eq_getElem h];rfl
 ·rw[getElem?_eq_none (by simpa using Nat.le_of_not_lt h),getElem?_eq_none (by simpa using Nat.le_of_not_lt h)]
theorem D6{ll:List (List Int)}{i:Nat}{l:List Int}(e:ll[i]?=some l):ll.getD i []=l:=by rw[getD_eq_getElem?_getD,e];rfl
theorem qh{a:Addr}{k:Nat}{te:TE}{vs:List Nat}{σ:L2.St}{H:Hp}{D:Addr}{Qd:Hp→Prop}{ll:List (List Int)}(hD:H D=none)(hr:Rows K H a ll)(hlen:ll.length≤1000)(f:List Int→List Int)
  (turn:∀ b l H1 (Kt:VK),l∈ll→H1 b=some (.lst (iv l))→jU H1 (f l) Kt→bh ((bh σ vs).set k (some (.ref b))) vs=bh σ vs∧te ((bh σ vs).set k (some (.ref b))) H1 Kt)
  (dO:∀ H' as,(∀ b∈as,H b=none∧b≠D)→LL H' as (ll.map f)→H' D=some (.lst (as.map V.ref))→ai H H'→Qd H'):BZ (FJ K a) (db k) te vs σ H D Qd:=by
 obtain⟨as,ha,hz⟩:=hr;have hl:(as.map V.ref).length=ll.length:=by rw[length_map];exact hz.1
 refine yf (fun i=>f (ll.getD i [])) hD ha (sz (by lia)) (fun i x H1 Kt hi hs hk=>?_) fun H' as' h1 h2 h3 h4=>dO H' as' h1 ?_ h3 h4
 ·obtain⟨b,hb,rfl⟩:=bR hi;obtain⟨l,hl1,hl2⟩:=hz.at hb;rw[D6 hl1] at hk;exact turn b l H1 Kt (mem_of_getElem? hl1) (hs _ _ hl2) hk
 ·rw[hl,Cs] at h2;exact h2
structure BU(xw ys zs:List (List Int)):Prop where
 yb:FD ys
 zb:FD zs
 yl:ys.length≤1000
 zl:zs.length≤1000
 z0:0<zs.length
 xl:xw.length≤1000
 xr:∀ l∈xw,l.length≤1000
def FY(K:PySem.W.Frag)(C:Nat→List (List Int)→List (List Int)→List (List Int)→Prop)(g:Nat→List (List Int)→List (List Int)→List (List Int)→List (List Int)):Sp:=fun vs H Q _=>∃ kind:Nat,∃ ax ay az,∃ xw ys zs:List (List Int),vs=[.int (kind:Int),.ref ax,.ref ay,.ref az]∧Rows K H ax xw∧Rows K H ay ys∧Rows K H az zs∧C kind xw ys zs∧oI H (g kind xw ys zs) Q
theorem AK(T:Tx K mg):bg P w K mg base 2 "byte_dot" ["kind","x_words","y_rows","z_rows"] (FY K (fun _ xw ys zs=>BU xw ys zs) eF):=by
 refine bg.of ["columns","answer","words","y_row","row","j","word","column"] T.Db fun sc H Q E hr h=>?_
 obtain⟨kind,ax,ay,az,xw,ys,zs,rfl,hx,hy,hz,hin,k⟩:=h;refine⟨_,(ab (aU (du (Gv (K:=K)) (pv 0) (Gp (K:=K) T.lH) (by with_unfolding_all rfl)) (aB (mH (i:=2) (own:=[("row",8)]) rfl sc.nd rfl rfl (pp rfl rfl rfl rfl) (bT (K:=K) (pv 2)) (aY (N:=["kind","x_words","y_rows","z_rows","columns","answer","words","y_row","row","j","word","column"]) (sc:=aC gG) (by decide +kernel)) (fun _ _ _ _ _=>(gN 8 sc.nd)) (fun _ _ _ _ _=>(bE)) (fun _ _ _ _ _=>(aA (p6 T) hr.m (aa (pv 8) ae))))) aF) (ab (aU (du (Gv (K:=K)) (pv 0) (Gp (K:=K) T.lG) (by with_unfolding_all rfl)) (aB (sS 3 sc.nd (dM (own:=[("row",8)]) rfl sc.nd (bT (K:=K) (pv 3)) (aY (N:=["kind","x_words","y_rows","z_rows","columns","answer","words","y_row","row","j","word","column"]) (sc:=aC gG) (by decide +kernel)) (fun _ _ _ _ _=>(gN 8 sc.nd)) (fun _ _ _ _ _=>(bE)) (fun _ _ _ _ _=>(aA (p6 T) hr.m (aa (pv 8) ae)))))) aF) (ab (mH (i:=4) (own:=[("j",9)]) rfl sc.nd rfl rfl (pp rfl rfl rfl rfl) (gL rfl T.dW (aa (aq gd (tW K T.eB (aa (xL K (pv 3) aj) ae)) aj) ae)) (aY (N:=["kind","x_words","y_rows","z_rows","columns","answer","words","y_row","row","j","word","column"]) (sc:=aC gG) (by decide +kernel)) (fun _ _ _ _ _=>(gN 9 sc.nd)) (fun _ _ _ _ _=>(bE)) (fun _ _ _ _ _=>(aA (vj T) hr.m (aa (pv 3) (aa (pv 9) ae))))) (ab (sS 5 sc.nd (aJ ae)) (ab (dS PassesOwn.never rfl (iu (K:=K) T.qG (aa (pv 1) (aa (pv 2) ae))) (gc (K:=K) (n:=2) (bO (gN 6 sc.nd) (bO (gN 7 sc.nd) f9))) (aB (bQ (JW (pv 5) (aa (dM (own:=[("word",10),("column",11)]) rfl sc.nd (iu (K:=K) T.qG (aa (pv 6) (aa (pv 4) ae))) (aY (N:=["kind","x_words","y_rows","z_rows","columns","answer","words","y_row","row","j","word","column"]) (sc:=aC gG) (by decide +kernel)) (fun _ _ _ _ _=>(gc (K:=K) (n:=2) (bO (gN 10 sc.nd) (bO (gN 11 sc.nd) f9)))) (fun _ _ _ _ _=>(bE)) (fun _ _ _ _ _=>(aq eR (aq bn (pv 10) (aA (qU T) hr.m (aa (pv 7) (aa (pv 11) ae)))) (am T.vK)))) ae))))) (bu (pv 5))))))),?_⟩
 refine lT (fun σ' H'=>∃ ay',σ'=[some (.int (kind:Int)),some (.ref ax),some (.ref ay'),some (.ref az),none,none,none,none,none,none,none,none]∧Rows K H' ay' (if kind=0∨kind=1 then ys.map bP else ys)∧ai H H') (fun R hR=>?_) ?_
 ·walk_at "rd";intro p hp;refine JG (l:=[0,1]) hp ?_
  walk_at "rd";refine aN (fun h1=>?_) fun h1=>?_
  ·have hk:kind=0∨kind=1:=by simp at h1;lia
   obtain⟨as,ha,hz1⟩:=id hy;refine⟨⟨_,ha⟩,fun D hD=>qh hD hy hin.yl bP (fun b l H1 Kt hl hb hk2=>?_) fun H' as' n1 n2 n3 n4=>hR _ _ ⟨D,rfl,?_,n4⟩⟩
   ·walk_at "rd";exact eZ (aL.of hb) (by have:=(hin.yb l hl).1;lia) hk2
   ·rw[if_pos hk];exact⟨as',aL.of n3,n2⟩
  ·have hk:¬ (kind=0∨kind=1):=by simp at h1;lia
   refine hR _ _ ⟨ay,rfl,?_,ai.refl⟩;rw[if_neg hk];exact hy
 rintro σ1 H1 ⟨ay1,rfl,hy1,s1⟩
 have hys:NW (if kind=0∨kind=1 then ys.map bP else ys):=by
  split
  ·exact hin.yb.sign
  ·exact hin.yb.sg
 have hyl:(if kind=0∨kind=1 then ys.map bP else ys).length≤1000:=by
  split
  ·rw[length_map];exact hin.yl
  ·exact hin.yl
 refine lT (fun σ' H'=>∃ az',σ'=[some (.int (kind:Int)),some (.ref ax),some (.ref ay1),some (.ref az'),none,none,none,none,none,none,none,none]∧Rows K H' az' (if kind=0∨kind=2 then zs.map bP else zs)∧ai H1 H') (fun R hR=>?_) ?_
 ·walk_at "rd";intro p hp;refine JG (l:=[0,2]) hp ?_
  walk_at "rd";refine aN (fun h1=>?_) fun h1=>?_
  ·have hk:kind=0∨kind=2:=by simp at h1;lia
   obtain⟨as,ha,hz1⟩:=id (hz.same s1);refine⟨⟨_,ha⟩,fun D hD=>qh hD (hz.same s1) hin.zl bP (fun b l H1 Kt hl hb hk2=>?_) fun H' as' n1 n2 n3 n4=>hR _ _ ⟨D,rfl,?_,n4⟩⟩
   ·walk_at "rd";exact eZ (aL.of hb) (by have:=(hin.zb l hl).1;lia) hk2
   ·rw[if_pos hk];exact⟨as',aL.of n3,n2⟩
  ·have hk:¬ (kind=0∨kind=2):=by simp at h1;lia
   refine hR _ _ ⟨az,rfl,?_,ai.refl⟩;rw[if_neg hk];exact hz.same s1
 rintro σ2 H2 ⟨az2,rfl,hz2,s2⟩
 have hzs:NW (if kind=0∨kind=2 then zs.map bP else zs):=by
  split
  ·exact hin.zb.sign
  ·exact hin.zb.sg
 have hzl:(if kind=0∨kind=2 then zs.map bP else zs).length=zs.length:=by
  split
  ·rw[length_map]
  ·rfl
 have kk:oI H2 (eF kind xw ys zs) Q:=k.mono (s1.trans s2);have hx2:=hx.same (s1.trans s2);have hy2:=hy1.same s2;unfold eF at kk;dsimp only at kk;generalize (if kind=0∨kind=1 then ys.map bP else ys)=ys' at *
 generalize (if kind=0∨kind=2 then zs.map bP else zs)=zs' at *
 have hzl':zs'.length≤1000:=by rw[hzl];exact hin.zl
 obtain⟨z0,hz0⟩:∃ z0,zs'[0]?=some z0:=⟨_,getElem?_eq_getElem (show 0<zs'.length by rw[hzl];exact hin.z0)⟩
 have ehead:zs'.headD []=z0:=by
  cases zs' with
  | nil=>simp at hz0
  | cons a l=>simpa using hz0
 rw[ehead] at kk;have hz0l:z0.length≤1000:=(hzs z0 (mem_of_getElem? hz0)).1;refine lT (fun σ' H'=>∃ ac,σ'=[some (.int (kind:Int)),some (.ref ax),some (.ref ay1),some (.ref az2),some (.ref ac),none,none,none,none,none,none,none]∧Rows K H' ac ((List.range (z0.length / 4)).map (bw zs'))∧ai H2 H') (fun R hR=>?_) ?_
 ·walk_at "rd";obtain⟨as,ha,hl⟩:=hz2;obtain⟨b0,hb0,hb1⟩:=hl.at' hz0;refine fH (j:=0) ha rfl hb0 (cQ (aL.of hb1) ?_);walk_at "rd";rw[show (iv z0).length=z0.length from length_map _]
  refine⟨⟨by decide,by decide⟩,by lia,by lia,fun D hD=>?_⟩
  have en:((z0.length:Int) / 4).toNat=z0.length / 4:=by lia
  rw[en];refine re (fun j=>bw zs' j) hD (sz (by lia)) (fun i H3 Kt hi hs hk=>?_) fun H' as' n1 n2 n3 n4=>hR _ _ ⟨D,rfl,⟨as',aL.of n3,n2⟩,n4⟩
  walk_at "rd"
  exact⟨az2,zs',i,by simp,⟨as,hs.seq ha,hl.same hs⟩,hzl',by lia,hk⟩
 rintro σ3 H3 ⟨ac,rfl,hc3,s3⟩
 obtain⟨asx,hax,hlx⟩:=hx2;obtain⟨asy,hay,hly⟩:=hy2;obtain⟨asc,hac,hlc⟩:=hc3;walk_at "rd";refine⟨by decide,fun An hAn=>?_⟩
 have s4:ai H3 (upd H3 An (.lst [])):=ai.new hAn;have s34:=s3.trans s4;refine⟨_,s34.seq hax,_,s34.seq hay,?_⟩;have hxy:(asx.map V.ref).length=xw.length:=by rw[length_map];exact hlx.1
 have hyy:(asy.map V.ref).length=ys'.length:=by rw[length_map];exact hly.1
 generalize hg:(xw.zip ys').map (fun p=>(p.1.zip ((List.range (z0.length / 4)).map (bw zs'))).map fun q=>(q.1+dD p.2 q.2) % 4294967296)=res at kk
 have hres:res.length=min xw.length ys'.length:=by rw[←hg,length_map,length_zip]
 refine IP (n:=res.length) (fun i σ H'=>∃ (v6 v7:Option V) (rs:List Addr),σ=[some (.int (kind:Int)),some (.ref ax),some (.ref ay1),some (.ref az2),some (.ref ac),some (.ref An),v6,v7,none,none,none,none]∧H' An=some (.lst (rs.map V.ref))∧LL H' rs (res.take i)∧(∀ b∈rs,H2 b=none∧b≠An)∧ai H3 H') (by rw[hres,hxy,hyy]) ⟨none,none,[],rfl,af,⟨by simp,fun i b l e=>by simp at e⟩,fun b hb=>by simp at hb,s4⟩ (fun i σ H' ⟨_,_,_,_,_,_,_,s5⟩=>⟨(s3.trans s5).seq hax,(s3.trans s5).seq hay⟩) ?_ ?_
 ·rintro i x y σ H5 H6 hi hj ⟨v6,v7,rs,rfl,hA,hL,hF,s5⟩ s6
  obtain⟨bx,hbx,rfl⟩:=bR hi;obtain⟨bY,hby,rfl⟩:=bR hj;obtain⟨lx,hx1,hx2⟩:=hlx.at hbx;obtain⟨ly,hy1',hy2⟩:=hly.at hby;have s36:ai H3 H6:=s5.trans s6;have s26:ai H2 H6:=s3.trans s36;walk_at "rd";refine⟨eU (s6 _ _ hA),_,aL.of (s26 _ _ hx2),_,s36.seq hac,fun D hD=>?_⟩
  have hr1:res[i]?=some ((lx.zip ((List.range (z0.length / 4)).map (bw zs'))).map fun q=>(q.1+dD ly q.2) % 4294967296):=by
   have e:(xw.zip ys')[i]?=some (lx,ly):=by rw[getElem?_zip_eq_some];exact⟨hx1,hy1'⟩
   rw[←hg,getElem?_map,e];rfl
  have hlxl:lx.length≤1000:=hin.xr lx (mem_of_getElem? hx1);have hcl:(asc.map V.ref).length=z0.length / 4:=by rw[length_map,hlc.1,length_map,length_range]
  refine qj (n:=min lx.length (z0.length / 4)) (fun j=>.int ((lx.getD j 0+dD ly (bw zs' j)) % 4294967296)) hD (aL.of (s26 _ _ hx2)) (s36.seq hac) (by rw[length_map,hcl]) (sz (by lia)) (fun j u v H7 Kt hu hv hs hk=>?_) fun H7 h7 s7=>?_
  ·obtain⟨n,hn,rfl⟩:=fq hu;obtain⟨bc,hbc,rfl⟩:=bR hv;obtain⟨lc,hc1,hc2⟩:=hlc.at hbc;have hjn:j<z0.length / 4:=by rw[←hcl];exact (List.getElem?_eq_some_iff.mp hv).1
   have elc:lc=bw zs' j:=by
    rw[getElem?_map,getElem?_range hjn] at hc1;exact (Option.some.inj hc1).symm
   subst elc;rw[gW hn] at hk;walk_at "rd";have m1:Ji ly:=fun x hx=>by have:=(hys ly (mem_of_getElem? hy1')).2 x hx;lia
   have m2:Ji (bw zs' j):=fun x hx=>by
    obtain⟨l,hl1,hl2⟩:=mem_flatMap.1 hx
    have:=(hzs l hl1).2 x (List.mem_of_mem_drop (mem_of_mem_take hl2))
    lia
   refine uU (aL.of (hs _ _ (s26 _ _ hy2))) (aL.of (hs _ _ (s36 _ _ hc2))) ⟨by have:=(hys ly (mem_of_getElem? hy1')).1;lia,m1,m2⟩ fun H8 s8=>?_
   walk_at "rd"
   exact⟨by decide,hk H8 s8⟩
  ·have hA7:=s7 _ _ (s6 _ _ hA);have nD:D≠An:=fun z=>by rw[z,s6 _ _ hA] at hD;cases hD
   have hiR:i<res.length:=(List.getElem?_eq_some_iff.mp hr1).1;refine mC hA7 ?_ ⟨rs++[D],?_,?_,?_,?_⟩
   ·rw[length_map,hL.1,length_take]
    have:=hin.xl
    exact sz (by lia)
   ·rw[af,map_append];rfl
   ·refine⟨by rw[length_append,hL.1,length_take,length_take,length_cons,length_nil];lia,fun m b l e1 e2=>?_⟩
    rw[iC hr1] at e2;rcases Nat.lt_or_ge m rs.length with hm | hm
    ·rw[getElem?_append_left hm] at e1;rw[getElem?_append_left (by rw[←hL.1];exact hm)] at e2
     have hb:=hL.2 m b l e1 e2;rw[ao (hF b (mem_of_getElem? e1)).2];exact s7 _ _ (s6 _ _ hb)
    ·have hm0:m=rs.length:=by
      have:=(List.getElem?_eq_some_iff.mp e1).1
      rw[length_append,length_cons,length_nil] at this;lia
     subst hm0;rw[getElem?_append_right (Nat.le_refl _),Nat.sub_self] at e1;rw[hL.1,getElem?_append_right (Nat.le_refl _),Nat.sub_self] at e2;have eb:D=b:=Option.some.inj e1;have el:=Option.some.inj e2;subst eb el;rw[ao nD,h7]
     have:(iv ((lx.zip ((List.range (z0.length / 4)).map (bw zs'))).map fun q=>(q.1+dD ly q.2) % 4294967296))=(List.range (min lx.length (z0.length / 4))).map fun j=>V.int ((lx.getD j 0+dD ly (bw zs' j)) % 4294967296):=by
      unfold iv;rw[map_map];apply ext_getElem?;intro j
      by_cases hj:j<min lx.length (z0.length / 4)
      ·have e:(lx.zip ((List.range (z0.length / 4)).map (bw zs')))[j]?=some (lx.getD j 0,bw zs' j):=by
        rw[getElem?_zip_eq_some,getElem?_map,getElem?_range (by lia),getD_eq_getElem?_getD,getElem?_eq_getElem (by lia)]
        exact⟨rfl,rfl⟩
       rw[getElem?_map,e,getElem?_map,getElem?_range hj];rfl
      ·rw[getElem?_eq_none (by rw[length_map,length_zip,length_map,length_range];lia),getElem?_eq_none (by simpa using Nat.le_of_not_lt hj)]
     rw[this]
   ·intro b hb;rcases mem_append.1 hb with hb | hb
    ·exact hF b hb
    ·have:b=D:=by simpa using hb
     subst this
     exact⟨s26.free hD,nD⟩
   ·intro b o e;have nb:b≠An:=au e hAn;rw[ao nb];exact s7 _ _ (s36 _ _ e)
 ·rintro σ H' ⟨v6,v7,rs,rfl,hA,hL,hF,s5⟩
  walk_at "rd";rw[take_length] at hL;exact kk An rs H' (s3.trans s5) (s3.free hAn) hF hA hL
theorem zS{i:Nat}{u:TS}{D:om}{σ:L2.St}{H:Hp}(h:∀ p,H p=none→u D (σ.set i (some (.ref p))) (upd H p (.lst []))):Hu (EB (J6 uw) (db i)) u D σ H:=⟨Nat.zero_le _,h⟩
theorem Cr{β:Type}(ll:List (List Int))(f:List Int→β):(List.range ll.length).map (fun i=>f (ll.getD i []))=ll.map f:=by
 apply ext_getElem?;intro i
 by_cases h:i<ll.length
 ·rw[getElem?_map,getElem?_range h,getElem?_map,getElem?_eq_getElem h];show some (f (ll.getD i []))=some (f ll[i]);rw[getD_eq_getElem?_getD,getElem?_eq_getElem h];rfl
 ·rw[getElem?_eq_none (by simpa using Nat.le_of_not_lt h),getElem?_eq_none (by simpa using Nat.le_of_not_lt h)]
theorem qi{a:Addr}{k:Nat}{te:TE}{vs:List Nat}{σ:L2.St}{H:Hp}{D:Addr}{Qd:Hp→Prop}{ll:List (List Int)}(hD:H D=none)(hr:Rows K H a ll)(hlen:ll.length≤1000000)(f:List Int→V)
  (turn:∀ b l H1 (Kt:VK),l∈ll→H1 b=some (.lst (iv l))→ai H H1→(∀ H4,ai H1 H4→Kt (f l) H4)→bh ((bh σ vs).set k (some (.ref b))) vs=bh σ vs∧te ((bh σ vs).set k (some (.ref b))) H1 Kt)
  (dO:∀ H',H' D=some (.lst (ll.map f))→ai H H'→Qd H'):BZ (FJ K a) (db k) te vs σ H D Qd:=by
 obtain⟨as,ha,hz⟩:=hr;have hl:(as.map V.ref).length=ll.length:=by rw[length_map];exact hz.1
 refine iZ (fun i=>f (ll.getD i [])) hD ha (sz (by lia)) (fun i x H1 Kt hi hs hk=>?_) fun H' h1 h2=>dO H' (by rw[h1,hl,Cr]) h2
 obtain⟨b,hb,rfl⟩:=bR hi;obtain⟨l,hl1,hl2⟩:=hz.at hb;rw[D6 hl1] at hk;exact turn b l H1 Kt (mem_of_getElem? hl1) (hs _ _ hl2) hs hk
def Dk(c:Addr)(H:Hp)(t:Addr)(p:List Int×List Int):Prop:=∃ a b,t≠c∧a≠c∧b≠c∧H t=some (.tup [.ref a,.ref b])∧H a=some (.lst (iv p.1))∧H b=some (.lst (iv p.2))
theorem Dk.ext{c:Addr}{H H':Hp}{t:Addr}{p:List Int×List Int}(h:Dk c H t p)(e:xD c H H'):Dk c H' t p :=
 let ⟨a,b,n1,n2,n3,h1,h2,h3⟩:=h;⟨a,b,n1,n2,n3,e _ _ h1 n1,e _ _ h2 n2,e _ _ h3 n3⟩
theorem Dk.two{c:Addr}{H:Hp}{t:Addr}{p:List Int×List Int}(h:Dk c H t p):LA K H t p :=
 let ⟨a,b,_,_,_,h1,h2,h3⟩:=h;⟨a,b,lP.of h1,aL.of h2,aL.of h3⟩
structure kY(xw ys zs:List (List Int)):Prop where
 base:BU xw ys zs
 z16:zs.length≤16
 ye:∀ l∈ys,l.length % 2=0
 ze:∀ l∈zs,l.length=(zs.headD []).length∧l.length % 4=0
 ok:bH xw ys zs=true
theorem nk(h:∀ x∈l,0≤x∧x<256):LN l:=fun i=>by
 rcases Nat.lt_or_ge i l.length with hi | hi
 ·exact h _ (A3 hi)
 ·rw[getD_eq_getElem?_getD,getElem?_eq_none hi];decide
theorem kY.y{xw ys zs:List (List Int)}(h:kY xw ys zs){l:List Int}(hl:l∈ys):LK l∧cz l=true:=by
 refine⟨⟨h.ye l hl,by have:=(h.base.yb l hl).1;lia,nk (h.base.yb l hl).2⟩,?_⟩
 have:=h.ok
 unfold bH at this
 split at this
 ·cases this
 ·rename_i hn
  rw[Bool.not_eq_false] at hn;exact (all_eq_true.1 hn) l (mem_append_left _ hl)
theorem kY.z{xw ys zs:List (List Int)}(h:kY xw ys zs){l:List Int}(hl:l∈zs):LK l∧cz l=true:=by
 refine⟨⟨by have:=(h.ze l hl).2;lia,by have:=(h.base.zb l hl).1;lia,nk (h.base.zb l hl).2⟩,?_⟩
 have:=h.ok
 unfold bH at this
 split at this
 ·cases this
 ·rename_i hn
  rw[Bool.not_eq_false] at hn;exact (all_eq_true.1 hn) l (mem_append_right _ hl)
theorem kY.x{xw ys zs:List (List Int)}(h:kY xw ys zs){l:List Int}(hl:l∈xw):∀ x∈l,bC x=true:=by
 have:=h.ok
 unfold bH at this
 split at this
 ·cases this
 ·exact fun x hx=>(all_eq_true.1 ((all_eq_true.1 this) l hl)) x hx
theorem yj{l:List Int}(h:cz l=true):∀ x∈aw l,x.natAbs≤2 ^ 88:=by
 intro x hx;obtain⟨y,hy,rfl⟩:=mem_map.1 hx;exact GR ((all_eq_true.1 h) y hy)
theorem vJ{l:List Int}(h:∀ x∈l,x.natAbs≤2 ^ 88)(i:Nat):(l.getD i 0).natAbs≤2 ^ 88:=by
 rcases Nat.lt_or_ge i l.length with hi | hi
 ·exact h _ (A3 hi)
 ·rw[getD_eq_getElem?_getD,getElem?_eq_none hi];decide
theorem pA{l:List Int}(h:∀ x∈l,x.natAbs≤2 ^ 88)(f:Nat):∀ x∈cX l f,x.natAbs≤2 ^ 88:=by
 intro x hx;obtain⟨q,_,rfl⟩:=mem_map.1 hx;exact vJ h _
theorem xE{l r:List Int}(h1:∀ x∈l,x.natAbs≤2 ^ 88)(h2:∀ x∈r,x.natAbs≤2 ^ 88):km (l.zip r):=fun p hp=>⟨h1 _ (of_mem_zip hp).1,h2 _ (of_mem_zip hp).2⟩
def Kp(K:PySem.W.Frag)(C:List (List Int)→List (List Int)→List (List Int)→Prop)(g:List (List Int)→List (List Int)→List (List Int)→List (List Int)):Sp:=fun vs H Q _=>∃ ax ay az,∃ xw ys zs:List (List Int),vs=[.ref ax,.ref ay,.ref az]∧Rows K H ax xw∧Rows K H ay ys∧Rows K H az zs∧C xw ys zs∧oI H (g xw ys zs) Q
theorem GQ(l:List Int):(aw l).length=l.length / 2:=by unfold aw;rw[length_map,o7]
theorem AC(T:Tx K mg):bg P w K mg base 4 "pair_dot" ["x_words","y_rows","z_rows"] (Kp K kY eE):=by
 refine bg.of ["z_values","columns","j","answer","words","y_row","y_values","y_parts","row","word","column"] T.C0 fun sc H Q E hr h=>?_
 obtain⟨ax,ay,az,xw,ys,zs,rfl,hx,hy,hz,hin,k⟩:=h;refine⟨_,(ab (mH (i:=3) (own:=[("row",11)]) rfl sc.nd rfl rfl (pp rfl rfl rfl rfl) (bT (K:=K) (pv 2)) (aY (N:=["x_words","y_rows","z_rows","z_values","columns","j","answer","words","y_row","y_values","y_parts","row","word","column"]) (sc:=aC gD) (by decide +kernel)) (fun _ _ _ _ _=>(gN 11 sc.nd)) (fun _ _ _ _ _=>(bE)) (fun _ _ _ _ _=>(aA (mR T) hr.m (aa (pv 11) ae)))) (ab (sS 4 sc.nd (aJ ae)) (ab (dS PassesOwn.never rfl (gL rfl T.dW (aa (aq gd (tW K T.eB (aa (xL K (pv 2) aj) ae)) aj) ae)) (gN 5 sc.nd) (aB (bQ (JW (pv 4) (aa (jJ (aa (dM (own:=[("row",11)]) rfl sc.nd (bT (K:=K) (pv 3)) (aY (N:=["x_words","y_rows","z_rows","z_values","columns","j","answer","words","y_row","y_values","y_parts","row","word","column"]) (sc:=aC gD) (by decide +kernel)) (fun _ _ _ _ _=>(gN 11 sc.nd)) (fun _ _ _ _ _=>(bE)) (fun _ _ _ _ _=>(xL K (pv 11) (aq bq aj (pv 5))))) (aa (dM (own:=[("row",11)]) rfl sc.nd (bT (K:=K) (pv 3)) (aY (N:=["x_words","y_rows","z_rows","z_values","columns","j","answer","words","y_row","y_values","y_parts","row","word","column"]) (sc:=aC gD) (by decide +kernel)) (fun _ _ _ _ _=>(gN 11 sc.nd)) (fun _ _ _ _ _=>(bE)) (fun _ _ _ _ _=>(xL K (pv 11) (aq bn (aq bq aj (pv 5)) aj)))) ae))) ae))))) (ab (sS 6 sc.nd (aJ ae)) (ab (dS PassesOwn.never rfl (iu (K:=K) T.qG (aa (pv 0) (aa (pv 1) ae))) (gc (K:=K) (n:=2) (bO (gN 7 sc.nd) (bO (gN 8 sc.nd) f9))) (ab (sS 9 sc.nd (aA (mR T) hr.m (aa (pv 8) ae))) (ab (sS 10 sc.nd (jJ (aa (aA (lj T) hr.m (aa (pv 9) (aa aj ae))) (aa (aA (lj T) hr.m (aa (pv 9) (aa aj ae))) ae)))) (aB (bQ (JW (pv 6) (aa (dM (own:=[("word",12),("column",13)]) rfl sc.nd (iu (K:=K) T.qG (aa (pv 7) (aa (pv 4) ae))) (aY (N:=["x_words","y_rows","z_rows","z_values","columns","j","answer","words","y_row","y_values","y_parts","row","word","column"]) (sc:=aC gD) (by decide +kernel)) (fun _ _ _ _ _=>(gc (K:=K) (n:=2) (bO (gN 12 sc.nd) (bO (gN 13 sc.nd) f9)))) (fun _ _ _ _ _=>(bE)) (fun _ _ _ _ _=>(aA (zd T) hr.m (aa (pv 12) (aa (pv 10) (aa (pv 13) ae)))))) ae))))))) (bu (pv 6))))))),?_⟩
 refine lT (fun σ' H'=>∃ av,σ'=[some (.ref ax),some (.ref ay),some (.ref az),some (.ref av),none,none,none,none,none,none,none,none,none,none]∧Rows K H' av (zs.map aw)∧ai H H') (fun R hR=>?_) ?_
 ·walk_at "rd";obtain⟨as,ha,hz1⟩:=id hz;refine⟨⟨_,ha⟩,fun D hD=>qh hD hz hin.base.zl aw (fun b l H1 Kt hl hb hk2=>?_) fun H' as' n1 n2 n3 n4=>hR _ _ ⟨D,rfl,⟨as',aL.of n3,n2⟩,n4⟩⟩
  walk_at "rd";exact eZ (aL.of hb) (hin.z hl) hk2
 rintro σ1 H1 ⟨av,rfl,hv1,s1⟩
 obtain⟨z0,hz0⟩:∃ z0,zs[0]?=some z0:=⟨_,getElem?_eq_getElem hin.base.z0⟩;have ehead:zs.headD []=z0:=by
  cases zs with
  | nil=>simp at hz0
  | cons a l=>simpa using hz0
 have hz0l:z0.length≤1000:=(hin.base.zb z0 (mem_of_getElem? hz0)).1;have kk:oI H1 (eE xw ys zs) Q:=k.mono s1;unfold eE at kk;dsimp only at kk;rw[ehead] at kk;have hzv:∀ l∈zs.map aw,l.length=z0.length / 2∧∀ x∈l,x.natAbs≤2 ^ 88:=by
  intro l hl;obtain⟨m,hm,rfl⟩:=mem_map.1 hl
  exact⟨by rw[GQ,(hin.ze m hm).1,ehead],yj (hin.z hm).2⟩
 have hzvl:(zs.map aw).length=zs.length:=length_map _;generalize zs.map aw=zv at *;refine zS fun ac hac=>?_
 simp only[List.set_cons_succ,List.set_cons_zero];have s2:ai H1 (upd H1 ac (.lst [])):=ai.new hac;refine lT (fun σ' H'=>∃ (v5:Option V) (ts:List Addr),σ'=[some (.ref ax),some (.ref ay),some (.ref az),some (.ref av),some (.ref ac),v5,none,none,none,none,none,none,none,none]∧H' ac=some (.lst (ts.map V.ref))∧ts.length=z0.length / 4∧(∀ (j:Nat) (t:Addr),ts[j]?=some t→Dk ac H' t (zv.map fun r=>r.getD (2*j) 0,zv.map fun r=>r.getD (2*j+1) 0))∧ai H1 H') (fun R hR=>?_) ?_
 ·walk_at "rd";obtain⟨as,ha,hl⟩:=(hz.same s1).same s2;obtain⟨b0,hb0,hb1⟩:=hl.at' hz0;refine fH (j:=0) ha rfl hb0 (cQ (aL.of hb1) ?_);walk_at "rd";rw[show (iv z0).length=z0.length from length_map _]
  refine⟨⟨by decide,by decide⟩,by lia,by lia,?_⟩
  have en:((z0.length:Int) / 4).toNat=z0.length / 4:=by lia
  rw[en];obtain⟨asv,hav,hlv⟩:=hv1;refine IQ (fun i σ H'=>∃ (v5:Option V) (ts:List Addr),σ=[some (.ref ax),some (.ref ay),some (.ref az),some (.ref av),some (.ref ac),v5,none,none,none,none,none,none,none,none]∧H' ac=some (.lst (ts.map V.ref))∧ts.length=i∧(∀ (j:Nat) (t:Addr),ts[j]?=some t→Dk ac H' t (zv.map fun r=>r.getD (2*j) 0,zv.map fun r=>r.getD (2*j+1) 0))∧ai H1 H') ⟨none,[],rfl,af,rfl,fun j t e=>by simp at e,s2⟩ ?_ ?_
  ·rintro i σ H' hi ⟨v5,ts,rfl,hA,hT,hTw,s3⟩
   have hlen:(asv.map V.ref).length=zv.length:=by rw[length_map];exact hlv.1
   have hzvl':zv.length≤1000:=by rw[hzvl];exact hin.base.zl
   have hv3:∀ H5,ai H1 H5→Rows K H5 av zv:=fun H5 s5=>⟨asv,s5.seq hav,hlv.same s5⟩
   have cm:fz 2 (i:Int):=⟨by decide,Nat.lt_of_le_of_lt (show (i:Int).natAbs≤1000 by lia) (by decide)⟩
   have cm0:fz 2 (0+(i:Int)):=by rw[Int.zero_add];exact cm
   have hzi:∀ l∈zv,2*i+1<l.length:=fun l hl=>by have:=(hzv l hl).1;lia
   walk_at "rd";refine⟨eU hA,⟨_,s3.seq hav⟩,fun D hD=>qi hD (hv3 _ s3) (by lia) (fun l=>.int (l.getD (2*i) 0)) (fun b l H5 Kt hl hb s5 hk=>?_) fun H5 h5 s5=>⟨⟨_,(s3.trans s5).seq hav⟩,fun D1 hD1=>qi hD1 (hv3 _ (s3.trans s5)) (by lia) (fun l=>.int (l.getD (2*i+1) 0)) (fun b l H6 Kt hl hb s6 hk=>?_) fun H6 h6 s6=>⟨by decide,fun p hp=>?_⟩⟩⟩
   ·walk_at "rd"
    exact⟨cm0,bj (j:=2*i) (aL.of hb) (by lia) (by have:=hzi l hl;lia) (hk _ ai.refl)⟩
   ·walk_at "rd"
    exact⟨cm0,bj (j:=2*i+1) (aL.of hb) (by lia) (hzi l hl) (hk _ ai.refl)⟩
   ·have hA6:=s6 _ _ (s5 _ _ hA);have s7:ai H6 (upd H6 p (.tup [V.ref D,V.ref D1])):=ai.new hp;have nD:D≠ac:=fun z=>by rw[z,hA] at hD;cases hD
    have nD1:D1≠ac:=fun z=>by rw[z,s5 _ _ hA] at hD1;cases hD1
    have np:p≠ac:=fun z=>by rw[z,hA6] at hp;cases hp
    refine mC (s7 _ _ hA6) ?_ ⟨ts++[p],?_,?_,?_,?_⟩
    ·rw[length_map,hT];exact sz (by lia)
    ·rw[af,map_append];rfl
    ·rw[length_append,hT];rfl
    ·intro j t e;rcases Nat.lt_or_ge j ts.length with hj | hj
     ·rw[getElem?_append_left hj] at e;refine (hTw j t e).ext fun b o eb nb=>?_
      rw[ao nb];exact s7 _ _ (s6 _ _ (s5 _ _ eb))
     ·have hj0:j=ts.length:=by
       have:=(List.getElem?_eq_some_iff.mp e).1
       rw[length_append,length_cons,length_nil] at this;lia
      subst hj0;rw[getElem?_append_right (Nat.le_refl _),Nat.sub_self] at e;have et:p=t:=Option.some.inj e;subst et;refine⟨D,D1,np,nD,nD1,?_,?_,?_⟩
      ·rw[ao np,af]
      ·rw[ao nD,hT];refine s7 _ _ (s6 _ _ ?_);rw[h5];unfold iv;rw[map_map];rfl
      ·rw[ao nD1,hT];refine s7 _ _ ?_
       rw[h6];unfold iv;rw[map_map];rfl
    ·intro b o e;rw[ao (au e hac)];exact s7 _ _ (s6 _ _ (s5 _ _ (s3 _ _ e)))
  ·rintro σ H' ⟨v5,ts,rfl,hA,hT,hTw,s3⟩
   exact hR _ _ ⟨v5,ts,rfl,hA,hT,hTw,s3⟩
 rintro σ3 H3 ⟨v5,ts,rfl,hA3,hT3,hTw3,s3⟩
 obtain⟨asx,hax,hlx⟩:=hx.same (s1.trans s3);obtain⟨asy,hay,hly⟩:=hy.same (s1.trans s3);walk_at "rd";refine⟨by decide,fun An hAn=>?_⟩
 have s4:ai H3 (upd H3 An (.lst [])):=ai.new hAn;refine⟨_,s4.seq hax,_,s4.seq hay,?_⟩;have hxy:(asx.map V.ref).length=xw.length:=by rw[length_map];exact hlx.1
 have hyy:(asy.map V.ref).length=ys.length:=by rw[length_map];exact hly.1
 generalize hg:(xw.zip ys).map (fun p=>(p.1.zip ((List.range (z0.length / 4)).map fun j=>(zv.map fun r=>r.getD (2*j) 0,zv.map fun r=>r.getD (2*j+1) 0))).map fun q=>gJ q.1 (cX (aw p.2) 0,cX (aw p.2) 1) q.2)=res at kk
 have hres:res.length=min xw.length ys.length:=by rw[←hg,length_map,length_zip]
 refine IP (n:=res.length) (fun i σ H'=>∃ (v7 v8 v9 v10:Option V) (rs:List Addr),σ=[some (.ref ax),some (.ref ay),some (.ref az),some (.ref av),some (.ref ac),v5,some (.ref An),v7,v8,v9,v10,none,none,none]∧H' An=some (.lst (rs.map V.ref))∧LL H' rs (res.take i)∧(∀ b∈rs,H1 b=none∧b≠An)∧ai H3 H') (by rw[hres,hxy,hyy]) ⟨none,none,none,none,[],rfl,af,⟨by simp,fun i b l e=>by simp at e⟩,fun b hb=>by simp at hb,s4⟩ (fun i σ H' ⟨_,_,_,_,_,_,_,_,_,s5⟩=>⟨s5.seq hax,s5.seq hay⟩) ?_ ?_
 ·rintro i x y σ H5 H6 hi hj ⟨v7,v8,v9,v10,rs,rfl,hA,hL,hF,s5⟩ s6
  obtain⟨bx,hbx,rfl⟩:=bR hi;obtain⟨bY,hby,rfl⟩:=bR hj;obtain⟨lx,hx1,hx2⟩:=hlx.at hbx;obtain⟨ly,hy1',hy2⟩:=hly.at hby;have s36:ai H3 H6:=s5.trans s6;have hyin:=hin.y (mem_of_getElem? hy1');walk_at "rd";refine eZ (aL.of (s36 _ _ hy2)) hyin fun p1 H7 s7 np1 hp1=>?_
  (try walk_at "rd")
  have hvl:(aw ly).length≤1000:=by rw[GQ];have:=(hin.base.yb ly (mem_of_getElem? hy1')).1;lia
  refine⟨p1,_,0,rfl,aL.of hp1,by decide,by lia,fun q0 H8 s8 nq0 hq0=>?_⟩
  (try walk_at "rd")
  refine⟨p1,_,1,rfl,aL.of (s8 _ _ hp1),by decide,by lia,fun q1 H9 s9 nq1 hq1=>?_⟩
  walk_at "rd";refine⟨by decide,fun tp htp=>?_⟩
  have s10:ai H9 (upd H9 tp (.tup [V.ref q0,V.ref q1])):=ai.new htp;have s610:ai H6 (upd H9 tp (.tup [V.ref q0,V.ref q1])):=s7.trans (s8.trans (s9.trans s10));generalize hH10:upd H9 tp (.tup [V.ref q0,V.ref q1])=H10 at *;have htwo:LA K H10 tp (cX (aw ly) 0,cX (aw ly) 1):=⟨q0,q1,lP.of (by rw[←hH10,af]),aL.of (s10 _ _ (s9 _ _ hq0)),aL.of (s10 _ _ hq1)⟩
  have hA10:=s610 _ _ (s6 _ _ hA);have s310:ai H3 H10:=s36.trans s610;refine⟨eU hA10,_,aL.of (s310 _ _ hx2),_,aL.of (s310 _ _ hA3),fun D hD=>?_⟩
  have hr1:res[i]?=some ((lx.zip ((List.range (z0.length / 4)).map fun j=>(zv.map fun r=>r.getD (2*j) 0,zv.map fun r=>r.getD (2*j+1) 0))).map fun q=>gJ q.1 (cX (aw ly) 0,cX (aw ly) 1) q.2):=by
   have e:(xw.zip ys)[i]?=some (lx,ly):=by rw[getElem?_zip_eq_some];exact⟨hx1,hy1'⟩
   rw[←hg,getElem?_map,e];rfl
  have hlxl:lx.length≤1000:=hin.base.xr lx (mem_of_getElem? hx1);have hcl:(ts.map V.ref).length=z0.length / 4:=by rw[length_map,hT3]
  have hsmy:=yj hyin.2;have hcs:∀ j,∀ x∈(zv.map fun r:List Int=>r.getD j 0),x.natAbs≤2 ^ 88:=by
   intro j x hx;obtain⟨r,hr,rfl⟩:=mem_map.1 hx;exact vJ (hzv r hr).2 j
  have hz16:zv.length≤16:=by rw[hzvl];exact hin.z16
  refine qj (n:=min lx.length (z0.length / 4)) (fun j=>.int (gJ (lx.getD j 0) (cX (aw ly) 0,cX (aw ly) 1) (zv.map fun r=>r.getD (2*j) 0,zv.map fun r=>r.getD (2*j+1) 0))) hD (aL.of (s310 _ _ hx2)) (aL.of (s310 _ _ hA3)) (by rw[length_map,hcl]) (sz (by lia)) (fun j u v H11 Kt hu hv hs hk=>?_) fun H11 h11 s11=>?_
  ·obtain⟨n,hn,rfl⟩:=fq hu;obtain⟨bc,hbc,rfl⟩:=bR hv;rw[gW hn] at hk;walk_at "rd";refine⟨n,tp,bc,_,_,rfl,htwo.same hs,((hTw3 j bc hbc).two).same (s310.trans hs),hin.x (mem_of_getElem? hx1) n (mem_of_getElem? hn),⟨?_,?_,?_,?_⟩,hk⟩
   ·rw[length_zip,length_map];lia
   ·rw[length_zip,length_map];lia
   ·exact xE (pA hsmy 0) (hcs _)
   ·exact xE (pA hsmy 1) (hcs _)
  ·have hA11:=s11 _ _ hA10;have nD:D≠An:=fun z=>by rw[z,hA10] at hD;cases hD
   have hiR:i<res.length:=(List.getElem?_eq_some_iff.mp hr1).1;refine mC hA11 ?_ ⟨rs++[D],?_,?_,?_,?_⟩
   ·rw[length_map,hL.1,length_take]
    have:=hin.base.xl
    exact sz (by lia)
   ·rw[af,map_append];rfl
   ·refine⟨by rw[length_append,hL.1,length_take,length_take,length_cons,length_nil];lia,fun m b l e1 e2=>?_⟩
    rw[iC hr1] at e2;rcases Nat.lt_or_ge m rs.length with hm | hm
    ·rw[getElem?_append_left hm] at e1;rw[getElem?_append_left (by rw[←hL.1];exact hm)] at e2
     have hb:=hL.2 m b l e1 e2;rw[ao (hF b (mem_of_getElem? e1)).2];exact s11 _ _ (s610 _ _ (s6 _ _ hb))
    ·have hm0:m=rs.length:=by
      have:=(List.getElem?_eq_some_iff.mp e1).1
      rw[length_append,length_cons,length_nil] at this;lia
     subst hm0;rw[getElem?_append_right (Nat.le_refl _),Nat.sub_self] at e1;rw[hL.1,getElem?_append_right (Nat.le_refl _),Nat.sub_self] at e2;have eb:D=b:=Option.some.inj e1;have el:=Option.some.inj e2;subst eb el;rw[ao nD,h11];apply congrArg;apply congrArg;unfold iv;rw[map_map];apply ext_getElem?;intro j
     by_cases hj:j<min lx.length (z0.length / 4)
     ·have e:(lx.zip ((List.range (z0.length / 4)).map fun j=>(zv.map fun r:List Int=>r.getD (2*j) 0,zv.map fun r:List Int=>r.getD (2*j+1) 0)))[j]?=some (lx.getD j 0,(zv.map fun r=>r.getD (2*j) 0,zv.map fun r=>r.getD (2*j+1) 0)):=by
       rw[getElem?_zip_eq_some,getElem?_map,getElem?_range (by lia),getD_eq_getElem?_getD,getElem?_eq_getElem (by lia)]
       exact⟨rfl,rfl⟩
      rw[getElem?_map,getElem?_range hj,getElem?_map,e];rfl
     ·rw[getElem?_eq_none (by simpa using Nat.le_of_not_lt hj),getElem?_eq_none (by rw[length_map,length_zip,length_map,length_range];lia)]
   ·intro b hb;rcases mem_append.1 hb with hb | hb
    ·exact hF b hb
    ·have:b=D:=by simpa using hb
     subst this
     exact⟨(s3.trans s310).free hD,nD⟩
   ·intro b o e;rw[ao (au e hAn)];exact s11 _ _ (s310 _ _ e)
 ·rintro σ H' ⟨v7,v8,v9,v10,rs,rfl,hA,hL,hF,s5⟩
  walk_at "rd";rw[take_length] at hL;exact kk An rs H' (s3.trans s5) (s3.free hAn) hF hA hL
theorem Gx(T:Tx K mg):bg P w K mg base 5 "dot" ["kind","x_words","y_rows","z_rows"] (FY K (fun kind xw ys zs=>BU xw ys zs∧(kind=4→kY xw ys zs)) ik):=by
 refine bg.of [] T.Nh fun sc H Q E hr h=>?_
 obtain⟨kind,ax,ay,az,xw,ys,zs,rfl,hx,hy,hz,⟨hin,hp⟩,k⟩:=h;unfold ik at k;refine⟨_,(ab (aU (gq cI (pv 0) (am T.fi)) (bu (aA (AC T) hr.m (aa (pv 1) (aa (pv 2) (aa (pv 3) ae))))) aF) (bu (aA (AK T) hr.m (aa (pv 0) (aa (pv 1) (aa (pv 2) (aa (pv 3) ae))))))),?_⟩;walk_at "rd";refine aN (fun h1=>?_) fun h1=>?_
 ·have hk:kind=4:=by lia
  rw[if_pos hk] at k
  exact⟨ax,ay,az,xw,ys,zs,rfl,hx,hy,hz,hp hk,k⟩
 ·have hk:¬ kind=4:=by lia
  rw[if_neg hk] at k
  exact⟨kind,ax,ay,az,xw,ys,zs,rfl,hx,hy,hz,hin,k⟩
theorem Aa.rows(h:Aa H a ll):Rows K H a ll:=let ⟨as,e,h⟩:=h;⟨as,aL.of e,h⟩
theorem LL.append(h1:LL H as ll)(h2:LL H bs mm):LL H (as++bs) (ll++mm):=by
 refine⟨by rw[length_append,length_append,h1.1,h2.1],fun i b l e1 e2=>?_⟩
 rcases Nat.lt_or_ge i as.length with h | h
 ·rw[getElem?_append_left h] at e1;rw[getElem?_append_left (by rw[←h1.1];exact h)] at e2
  exact h1.2 i b l e1 e2
 ·rw[getElem?_append_right h] at e1;rw[getElem?_append_right (by rw[←h1.1];exact h),←h1.1] at e2
  exact h2.2 _ b l e1 e2
def Mi(K:PySem.W.Frag):Sp:=fun vs H Q _=>∃ ax ay az,∃ xw ys zs:List (List Int),vs=[.ref ax,.ref ay,.ref az]∧Rows K H ax xw∧Aa H ay ys∧Aa H az zs∧(∀ l∈ys++zs,LK l)∧(∀ l∈xw,l.length≤1000000)∧xw.length≤1000∧ys.length+zs.length≤1000∧nv H (.bl (bH xw ys zs)) Q
theorem jI(h1:H l=some (.lst xs))(h2:H b=some (.lst zs))(hz:xs.length+zs.length≤sizeLine)(q:∀ p,H p=none→Q (.ref p) (upd H p (.lst (xs++zs)))):HW (.ref l) (.ref b) H Q:=⟨l,b,xs,zs,rfl,rfl,h1,h2,hz,q⟩
theorem p9(T:Tx K mg):bg P w K mg base 4 "pairs_in_range" ["x_words","y_rows","z_rows"] (Mi K):=by
 refine bg.of ["row","words"] T.rE fun sc H Q E hr h=>?_
 obtain⟨ax,ay,az,xw,ys,zs,rfl,hx,⟨asy,hay,hly⟩,⟨asz,haz,hlz⟩,hsh,hxl,hxn,hyz,k⟩:=h;refine⟨_,(ab (aU (dF (cf (dZ (qC (K:=K)) (by rfl) T.BK boot_all (aa (dM (own:=[("row",3)]) rfl sc.nd (bT (K:=K) (aq jL (pv 1) (pv 2))) (aY (N:=["x_words","y_rows","z_rows","row","words"]) (sc:=aC eV) (by decide +kernel)) (fun _ _ _ _ _=>(gN 3 sc.nd)) (fun _ _ _ _ _=>(bE)) (fun _ _ _ _ _=>(aA (tq T) hr.m (aa (pv 3) ae)))) ae)))) (bu j8) aF) (bu (dZ (qC (K:=K)) (by rfl) T.BK boot_all (aa (dM (own:=[("words",4)]) rfl sc.nd (bT (K:=K) (pv 0)) (aY (N:=["x_words","y_rows","z_rows","row","words"]) (sc:=aC eV) (by decide +kernel)) (fun _ _ _ _ _=>(gN 4 sc.nd)) (fun _ _ _ _ _=>(bE)) (fun _ _ _ _ _=>(aA (p5 T) hr.m (aa (pv 4) ae)))) ae)))),?_⟩
 walk_at "rd";refine jI hay haz (by rw[length_map,length_map,hly.1,hlz.1];exact Nat.le_trans hyz (by decide)) fun p hp=>?_
 walk_at "rd";have s1:ai H (upd H p (.lst (asy.map V.ref++asz.map V.ref))):=ai.new hp;have hr1:Rows K (upd H p (.lst (asy.map V.ref++asz.map V.ref))) p (ys++zs):=⟨asy++asz,aL.of (by rw[af,map_append]),(LL.append hly hlz).same s1⟩
 generalize upd H p (.lst (asy.map V.ref++asz.map V.ref))=H1 at *;obtain⟨as1,ha1,hl1⟩:=id hr1;refine⟨⟨_,ha1⟩,fun D hD=>qi hD hr1 (by rw[length_append];lia) (fun l=>.bl (cz l)) (fun b l H5 Kt hl hb s5 hk=>?_) fun H5 h5 s5=>?_⟩
 ·walk_at "rd";exact t9 (aL.of hb) (hsh l hl) hk
 refine uX (bs:=(ys++zs).map cz) (aL.of (by rw[h5,map_map];rfl)) ?_
 rw[i8];unfold bH at k;walk_at "rd";refine aN (fun h1=>?_) fun h1=>?_
 ·rw[if_pos h1] at k;exact k H5 (s1.trans s5)
 ·rw[if_neg h1] at k;obtain⟨as2,ha2,hl2⟩:=id (hx.same (s1.trans s5));refine⟨⟨_,ha2⟩,fun D2 hD2=>qi hD2 (hx.same (s1.trans s5)) (by lia) (fun l=>.bl (l.all bC)) (fun b l H6 Kt hl hb s6 hk=>?_) fun H6 h6 s6=>?_⟩
  ·walk_at "rd";exact t9 (aL.of hb) (hxl l hl) hk
  refine uX (bs:=xw.map fun l=>l.all bC) (aL.of (by rw[h6,map_map];rfl)) ?_
  rw[i8];exact k H6 ((s1.trans s5).trans s6)
theorem mB{l:Addr}{n:Nat}{k:Int}{x:V}{H:Hp}{Q:VK}(h1:H l=some (.lst [x]))(e:k=(n:Int))(hn:n≤1000000)(q:∀ p,H p=none→Q (.ref p) (upd H p (.lst (List.replicate n x)))):MV (.ref l) (.int k) H Q:=by
 refine⟨l,k,[x],rfl,rfl,h1,by lia,by lia,?_,fun p hp=>?_⟩
 ·rw[length_cons,length_nil,e,Int.toNat_natCast];exact Nat.le_trans (by lia:(0+1)*n≤1000000) (by decide)
 ·have:(List.replicate k.toNat [x]).flatten=List.replicate n x:=by
   rw[e,Int.toNat_natCast];clear hn q e hp
   induction n with
   | zero=>rfl
   | succ n ih=>rw[replicate_succ,flatten_cons,ih,replicate_succ];rfl
  rw[this];exact q p hp
def N6:Sp:=fun vs H Q _=>∃ wd ht:Nat,vs=[.int (wd:Int),.int (ht:Int)]∧wd≤1000∧ht≤1000∧oI H (List.replicate ht (List.replicate wd 0)) Q
theorem As{α:Type}(n:Nat)(a:α):(List.range n).map (fun _=>a)=List.replicate n a:=by
 induction n with
 | zero=>rfl
 | succ n ih=>rw[range_succ,map_append,ih,map_cons,map_nil,List.replicate_succ']
theorem p4(T:Tx K mg):bg P w K mg base 1 "zero_rows" ["width","height"] N6:=by
 refine bg.of ["row"] T.Bc fun sc H Q E hr h=>?_
 obtain⟨wd,ht,rfl,hw,hh,k⟩:=h;refine⟨_,(bu (dM (own:=[("row",2)]) rfl sc.nd (gL rfl T.dW (aa (pv 1) ae)) (aY (N:=["width","height","row"]) (sc:=aC lX) (by decide +kernel)) (fun _ _ _ _ _=>(gN 2 sc.nd)) (fun _ _ _ _ _=>(bE)) (fun _ _ _ _ _=>(aq mL (aJ (aa aj ae)) (pv 0))))),?_⟩
 walk_at "rd";refine⟨by lia,by lia,fun D hD=>?_⟩
 rw[Int.toNat_natCast];refine re (fun _=>List.replicate wd 0) hD (sz (by lia)) (fun i H1 Kt hi hs hk=>?_) fun H' as n1 n2 n3 n4=>k D as H' n4 hD n1 n3 (by rw[As] at n2;exact n2)
 walk_at "rd";refine⟨by decide,fun p hp=>mB (n:=wd) af rfl (by lia) fun q hq=>hk q _ ((ai.new hp).trans (ai.new hq)) ((ai.new hp).free hq) ?_⟩
 rw[af];unfold iv;rw[map_replicate]
def Oc(l:List Int):Sp:=fun vs H Q _=>vs=[]∧jU H l Q
theorem oE(T:Tx K mg):bg P w K mg base 1 "zero_shape" [] (Oc (List.replicate 17 0)):=by
 refine bg.of [] T.zw fun sc H Q E hr h=>?_
 obtain⟨rfl,k⟩:=h;refine⟨_,(bu (aq mL (aJ (aa aj ae)) (am T.eT))),?_⟩;walk_at "rd";refine⟨by decide,fun p hp=>mB (n:=17) af rfl (by lia) fun q hq=>k q _ ((ai.new hp).trans (ai.new hq)) ((ai.new hp).free hq) ?_⟩
 rw[af];unfold iv;rw[map_replicate]
theorem rj(l:List Int)(i j:Nat){lo hi:Int}(h1:lo=(i:Int))(h2:hi=(j:Int)):wu (iv l) (some lo) (some hi)=iv ((l.drop i).take (j - i)):=by
 subst h1 h2;rw[wt];unfold iv;rw[←map_drop,←map_take]
theorem p8(T:Tx K mg):bg P w K mg base 1 "widths_in" ["shape"] (Ak K (fun _=>True) fun l=>(l.drop 1).take 8):=by
 refine bg.of [] T.Be fun sc H Q E hr h=>?_
 obtain⟨a,l,rfl,hl,_,k⟩:=h;refine⟨_,(bu (g9 (gX (K:=K)) (pv 0) (dE aj) (dE (aq bn aj (am T.ug))))),?_⟩;walk_at "rd";refine sy hl fun p hp=>k p _ (ai.new hp) hp ?_
 rw[af];exact congrArg (fun z=>some (HO.lst z)) (rj l 1 9 (lo:=1) (hi:=1+8) rfl rfl)
theorem oH(T:Tx K mg):bg P w K mg base 1 "heights_in" ["shape"] (Ak K (fun _=>True) fun l=>(l.drop 9).take 8):=by
 refine bg.of [] T.zG fun sc H Q E hr h=>?_
 obtain⟨a,l,rfl,hl,_,k⟩:=h;refine⟨_,(bu (g9 (gX (K:=K)) (pv 0) (dE (aq bn aj (am T.ug))) (dE (am T.eT)))),?_⟩;walk_at "rd";refine sy hl fun p hp=>k p _ (ai.new hp) hp ?_
 rw[af];exact congrArg (fun z=>some (HO.lst z)) (rj l 9 17 (lo:=1+8) (hi:=17) rfl rfl)
def qR(i j:Int):Bool:=decide (i≤64)&&(decide (j≤16)&&(decide (i=0)==decide (j=0)))
def gH(l:List Int):Bool:=decide (l.length=17)&&(decide (l.getD 0 0≤15)&&(((l.drop 1).take 8).zip ((l.drop 9).take 8)).all fun p=>qR p.1 p.2)
theorem B1(l r:List Int)(f:Int→Int→V):((List.range (min l.length r.length)).map fun i=>f (l.getD i 0) (r.getD i 0))=(l.zip r).map fun p=>f p.1 p.2:=by
 apply ext_getElem?;intro i
 by_cases h:i<min l.length r.length
 ·rw[getElem?_map,getElem?_range h,getElem?_map];have e:(l.zip r)[i]?=some (l.getD i 0,r.getD i 0):=by
   rw[getElem?_zip_eq_some,getD_eq_getElem?_getD,getD_eq_getElem?_getD,getElem?_eq_getElem (by lia),getElem?_eq_getElem (by lia)]
   exact⟨rfl,rfl⟩
  rw[e];rfl
 ·rw[getElem?_eq_none (by simpa using Nat.le_of_not_lt h),getElem?_eq_none (by rw[length_map,length_zip];lia)]
theorem sI(T:Tx K mg):bg P w K mg base 2 "is_shape" ["numbers"] (HI K (fun _=>True) fun l=>.bl (gH l)):=by
 refine bg.of ["width","height"] T.C3 fun sc H Q E hr h=>?_
 obtain⟨a,l,rfl,hl,_,k⟩:=h;refine⟨_,(ab (aU (PW.pt (g7 (gq il (tW K T.eB (aa (pv 0) ae)) (am T.eT)) (fJ (gq mM (xL K (pv 0) aj) (am T.rk))))) (bu j8) aF) (bu (dZ (qC (K:=K)) (by rfl) T.BK boot_all (aa (dM (own:=[("width",1),("height",2)]) rfl sc.nd (iu (K:=K) T.qG (aa (aA (p8 T) hr.m (aa (pv 0) ae)) (aa (aA (oH T) hr.m (aa (pv 0) ae)) ae))) (aY (N:=["numbers","width","height"]) (sc:=aC oO) (by decide +kernel)) (fun _ _ _ _ _=>(gc (K:=K) (n:=2) (bO (gN 1 sc.nd) (bO (gN 2 sc.nd) f9)))) (fun _ _ _ _ _=>(bE)) (fun _ _ _ _ _=>(aA (CG T) hr.m (aa (pv 1) (aa (pv 2) ae))))) ae)))),?_⟩
 walk_at "rd";refine cQ hl ?_
 rw[show (iv l).length=l.length from length_map _]
 unfold gH at k;dsimp only at k;walk_at "rd";refine aN (fun h1=>?_) fun h1=>?_
 ·rw[decide_eq_false (show ¬ l.length=17 by lia),Bool.false_and] at k
  exact k H ai.refl
 ·have h17:l.length=17:=by lia
  rw[decide_eq_true h17,Bool.true_and] at k;refine bj (j:=0) hl rfl (by lia) ?_
  walk_at "rd";refine aN (fun h2=>?_) fun h2=>?_
  ·rw[decide_eq_false (show ¬ l.getD 0 0≤15 by lia),Bool.false_and] at k
   exact k H ai.refl
  ·rw[decide_eq_true (show l.getD 0 0≤15 by lia),Bool.true_and] at k
   refine eZ hl trivial fun p1 H1 s1 n1 e1=>eZ (s1.seq hl) trivial fun p2 H2 s2 n2 e2=>?_
   walk_at "rd";refine⟨_,aL.of (s2 _ _ e1),_,aL.of e2,fun D hD=>?_⟩
   have el1:((l.drop 1).take 8).length=8:=by rw[length_take,length_drop];lia
   have el2:((l.drop 9).take 8).length=8:=by rw[length_take,length_drop];lia
   refine qj (n:=min ((l.drop 1).take 8).length ((l.drop 9).take 8).length) (fun i=>.bl (qR (((l.drop 1).take 8).getD i 0) (((l.drop 9).take 8).getD i 0))) hD (aL.of (s2 _ _ e1)) (aL.of e2) (by rw[length_map,length_map]) (sz (by lia)) (fun i x y H3 Kt hi hj hs hk=>?_) fun H3 h3 s3=>?_
   ·obtain⟨n,hn,rfl⟩:=fq hi;obtain⟨m,hm,rfl⟩:=fq hj;rw[gW hn,gW hm] at hk;walk_at "rd";exact hk _ ai.refl
   ·rw[B1 _ _ fun i j=>.bl (qR i j)] at h3
    refine uX (bs:=(((l.drop 1).take 8).zip ((l.drop 9).take 8)).map fun p=>qR p.1 p.2) (aL.of (by rw[h3,map_map];rfl)) ?_
    rw[i8];exact k H3 ((s1.trans s2).trans s3)
abbrev ul(a:Addr)(H H':Hp):Prop:=xD a H H'
def rF(n a:V):List (Str×V):=[("numbers",n),("at",a)]
theorem MW(n a:V):be "at" a (be "numbers" n [])=rF n a:=rfl
theorem Gf(n a b:V):be "at" b (rF n a)=rF n b:=rfl
def zZ(C:Addr)(H:Hp)(r a:Addr)(pos:Nat):Prop:=∃ dx,H r=some (.ins C dx (rF (.ref a) (.int (pos:Int))))
def Dx(C:Addr):Sp:=fun vs H Q _=>∃ x dx a,vs=[.ref x,.ref a]∧H x=some (.ins C dx [])∧∀ H',zZ C H' x a 0→ul x H H'→Q .non H'
theorem wL(T:Tx K mg):qL P w K mg base 1 "Reader" T.da ["self","numbers"] (Dx T.da):=by
 refine qL.of [] T.zA T.GJ fun sc H Q E hr h=>?_
 obtain⟨x,dx,a,rfl,hx,k⟩:=h;refine⟨_,(ab (aV (T.aG) (T.fc) (pv 0) (pv 1)) (aB (aV (T.aG) (T.eS) (pv 0) aj))),?_⟩;walk_at "rd";refine bv hx (by decide) (bv af (by show 1<1000;decide) (k _ ⟨dx,?_⟩ fun b o e nb=>?_))
 ·rw[af,MW];rfl
 ·rw[ao nb,ao nb];exact e
def Kl(K:PySem.W.Frag)(C:Addr):Sp:=fun vs H Q _=>∃ r a,∃ (ns:List Int) (pos:Nat),vs=[.ref r]∧zZ C H r a pos∧aL K H a (iv ns)∧Q (.bl (decide (pos<ns.length))) H
theorem oS(T:Tx K mg):de P w K mg base 1 T.da "has_more" ["self"] (Kl K T.da):=by
 refine de.of [] T.qx fun sc H Q E hr h=>?_
 obtain⟨r,a,ns,pos,rfl,⟨dx,hr1⟩,hs,k⟩:=h;refine⟨_,(bu (tU kb (ah (T.aG) (T.eS) (pv 0)) (tW K T.eB (aa (ah (T.aG) (T.fc) (pv 0)) ae)))),?_⟩;walk_at "rd";refine ag hr1 rfl (ag hr1 rfl (cQ hs ?_));walk_at "rd";rw[show (iv ns).length=ns.length from length_map _]
 have e:decide ((pos:Int)<(ns.length:Int))=decide (pos<ns.length):=decide_eq_decide.2 (by lia)
 rw[e];exact k
def Jy(K:PySem.W.Frag)(C:Addr):Sp:=fun vs H Q _=>∃ r a,∃ (ns:List Int) (pos:Nat),vs=[.ref r]∧zZ C H r a pos∧aL K H a (iv ns)∧pos<ns.length∧∀ H',zZ C H' r a (pos+1)→ul r H H'→Q (.int (ns.getD pos 0)) H'
theorem uV(h:H a=some (.ins C dx fs))(hl:fs.lookup f=some (.int i))(q:te fun y H2=>∃ j dx' fs',y=.int j∧H2 a=some (.ins C dx' fs')∧fs'.length<1000∧Q (upd H2 a (.ins C dx' (be f (.int (i+j)) fs')))):NE C f (.ref a) H te Q:=⟨a,dx,fs,i,rfl,h,hl,q⟩
theorem aE(T:Tx K mg):de P w K mg base 1 T.da "take_number" ["self"] (Jy K T.da):=by
 refine de.of ["number"] T.m7 fun sc H Q E hr h=>?_
 obtain⟨r,a,ns,pos,rfl,⟨dx,hr1⟩,hs,hpos,k⟩:=h;refine⟨_,(ab (sS 1 sc.nd (xL K (ah (T.aG) (T.fc) (pv 0)) (ah (T.aG) (T.eS) (pv 0)))) (ab (mJ (T.aG) (T.eS) (pv 0) aj) (bu (pv 1)))),?_⟩;walk_at "rd";refine ag hr1 rfl (ag hr1 rfl (bj (j:=pos) hs rfl hpos (uV hr1 rfl ?_)));walk_at "rd";refine⟨dx,_,hr1,by show 2<1000;decide,k _ ⟨dx,?_⟩ fun b o e nb=>?_⟩
 ·rw[af,Gf];rfl
 ·rw[ao nb];exact e
def Jx(K:PySem.W.Frag)(C:Addr):Sp:=fun vs H Q _=>∃ r a,∃ (ns:List Int) (pos n:Nat),vs=[.ref r]∧zZ C H r a pos∧aL K H a (iv ns)∧pos<ns.length∧ns.getD pos 0=(n:Int) ∧
 ∀ H' p,zZ C H' r a (pos+1+n)→ul r H H'→H p=none→H' p=some (.lst (iv ((ns.drop (pos+1)).take n)))→Q (.ref p) H'
theorem ul.seq(hr:H r=some (.ins C dx fs))(b:ul r H H')(h:aL K H a xs):aL K H' a xs:=by
 rcases h with (h | ⟨o,h⟩) | h
 ·exact .inl (.inl (b _ _ h (mT h hr (fun z=>nomatch z))))
 ·exact .inl (.inr ⟨o,b _ _ h (mT h hr (fun z=>nomatch z))⟩)
 ·exact .inr h
theorem aW(T:Tx K mg):de P w K mg base 2 T.da "take_row" ["self"] (Jx K T.da):=by
 refine de.of ["length","row"] T.qw fun sc H Q E hr h=>?_
 obtain⟨r,a,ns,pos,n,rfl,⟨dx,hr1⟩,hs,hpos,hn,k⟩:=h;refine⟨_,(ab (sS 1 sc.nd (aO (T.aG) (aE T) hr.m (pv 0))) (ab (sS 2 sc.nd (g9 (gX (K:=K)) (ah (T.aG) (T.fc) (pv 0)) (dE (ah (T.aG) (T.eS) (pv 0))) (dE (aq bn (ah (T.aG) (T.eS) (pv 0)) (pv 1))))) (ab (mJ (T.aG) (T.eS) (pv 0) (pv 1)) (bu (pv 2))))),?_⟩;walk_at "rd";refine aT hr1 rfl ⟨r,a,ns,pos,rfl,⟨dx,hr1⟩,hs,hpos,fun H1 ⟨dx1,hr2⟩ b1=>?_⟩
 have hs1:aL K H1 a (iv ns):=ul.seq hr1 b1 hs;walk_at "rd";refine ag hr2 rfl (ag hr2 rfl ⟨_,rfl,ag hr2 rfl ?_⟩);walk_at "rd";refine sy hs1 fun p hp=>?_
 have np:p≠r:=fun z=>by rw[z,hr2] at hp;cases hp
 have hr3:(upd H1 p (.lst (wu (iv ns) (some ((pos+1:Nat):Int)) (some (((pos+1:Nat):Int)+ns.getD pos 0))))) r=some (.ins T.da dx1 (rF (.ref a) (.int ((pos+1:Nat):Int)))):=by rw[ao np.symm];exact hr2
 refine uV hr3 rfl ?_
 walk_at "rd";refine⟨dx1,_,hr3,by show 2<1000;decide,k _ p ⟨dx1,?_⟩ (fun b o e nb=>?_) ?_ ?_⟩
 ·rw[af,Gf,hn];rfl
 ·rw[ao nb,ao (au (b1 _ _ e nb) hp)];exact b1 _ _ e nb
 ·cases e:H p with
  | none=>rfl
  | some o=>rw[b1 _ _ e np] at hp;cases hp
 ·rw[ao np,af,hn]
  have:=rj ns (pos+1) (pos+1+n) (lo:=((pos+1:Nat):Int)) (hi:=((pos+1:Nat):Int)+(n:Int)) rfl (by lia)
  rw[this,show pos+1+n - (pos+1)=n by lia]
def gF(c p:V):List (Str×V):=[("cells",c),("pages",p)]
theorem Nc(c p:V):be "pages" p (be "cells" c [])=gF c p:=rfl
def Do(C:Addr)(H:Hp)(g c pg:Addr):Prop:=∃ dx,H g=some (.ins C dx (gF (.ref c) (.ref pg)))
def DB(C:Addr):Sp:=fun vs H Q _=>∃ x dx,vs=[.ref x]∧H x=some (.ins C dx [])∧∀ H' c pg,Do C H' x c pg→H c=none→H pg=none→c≠pg→H' c=some (.lst (iv (List.replicate 16384 0)))→H' pg=some (.lst (iv (List.replicate 16 2)))→ul x H H'→Q .non H'
theorem wM(T:Tx K mg):qL P w K mg base 1 "Ground" T.cK ["self"] (DB T.cK):=by
 refine qL.of [] T.zC T.GL fun sc H Q E hr h=>?_
 obtain⟨x,dx,rfl,hx,k⟩:=h;refine⟨_,(ab (aV (T.eI) (T.iX) (pv 0) (aq mL (aJ (aa aj ae)) (am T.jS))) (aB (aV (T.eI) (T.iW) (pv 0) (aq mL (aJ (aa (am T.o8) ae)) (am T.D7))))),?_⟩;walk_at "rd";refine⟨by decide,fun p1 hp1=>mB (n:=16384) af rfl (by decide) fun c hc=>?_⟩
 have s1:ai H (upd (upd H p1 (.lst [V.int 0])) c (.lst (List.replicate 16384 (V.int 0)))):=(ai.new hp1).trans (ai.new hc);have hcH:H c=none:=(ai.new hp1).free hc;have e1:(upd (upd H p1 (.lst [V.int 0])) c (.lst (List.replicate 16384 (V.int 0)))) c=some (.lst (List.replicate 16384 (V.int 0))):=af;generalize upd (upd H p1 (.lst [V.int 0])) c (.lst (List.replicate 16384 (V.int 0)))=H1 at *;have ncx:c≠x:=fun z=>by rw[z,hx] at hcH;cases hcH
 refine bv (s1 _ _ hx) (by decide) ⟨by decide,fun p2 hp2=>mB (n:=16) af rfl (by decide) fun pg hpg=>?_⟩
 have b2:ul x H1 (upd H1 x (.ins T.cK dx (be "cells" (.ref c) []))):=fun b o e nb=>by rw[ao nb];exact e
 have hx2:(upd H1 x (.ins T.cK dx (be "cells" (.ref c) []))) x=some (.ins T.cK dx (be "cells" (.ref c) [])):=af;generalize upd H1 x (.ins T.cK dx (be "cells" (.ref c) []))=H2 at *;have s3:ai H2 (upd (upd H2 p2 (.lst [V.int 2])) pg (.lst (List.replicate 16 (V.int 2)))):=(ai.new hp2).trans (ai.new hpg);have hpgH:H2 pg=none:=(ai.new hp2).free hpg;have e3:(upd (upd H2 p2 (.lst [V.int 2])) pg (.lst (List.replicate 16 (V.int 2)))) pg=some (.lst (List.replicate 16 (V.int 2))):=af;generalize upd (upd H2 p2 (.lst [V.int 2])) pg (.lst (List.replicate 16 (V.int 2)))=H3 at *;have npx:pg≠x:=fun z=>by rw[z,hx2] at hpgH;cases hpgH
 have hpg0:H pg=none:=by
  cases e:H pg with
  | none=>rfl
  | some o=>rw[b2 _ _ (s1 _ _ e) npx] at hpgH;cases hpgH
 have ncp:c≠pg:=fun z=>by rw[←z,b2 _ _ e1 ncx] at hpgH;cases hpgH
 refine bv (s3 _ _ hx2) (by show 1<1000;decide) (k _ c pg ⟨dx,?_⟩ hcH hpg0 ncp ?_ ?_ fun b o e nb=>?_)
 ·rw[af,Nc]
 ·rw[ao ncx,s3 _ _ (b2 _ _ e1 ncx)];unfold iv;rw[map_replicate]
 ·rw[ao npx,e3];unfold iv;rw[map_replicate]
 ·rw[ao nb];exact s3 _ _ (b2 _ _ (s1 _ _ e) nb)
def Ki(C:Addr):Sp:=fun vs H Q _=>∃ g c pg,∃ (cs:List Int) (place n:Nat),vs=[.ref g,.int (place:Int),.int (n:Int)]∧Do C H g c pg∧H c=some (.lst (iv cs))∧jU H ((cs.drop place).take n) Q
theorem iS(T:Tx K mg):de P w K mg base 1 T.cK "read" ["self","place","length"] (Ki T.cK):=by
 refine de.of [] T.xB fun sc H Q E hr h=>?_
 obtain⟨g,c,pg,cs,place,n,rfl,⟨dx,hg⟩,hc,k⟩:=h;refine⟨_,(bu (g9 (gX (K:=K)) (ah (T.eI) (T.iX) (pv 0)) (dE (pv 1)) (dE (aq bn (pv 1) (pv 2))))),?_⟩;walk_at "rd";refine ag hg rfl (sy (aL.of hc) fun p hp=>k p _ (ai.new hp) hp ?_)
 rw[af,rj cs place (place+n) (lo:=(place:Int)) (hi:=(place:Int)+(n:Int)) rfl (by lia),show place+n - place=n by lia]
def nJ(cs:List Int)(place:Nat)(ds:List Int):List Int:=ds.zipIdx.foldl (fun l p=>l.set (place+p.2) p.1) cs
theorem Av(place:Nat)(ds:List Int):∀ (k:Nat) (cs:List Int),((ds.zipIdx k).foldl (fun l p=>l.set (place+p.2) p.1) cs).length=cs.length:=by
 induction ds with
 | nil=>intro k cs;rfl
 | cons d ds ih=>intro k cs;rw[zipIdx_cons,foldl_cons,ih,length_set]
theorem yQ(cs:List Int)(place:Nat)(ds:List Int)(d:Int):nJ cs place (ds++[d])=(nJ cs place ds).set (place+ds.length) d:=by
 unfold nJ;rw[List.zipIdx_append,foldl_append]
 simp
def HB(K:PySem.W.Frag)(C:Addr):Sp:=fun vs H Q _=>∃ g c pg d,∃ (cs ds:List Int) (place:Nat),vs=[.ref g,.int (place:Int),.ref d]∧Do C H g c pg∧H c=some (.lst (iv cs))∧aL K H d (iv ds)∧d≠c∧place+ds.length≤cs.length ∧
 ∀ H',H' c=some (.lst (iv (nJ cs place ds)))→xD c H H'→Q .non H'
theorem xD.seq{c a:Addr}{H H':Hp}{xs:List V}(b:xD c H H')(n:a≠c)(h:aL K H a xs):aL K H' a xs:=by
 rcases h with (h | ⟨o,h⟩) | h
 ·exact .inl (.inl (b _ _ h n))
 ·exact .inl (.inr ⟨o,b _ _ h n⟩)
 ·exact .inr h
theorem jH{p:Addr}{xs:List V}{k:Int}{j:Nat}{v:V}{H:Hp}{Q:Hp→Prop}(h:H p=some (.lst xs))(e:k=(j:Int))(hj:j<xs.length)(q:Q (upd H p (.lst (xs.set j v)))):Au (.ref p) (.int k) v H Q:=by
 refine⟨p,xs,k,j,rfl,rfl,h,?_,q⟩;unfold JR;rw[if_pos (by lia),if_pos (by lia),e,Int.toNat_natCast]
theorem ls(T:Tx K mg):de P w K mg base 1 T.cK "write" ["self","place","data"] (HB K T.cK):=by
 refine de.of ["offset","value"] T.wo fun sc H Q E hr h=>?_
 obtain⟨g,c,pg,d,cs,ds,place,rfl,⟨dx,hg⟩,hc,hd,ndc,hlen,k⟩:=h;refine⟨_,(aB (dS PassesOwn.never rfl (Ay (K:=K) T.sX (aa (pv 2) ae)) (gc (K:=K) (n:=2) (bO (gN 3 sc.nd) (bO (gN 4 sc.nd) f9))) (aB (fK (pv 4) (fL (ah (T.eI) (T.iX) (pv 0)) (aq bn (pv 1) (pv 3)) cW))))),?_⟩;walk_at "rd";refine⟨_,hd,?_⟩;have ngc:g≠c:=mT hg hc (fun z=>nomatch z)
 refine Nf (xs:=iv ds) (fun i σ H'=>∃ v3 v4:Option V,σ=[some (.ref g),some (.int (place:Int)),some (.ref d),v3,v4]∧H' c=some (.lst (iv (nJ cs place (ds.take i))))∧xD c H H') ⟨none,none,rfl,hc,fun _ _ e _=>e⟩ (fun i σ H' ⟨_,_,_,_,x⟩=>xD.seq x ndc hd) ?_ ?_
 ·rintro i x σ H1 H2 hi ⟨v3,v4,rfl,h1,x1⟩ s2
  obtain⟨n,hn,rfl⟩:=fq hi;have hi':i<ds.length:=(List.getElem?_eq_some_iff.mp hn).1;walk_at "rd";refine ag (s2 _ _ (x1 _ _ hg ngc)) rfl (jH (j:=place+i) (s2 _ _ h1) (by lia) ?_ ⟨?_,fun b o e nb=>?_⟩)
  ·rw[length_map];unfold nJ;rw[Av];lia
  ·rw[af,iC hn,yQ,length_take,Nat.min_eq_left (by lia)]
   unfold iv;rw[map_set]
  ·rw[ao nb];exact s2 _ _ (x1 _ _ e nb)
 ·rintro σ H' ⟨v3,v4,rfl,h1,x1⟩
  rw[length_map,take_length] at h1;exact k H' h1 x1
theorem Nd{k:Nat}{tb:TS}{D:om}(Pv:Nat→L2.St→Hp→Prop)(h0:Pv 0 σ H1)(hx:∀ i σ H,Pv i σ H→lP K H a xs)
  (turn:∀ i x σ H,xs[i]?=some x→Pv i σ H→tb { D with nx:=Pv (i+1),ct:=Pv (i+1),bk:=D.nx } (σ.set k (some x)) H) (dO:∀ σ H,Pv xs.length σ H→D.nx σ H):Dp (LH K a) (db k) tb D σ H1 :=
 IN (K:=K) (a:=a) (xs:=xs) Pv h0 (fun i σ H _ h=>hx i σ H h) turn dO
def j7(ps:List Int)(lo up:Nat)(want:Int):V:=if ps.getD lo 0<want then .int (lo:Int) else if ps.getD up 0<want then .int (up:Int) else .non
def FZ(C:Addr):Sp:=fun vs H Q _=>∃ g c pg,∃ (ps:List Int) (place n:Nat) (want:Int),vs=[.ref g,.int (place:Int),.int (n:Int),.int want]∧Do C H g c pg∧H pg=some (.lst (iv ps))∧ps.length=16∧1≤n∧place+n≤16384∧nv H (j7 ps (place / 1024) ((place+n - 1) / 1024) want) Q
def Oa:Sp:=fun vs H Q _=>∃ place n:Nat,vs=[.int (place:Int),.int (n:Int)]∧1≤n∧∀ p H',ai H H'→H' p=some (.tup (iv [((place / 1024:Nat):Int),(((place+n - 1) / 1024:Nat):Int)]))→Q (.ref p) H'
theorem li(T:Tx K mg):bg P w K mg base 1 "pages_of_row" ["place","length"] Oa:=by
 refine bg.of [] T.vX fun sc H Q E hr h=>?_
 obtain⟨place,n,rfl,hn,k⟩:=h;refine⟨_,(bu (jJ (aa (aq gd (pv 0) (am T.sR)) (aa (aq gd (aq ig (aq bn (pv 0) (pv 1)) aj) (am T.sR)) ae)))),?_⟩;walk_at "rd";have e1:(place:Int) / 1024=((place / 1024:Nat):Int):=by lia
 have e2:((place:Int)+(n:Int) - 1) / 1024=(((place+n - 1) / 1024:Nat):Int):=by lia
 rw[e1,e2];refine⟨⟨by decide,by decide⟩,⟨by decide,by decide⟩,by decide,fun tp htp=>k tp _ (ai.new htp) af⟩
theorem kL(T:Tx K mg):de P w K mg base 2 T.cK "first_closed" ["self","place","length","wanted"] (FZ T.cK):=by
 refine de.of ["page"] T.lL fun sc H Q E hr h=>?_
 obtain⟨g,c,pg,ps,place,n,want,rfl,⟨dx,hg⟩,hp,h16,hn,hpl,k⟩:=h;refine⟨_,(ab (dS PassesOwn.never rfl (yT (K:=K) (aA (li T) hr.m (aa (pv 1) (aa (pv 2) ae)))) (gN 4 sc.nd) (aB (aU (gq kb (xL K (ah (T.eI) (T.iW) (pv 0)) (pv 4)) (pv 3)) (bu (pv 4)) aF))) (bu cH)),?_⟩;walk_at "rd";refine⟨place,n,rfl,hn,fun tp H1 s1 et0=>?_⟩
 have et:lP K H1 tp (iv [((place / 1024:Nat):Int),(((place+n - 1) / 1024:Nat):Int)]):=lP.of et0;have l1:place / 1024<16:=by lia
 have l2:(place+n - 1) / 1024<16:=by lia
 generalize place / 1024=lo at *;generalize (place+n - 1) / 1024=up at *;refine⟨tp,rfl,⟨_,et⟩,?_⟩;refine Nd (xs:=iv [(lo:Int),(up:Int)]) (fun i σ H'=>∃ v6:Option V,σ=[some (.ref g),some (.int (place:Int)),some (.int (n:Int)),some (.int want),v6]∧H'=H1∧(1≤i→¬ ps.getD lo 0<want)∧(2≤i→¬ ps.getD up 0<want)) ⟨none,rfl,rfl,fun z=>absurd z (by decide),fun z=>absurd z (by decide)⟩ (fun i σ H' ⟨_,_,e,_⟩=>by rw[e];exact et) ?_ ?_
 ·rintro i x σ H' hi ⟨v6,rfl,rfl,c1,c2⟩
  match i,hi with
  | 0,hi =>
   have ex:x=.int (lo:Int):=(Option.some.inj hi).symm;subst ex;walk_at "rd";refine ag (s1 _ _ hg) rfl (bj (j:=lo) (aL.of (s1 _ _ hp)) rfl (by lia) ?_)
   walk_at "rd";refine aN (fun h1=>?_) fun h1=>?_
   ·unfold j7 at k;rw[if_pos h1] at k;exact k _ s1
   ·exact⟨fun _=>h1,fun z=>absurd z (by decide)⟩
  | 1,hi =>
   have ex:x=.int (up:Int):=(Option.some.inj hi).symm;subst ex;walk_at "rd";refine ag (s1 _ _ hg) rfl (bj (j:=up) (aL.of (s1 _ _ hp)) rfl (by lia) ?_)
   walk_at "rd";refine aN (fun h1=>?_) fun h1=>?_
   ·unfold j7 at k;rw[if_neg (c1 (by decide)),if_pos h1] at k;exact k _ s1
   ·exact⟨fun _=>c1 (by decide),fun _=>h1⟩
  | i+2,hi=>simp at hi
 ·rintro σ H' ⟨v6,rfl,rfl,c1,c2⟩
  walk_at "rd";unfold j7 at k;rw[if_neg (c1 (show 1≤2 by decide)),if_neg (c2 (show 2≤2 by decide))] at k
  exact k _ s1
def dc(T:Tx K mg)(d:Bool)(r:Ro)(H:Hp)(p:Addr)(pr:Qw.Program)(at_ paid:Nat)(nums:List Nat)(en:Option (List Nat)):Prop :=
 ∃ dx st sh nb ev,H p=some (.ins T.aS dx (pF (.ref st) (.ref sh) (.int (at_:Int)) (.ref nb) (.int (paid:Int)) ev))∧r p=rl d 4∧nV T.dP r H st pr.steps.toList∧ko r H sh pr.shapes ∧
  H nb=some (.lst (iv (QM.nI nums)))∧r nb=rl d 5∧qJ r H ev en
theorem dc.fr(h:dc T d r H p pr at_ paid nums en)(f:Fr S r H r' H')(n0:¬ S 0)(n4:¬ S (rl d 4))(n5:¬ S (rl d 5)):dc T d r' H' p pr at_ paid nums en:=by
 obtain⟨dx,st,sh,nb,ev,h1,h2,h3,h4,h5,h6,h7⟩:=h;obtain⟨k1,k2⟩:=f.keep h1 h2 n4;obtain⟨k5,k6⟩:=f.keep h5 h6 n5
 exact⟨dx,st,sh,nb,ev,k1,k2,h3.fr f n0,h4.fr f n0,k5,k6,h7.fr f n0⟩
def i9(d:Bool)(r:Ro)(H:Hp)(x:Addr)(i:Nat)(rows:List (List Int)):Prop:=∃ as:List Addr,H x=some (.lst (as.map V.ref))∧r x=rl d (8+i)∧LL H as rows∧∀ a∈as,r a=0
theorem i9.fr(h:i9 d r H x i rows)(f:Fr S r H r' H')(n0:¬ S 0)(n:¬ S (rl d (8+i))):i9 d r' H' x i rows:=by
 obtain⟨as,h1,h2,h3,h4⟩:=h;obtain⟨k1,k2⟩:=f.keep h1 h2 n;obtain⟨k3,k4⟩:=LL.fr h3 h4 f n0
 exact⟨as,k1,k2,k3,k4⟩
def jh(T:Tx K mg)(d:Bool)(r:Ro)(H:Hp)(t:Addr)(sh:Qw.Shape)(RR:Nat→List (List Int)):Prop :=
 ∃ dx ws hs rw,∃ ts:List Addr,H t=some (.ins (T.dY d) dx (tF (.int (sh.start:Int)) (.ref ws) (.ref hs) (.ref rw)))∧r t=rl d 6∧(H ws=some (.lst (iv (QM.nI sh.widths)))∧r ws=0)∧(H hs=some (.lst (iv (QM.nI sh.heights)))∧r hs=0) ∧
  (H rw=some (.lst (ts.map V.ref))∧r rw=rl d 7)∧ts.length=8∧∀ i x,ts[i]?=some x→i9 d r H x i (RR i)
theorem jh.fr(h:jh T d r H t sh RR)(f:Fr S r H r' H')(n0:¬ S 0)(n:∀ k,6≤k→k<16→¬ S (rl d k)):jh T d r' H' t sh RR:=by
 obtain⟨dx,ws,hs,rw,ts,h1,h2,⟨h3,h3'⟩,⟨h4,h4'⟩,⟨h5,h5'⟩,h6,h7⟩:=h;obtain⟨k1,k2⟩:=f.keep h1 h2 (n 6 (by decide) (by decide))
 refine⟨dx,ws,hs,rw,ts,k1,k2,f.keep h3 h3' n0,f.keep h4 h4' n0,f.keep h5 h5' (n 7 (by decide) (by decide)),h6,fun i x e=>?_⟩
 have hi:i<8:=by rw[←h6];exact (List.getElem?_eq_some_iff.mp e).1
 exact (h7 i x e).fr f n0 (n (8+i) (by lia) (by lia))
def lQ(T:Tx K mg)(d:Bool)(r:Ro)(H:Hp)(g:Addr)(ground:Array Nat)(pages:List Nat)(ta:Qw.Tally):Prop:=match d with
 | false=>∃ dx c pg,H g=some (.ins T.cK dx (gF (.ref c) (.ref pg)))∧r g=rl false 1∧(H c=some (.lst (iv (QM.nI ground.toList)))∧r c=rl false 2)∧(H pg=some (.lst (iv (QM.nI pages)))∧r pg=rl false 3)
 | true=>∃ dx,H g=some (.ins T.aZ dx (fF (.int (ta.rows:Int)) (.int (Qw.bitsOf ta.read:Int)) (.int (Qw.bitsOf ta.written:Int))))∧r g=rl true 1∧ta.read.Nodup∧ta.written.Nodup
theorem lQ.fr(h:lQ T d r H g ground pages ta)(f:Fr S r H r' H')(n:∀ k,1≤k→k<4→¬ S (rl d k)):lQ T d r' H' g ground pages ta:=by
 cases d with
 | false =>
  obtain⟨dx,c,pg,h1,h2,⟨h3,h3'⟩,⟨h4,h4'⟩⟩:=h;obtain⟨k1,k2⟩:=f.keep h1 h2 (n 1 (by decide) (by decide))
  exact⟨dx,c,pg,k1,k2,f.keep h3 h3' (n 2 (by decide) (by decide)),f.keep h4 h4' (n 3 (by decide) (by decide))⟩
 | true =>
  obtain⟨dx,h1,h2,h3⟩:=h;obtain⟨k1,k2⟩:=f.keep h1 h2 (n 1 (by decide) (by decide))
  exact⟨dx,k1,k2,h3⟩
theorem upd_upd:upd (upd H a o) a o'=upd H a o':=by
 funext b
 by_cases h:b=a
 ·rw[h,af,af]
 ·rw[ao h,ao h,ao h]
def Nu(C:Addr)(fs:List (Str×V))(H:Hp)(Q:VK):Prop:=∀ x dx H2,H x=none→ai H H2→H2 x=some (.ins C dx fs)→Q (.ref x) H2
theorem On(h:Nu C fs H Q)(h1:H x=none)(h2:H dx=none)(h3:dx≠x):Q (.ref x) (upd (upd (upd H dx (.own x)) x (.ins C dx [])) x (.ins C dx fs)):=by
 refine h x dx _ h1 (fun b o e=>?_) af
 rw[ao (au e h1),ao (au e h1),ao (au e h2)];exact e
def Km(C:Addr)(f:V→V→V→V→V→List (Str×V)):Sp:=fun vs H Q _=>∃ x dx a b c d e,vs=[.ref x,a,b,c,d,e]∧H x=some (.ins C dx [])∧Q .non (upd H x (.ins C dx (f a b c d e)))
theorem MP(h:Nu C (f a b c d e) H Q):∀ x dx,H x=none→H dx=none→dx≠x→Km C f [.ref x,a,b,c,d,e] (upd (upd H dx (.own x)) x (.ins C dx [])) (fun v H2=>v=.non∧Q (.ref x) H2) E :=
 fun x dx h1 h2 h3=>⟨x,dx,a,b,c,d,e,rfl,af,rfl,On h h1 h2 h3⟩
theorem cT(T:Tx K mg):qL P w K mg base 1 "Step" T.dP ["self","kind","x","y","z","v"] (Km T.dP sF):=by
 refine qL.of [] T.C1 T.K9 fun sc H Q E hr h=>?_
 obtain⟨x,dx,a,b,c,d,e,rfl,hx,k⟩:=h;refine⟨_,(ab (aV (T.aD) (T.bf) (pv 0) (pv 1)) (ab (aV (T.aD) (T.cu) (pv 0) (pv 2)) (ab (aV (T.aD) (T.iV) (pv 0) (pv 3)) (ab (aV (T.aD) (T.kh) (pv 0) (pv 4)) (aB (aV (T.aD) (T.gk) (pv 0) (pv 5))))))),?_⟩;walk_at "rd";refine bv hx (by show 0<1000;decide) (bv af (by show 1<1000;decide) (bv af (by show 2<1000;decide) (bv af (by show 3<1000;decide) (bv af (by show 4<1000;decide) ?_))))
 simp only[upd_upd];exact k
def Kg(C:Addr)(g:Qw.Step→V):Sp:=fun vs H Q _=>∃ a s,vs=[.ref a]∧dX C H a s∧Q (g s) H
instance(s:Qw.Step):Decidable (bV s):=by unfold bV;infer_instance
instance(s:Qw.Step):Decidable (aH s):=by unfold aH;infer_instance
theorem vq(T:Tx K mg):de P w K mg base 1 T.dP "is_dot" ["self"] (Kg T.dP fun s=>.bl (decide (bV s))):=by
 refine de.of [] T.xA fun sc H Q E hr h=>?_
 obtain⟨a,s,rfl,⟨dx,ha⟩,k⟩:=h;refine⟨_,(bu (iN gz gz (am T.mZ) (ah (T.aD) (T.bf) (pv 0)) (am T.CT))),?_⟩;walk_at "rd";refine ag ha rfl ?_
 walk_at "rd";dsimp only at k;refine aN (fun h1=>?_) fun h1=>?_
 ·rw[show decide ((s.kind:Int)≤10)=decide (bV s) from decide_eq_decide.2 (by unfold bV;lia)];exact k
 ·rw[show false=decide (bV s) from (decide_eq_false (by unfold bV;lia)).symm];exact k
theorem ke(T:Tx K mg):de P w K mg base 1 T.dP "dot_kind" ["self"] (Kg T.dP fun s=>.int ((s.kind:Int) - 6)):=by
 refine de.of [] T.tS fun sc H Q E hr h=>?_
 obtain⟨a,s,rfl,⟨dx,ha⟩,k⟩:=h;refine⟨_,(bu (aq ig (ah (T.aD) (T.bf) (pv 0)) (am T.mZ))),?_⟩;walk_at "rd";refine ag ha rfl ?_
 walk_at "rd";exact k
theorem lq(T:Tx K mg):de P w K mg base 1 T.dP "is_move" ["self"] (Kg T.dP fun s=>.bl (decide (aH s))):=by
 refine de.of [] T.wk fun sc H Q E hr h=>?_
 obtain⟨a,s,rfl,⟨dx,ha⟩,k⟩:=h;refine⟨_,(bu (DN (tU cI (ah (T.aD) (T.bf) (pv 0)) (am T.zq)) (jK (tU cI (ah (T.aD) (T.bf) (pv 0)) (am T.zn))))),?_⟩;walk_at "rd";refine ag ha rfl ?_
 walk_at "rd";dsimp only at k;refine aN (fun h1=>?_) fun h1=>?_
 ·rw[show true=decide (aH s) from (decide_eq_true (by unfold aH;lia)).symm];exact k
 ·refine ag ha rfl ?_
  walk_at "rd";rw[show decide ((s.kind:Int)=5)=decide (aH s) from decide_eq_decide.2 (by unfold aH;lia)];exact k
section
variable(a b c d e f:V)
theorem KY(v:V):be "at" v (pF a b c d e f)=pF a b v d e f:=rfl
theorem Gu(v:V):be "paid" v (pF a b c d e f)=pF a b c d v f:=rfl
theorem Im(v:V):be "ended" v (pF a b c d e f)=pF a b c d e v:=rfl
end
theorem kN(n:Nat)(z:Int):(List.replicate n (V.int z))=iv (List.replicate n z):=by unfold iv;rw[map_replicate]
theorem vE(n z:Nat):QM.nI (List.replicate n z)=List.replicate n (z:Int):=by unfold QM.nI;rw[map_replicate]
def Dz(C:Addr):Sp:=fun vs H Q _=>∃ x dx a b,vs=[.ref x,a,b]∧H x=some (.ins C dx [])∧∀ H' nb,H nb=none→nb≠x→H' nb=some (.lst (iv (List.replicate 8 0)))→H' x=some (.ins C dx (pF a b (.int 0) (.ref nb) (.int 0) .non))→ul x H H'→Q .non H'
theorem iQ(T:Tx K mg):qL P w K mg base 1 "Program" T.aS ["self","steps","shapes"] (Dz T.aS):=by
 refine qL.of [] T.xh T.E1 fun sc H Q E hr h=>?_
 obtain⟨x,dx,a,b,rfl,hx,k⟩:=h;refine⟨_,(ab (aV (T.ap) (T.di) (pv 0) (pv 1)) (ab (aV (T.ap) (T.dI) (pv 0) (pv 2)) (ab (aV (T.ap) (T.cC) (pv 0) aj) (ab (aV (T.ap) (T.cq) (pv 0) (aq mL (aJ (aa aj ae)) (am T.yn))) (ab (aV (T.ap) (T.cn) (pv 0) aj) (aB (aV (T.ap) (T.cM) (pv 0) cH))))))),?_⟩;walk_at "rd";refine bv hx (by show 0<1000;decide) (bv af (by show 1<1000;decide) (bv af (by show 2<1000;decide) ?_))
 simp only[upd_upd];have hx1:(upd H x (.ins T.aS dx (be "at" (.int 0) (be "shapes" b (be "steps" a []))))) x=some (.ins T.aS dx (be "at" (.int 0) (be "shapes" b (be "steps" a [])))):=af;have b1:ul x H (upd H x (.ins T.aS dx (be "at" (.int 0) (be "shapes" b (be "steps" a []))))):=fun c o e nc=>by rw[ao nc];exact e
 have n1:∀ c,(upd H x (.ins T.aS dx (be "at" (.int 0) (be "shapes" b (be "steps" a []))))) c=none→H c=none:=fun c e=>by
  by_cases h:c=x
  ·rw[h,af] at e;cases e
  ·rwa [ao h] at e
 generalize upd H x (.ins T.aS dx (be "at" (.int 0) (be "shapes" b (be "steps" a []))))=H1 at *;refine⟨by decide,fun p1 hp1=>mB (n:=8) af rfl (by decide) fun nb hnb=>?_⟩
 have s1:ai H1 (upd (upd H1 p1 (.lst [V.int 0])) nb (.lst (List.replicate 8 (V.int 0)))):=(ai.new hp1).trans (ai.new hnb);have hn1:H1 nb=none:=(ai.new hp1).free hnb;have e1:(upd (upd H1 p1 (.lst [V.int 0])) nb (.lst (List.replicate 8 (V.int 0)))) nb=some (.lst (List.replicate 8 (V.int 0))):=af;generalize upd (upd H1 p1 (.lst [V.int 0])) nb (.lst (List.replicate 8 (V.int 0)))=H2 at *;have nx:nb≠x:=fun z=>by rw[z,hx1] at hn1;cases hn1
 refine bv (s1 _ _ hx1) (by show 3<1000;decide) (bv af (by show 4<1000;decide) (bv af (by show 5<1000;decide) ?_))
 simp only[upd_upd];refine k _ nb (n1 _ hn1) nx ?_ ?_ fun c o e nc=>?_
 ·rw[ao nx,e1,kN]
 ·rw[af];rfl
 ·rw[ao nc];exact s1 _ _ (b1 _ _ e nc)
def N9(T:Tx K mg)(g:Qw.Program→Nat→V):Sp:=fun vs H Q _=>∃ d r p pr at_ paid nums en,vs=[.ref p]∧dc T d r H p pr at_ paid nums en∧Q (g pr at_) H
theorem nY(T:Tx K mg):de P w K mg base 1 T.aS "has_step" ["self"] (N9 T fun pr at_=>.bl (decide (at_<pr.steps.size))):=by
 refine de.of [] T.pi fun sc H Q E hr h=>?_
 obtain⟨d,r,p,pr,at_,paid,nums,en,rfl,⟨dx,st,sh,nb,ev,hp,_,⟨as,hst,_,hsl⟩,_⟩,k⟩:=h;refine⟨_,(bu (tU kb (ah (T.ap) (T.cC) (pv 0)) (tW K T.eB (aa (ah (T.ap) (T.di) (pv 0)) ae)))),?_⟩;walk_at "rd";refine ag hp rfl (ag hp rfl (cQ (aL.of hst) ?_));walk_at "rd";have e:decide ((at_:Int)<(((as.map V.ref).length:Nat):Int))=decide (at_<pr.steps.size):=decide_eq_decide.2 (by rw[length_map,hsl.1,Array.length_toList];lia)
 rw[e];exact k
def Dy(T:Tx K mg):Sp:=fun vs H Q _=>∃ d r p pr at_ paid nums en s,vs=[.ref p]∧dc T d r H p pr at_ paid nums en∧pr.steps[at_]?=some s∧∀ a,dX T.dP H a s→r a=0→Q (.ref a) H
theorem bL(T:Tx K mg):de P w K mg base 1 T.aS "step" ["self"] (Dy T):=by
 refine de.of [] T.wn fun sc H Q E hr h=>?_
 obtain⟨d,r,p,pr,at_,paid,nums,en,s,rfl,⟨dx,st,sh,nb,ev,hp,_,⟨as,hst,_,hsl⟩,_⟩,hs,k⟩:=h;refine⟨_,(bu (xL K (ah (T.ap) (T.di) (pv 0)) (ah (T.ap) (T.cC) (pv 0)))),?_⟩;walk_at "rd";rw[←Array.getElem?_toList] at hs;have hi:at_<as.length:=by rw[hsl.1];exact (List.getElem?_eq_some_iff.mp hs).1
 have ha:as[at_]?=some as[at_]:=getElem?_eq_getElem hi;exact ag hp rfl (ag hp rfl (fH (aL.of hst) rfl ha (k _ (hsl.2 _ _ _ ha hs).1 (hsl.2 _ _ _ ha hs).2)))
def kv(r:Ro)(H:Hp)(r':Ro):Prop:=∀ a,H a≠none→r' a=r a
theorem kv.refl:kv r H r:=fun _ _=>rfl
theorem kv.trans(a:kv r H r')(s:ai H H')(b:kv r' H' r''):kv r H r'':=fun x h=>by
 cases e:H x with
 | none=>exact absurd e h
 | some o=>rw[b x (bB (s _ _ e)),a x h]
theorem kv.fr(a:kv r H r')(s:ai H H')(w:Wf r' H'):Fr S r H r' H':=by
 refine⟨fun x o e _=>s x o e,a,fun x h=>?_,w⟩
 cases e:H x with
 | none=>exact absurd e h
 | some o=>exact bB (s _ _ e)
theorem kv.giv(x:kv r H r')(h:H a=none):kv r H (giv r' a k):=fun b hb=>by rw[gO (fun z=>hb (by rw[z];exact h))];exact x b hb
theorem Wf.giv(x:Wf r H)(h:H a≠none):Wf (QB.giv r a k) H:=fun b hb=>by rw[gO (fun z=>h (by rw[←z];exact hb))];exact x b hb
theorem GG{J:It}{g:TG}{te:TE}{vs:List Nat}{σ:L2.St}{Qd:Hp→Prop}(n k:Nat)(r1:Ro)(w1:Wf r1 H1)(R:Nat→Addr→Ro→Hp→Prop)(hD:H1 D=none)(hn:n<sizeLine)
  (fr:∀ i a r H r' H',R i a r H→Fr (Rg k (k+1)) r H r' H'→R i a r' H')
  (go:∀ i H,i<n→ai H1 H→J.go i H) (stop:∀ H,ai H1 H→J.stop n H)
  (turn:∀ i x H H' r (Kt:VK),i<n→ai H1 H→kv r1 H1 r→Wf r H→r D=k→J.yld i H x H'→(∀ p H4 r4,ai H H4→kv r H r4→Wf r4 H4→R i p r4 H4→Kt (.ref p) H4)→g x (bh σ vs) H' fun σ2 H2=>bh σ2 vs=bh σ vs∧te σ2 H2 Kt)
  (dO:∀ H' r (as:List Addr),as.length=n→ai H1 H'→kv r1 H1 r→Wf r H'→r D=k→H' D=some (.lst (as.map V.ref))→(∀ j a,as[j]?=some a→R j a r H')→Qd H'):BZ J g te vs σ H1 D Qd:=by
 refine⟨fun i m H=>m+i=n∧ai H1 H∧∃ r,∃ as:List Addr,kv r1 H1 r∧Wf r H∧r D=k∧as.length=i∧H D=some (.lst (as.map V.ref))∧∀ j a,as[j]?=some a→R j a r H,
  ⟨n,by lia,ai.new hD,giv r1 D k,[],kv.refl.giv hD,Wf.giv (w1.same (ai.new hD)) (by rw[af];exact fun z=>nomatch z),cY,rfl,af,fun j a e=>by simp at e⟩,?_⟩
 rintro i m H ⟨em,hs,r,as,h1,h2,h3,h4,h5,h6⟩
 by_cases hi:i=n
 ·subst hi;exact .inl ⟨stop H hs,dO H r as h4 hs h1 h2 h3 h5 h6⟩
 ·have hi':i<n:=by lia
  refine .inr ⟨go i H hi' hs,fun H'=>m - 1+(i+1)=n∧ai H1 H'∧∃ r,∃ as:List Addr,kv r1 H1 r∧Wf r H'∧r D=k∧as.length=i+1∧H' D=some (.lst (as.map V.ref))∧∀ j a,as[j]?=some a→R j a r H',fun H' h=>⟨m - 1,by lia,h⟩,fun x H' hy=>?_⟩
  simp only[Ds];refine turn i x H H' r _ hi' hs h1 h2 h3 hy fun p H4 r4 s4 ro4 w4 R4=>?_
  have hd4:=s4 D _ h5;have rd4:r4 D=k:=(ro4 D (bB h5)).trans h3;have f4:Fr (Rg k (k+1)) r H r4 H4:=ro4.fr s4 w4;have f5:Fr (Rg k (k+1)) r4 H4 r4 (upd H4 D (.lst (as.map V.ref++[.ref p]))):=Fr.upd w4 hd4 (by rw[rd4];exact⟨Nat.le_refl _,Nat.lt_succ_self _⟩)
  refine⟨as.map V.ref,hd4,by rw[length_map];lia,by lia,fun b o e=>?_,r4,as++[p],h1.trans hs ro4,f5.wf,rd4,by rw[length_append,h4];rfl,by rw[af,map_append];rfl,fun j a e=>?_⟩
  ·rw[ao (au e hD)];exact s4 b o (hs b o e)
  ·rcases Nat.lt_or_ge j as.length with hj | hj
   ·rw[getElem?_append_left hj] at e;exact fr j a r4 H4 r4 _ (fr j a r H r4 H4 (h6 j a e) f4) f5
   ·rw[getElem?_append_right hj] at e;have hj0:j - as.length=0:=by
     rcases Nat.eq_zero_or_pos (j - as.length) with hz | hz
     ·exact hz
     ·rw[getElem?_eq_none (by show 1≤_;exact hz)] at e;cases e
    rw[hj0] at e;have ej:j=i:=by lia
    subst ej;have ea:p=a:=Option.some.inj e;subst ea;exact fr j p r4 H4 r4 _ R4 f5
theorem K3{k1 l1 n:Nat}{te:TE}{vs:List Nat}{σ:L2.St}{Qd:Hp→Prop}(k:Nat)(r1:Ro)(w1:Wf r1 H1)(R:Nat→Addr→Ro→Hp→Prop)(hD:H1 D=none)(hx:aL K H1 a xs)(hy:aL K H1 b ys)(hn:n=min xs.length ys.length)(hz:n<sizeLine)
  (fr:∀ i a r H r' H',R i a r H→Fr (Rg k (k+1)) r H r' H'→R i a r' H')
  (turn:∀ i x y H r (Kt:VK),xs[i]?=some x→ys[i]?=some y→ai H1 H→kv r1 H1 r→Wf r H→r D=k→(∀ p H4 r4,ai H H4→kv r H r4→Wf r4 H4→R i p r4 H4→Kt (.ref p) H4)→bh (((bh σ vs).set k1 (some x)).set l1 (some y)) vs=bh σ vs∧te (((bh σ vs).set k1 (some x)).set l1 (some y)) H Kt)
  (dO:∀ H' r (as:List Addr),as.length=n→ai H1 H'→kv r1 H1 r→Wf r H'→r D=k→H' D=some (.lst (as.map V.ref))→(∀ j a,as[j]?=some a→R j a r H')→Qd H'):BZ (Ny K a b) (E8 K 2 (qs (db k1) (qs (db l1) GX))) te vs σ H1 D Qd:=by
 refine GG n k r1 w1 R hD hz fr (fun i H hi hs=>⟨xs,ys,xs[i]'(by lia),ys[i]'(by lia),hs.seq hx,hs.seq hy,getElem?_eq_getElem _,getElem?_eq_getElem _⟩) (fun H hs=>⟨xs,ys,hs.seq hx,hs.seq hy,by lia⟩) (fun i x H H' r Kt hi hs ro wf rd hY hk=>?_) dO
 obtain⟨T,x1,y1,rfl,hT,rfl,e1,e2⟩:=hY;refine⟨T,[x1,y1],rfl,.inl (.inl af),rfl,x1,[y1],rfl,y1,[],rfl,rfl,?_⟩;exact turn i x1 y1 _ r Kt (e1 xs (hs.seq hx)) (e2 ys (hs.seq hy)) (hs.trans (ai.new hT)) ro (wf.same (ai.new hT)) rd fun p H4 r4 s4 ro4 w4 R4=>hk p H4 r4 ((ai.new hT).trans s4) (fun z hz=>ro4 z (by
  cases e:H z with
  | none=>exact absurd e hz
  | some o=>exact bB (ai.new hT _ _ e))) w4 R4
theorem K4{k1:Nat}{te:TE}{vs:List Nat}{σ:L2.St}{Qd:Hp→Prop}(k:Nat)(r1:Ro)(w1:Wf r1 H1)(R:Nat→Addr→Ro→Hp→Prop)(hD:H1 D=none)(hx:aL K H1 a xs)(hz:xs.length<sizeLine)
  (fr:∀ i a r H r' H',R i a r H→Fr (Rg k (k+1)) r H r' H'→R i a r' H')
  (turn:∀ i x H r (Kt:VK),xs[i]?=some x→ai H1 H→kv r1 H1 r→Wf r H→r D=k→(∀ p H4 r4,ai H H4→kv r H r4→Wf r4 H4→R i p r4 H4→Kt (.ref p) H4)→bh ((bh σ vs).set k1 (some x)) vs=bh σ vs∧te ((bh σ vs).set k1 (some x)) H Kt)
  (dO:∀ H' r (as:List Addr),as.length=xs.length→ai H1 H'→kv r1 H1 r→Wf r H'→r D=k→H' D=some (.lst (as.map V.ref))→(∀ j a,as[j]?=some a→R j a r H')→Qd H'):BZ (FJ K a) (db k1) te vs σ H1 D Qd:=by
 refine GG xs.length k r1 w1 R hD hz fr (fun i H hi hs=>⟨xs,xs[i],hs.seq hx,getElem?_eq_getElem hi⟩) (fun H hs=>⟨xs,hs.seq hx,Nat.le_refl _⟩) (fun i x H H' r Kt hi hs ro wf rd hy hk=>?_) dO
 obtain⟨rfl,hy⟩:=hy;exact turn i x _ r Kt (hy xs (hs.seq hx)) hs ro wf rd hk
section
variable(a b c d:V)
theorem nF(v:V):be "start_row" v (tF a b c d)=tF v b c d:=rfl
theorem Cc(v:V):be "widths" v (tF a b c d)=tF a v c d:=rfl
theorem Ai(v:V):be "heights" v (tF a b c d)=tF a b v d:=rfl
theorem FR(v:V):be "rows" v (tF a b c d)=tF a b c v:=rfl
end
def zR(sh:Qw.Shape):Nat→List (List Int):=fun i=>List.replicate (sh.heights.getD i 0) (List.replicate (sh.widths.getD i 0) 0)
structure tX(sh:Qw.Shape):Prop where
 wl:sh.widths.length=8
 hl:sh.heights.length=8
 wb:∀ i,sh.widths.getD i 0≤1000
 hb:∀ i,sh.heights.getD i 0≤1000
def Ma(T:Tx K mg)(d:Bool):Sp:=fun vs H Q _=>∃ t a dx,∃ (v1 v2 v3 v4:V) (sh:Qw.Shape),∃ r,vs=[.ref t,.ref a]∧H t=some (.ins (T.dY d) dx (tF v1 v2 v3 v4))∧r t=rl d 6∧Wf r H∧aL K H a (iv (QM.nI sh.nums))∧tX sh ∧
 ∀ r' H',Fr (Rg (rl d 6) (rl d 16)) r H r' H'→jh T d r' H' t sh (zR sh)→Q .non H'
theorem K1(h:tX sh):((QM.nI sh.nums).drop 1).take 8=QM.nI sh.widths:=by
 unfold Qw.Shape.nums QM.nI;rw[map_cons,drop_succ_cons,drop_zero,map_append,List.take_left' (by rw[length_map,h.wl])]
theorem K2(h:tX sh):((QM.nI sh.nums).drop 9).take 8=QM.nI sh.heights:=by
 unfold Qw.Shape.nums QM.nI;rw[map_cons,drop_succ_cons,map_append,List.drop_left' (by rw[length_map,h.wl]),take_of_length_le (by rw[length_map,h.hl];decide)]
theorem aQ(l:List Nat)(i:Nat):(QM.nI l).getD i 0=((l.getD i 0:Nat):Int):=by
 unfold QM.nI;rw[getD_eq_getElem?_getD,getD_eq_getElem?_getD,getElem?_map]
 cases l[i]?<;>rfl
theorem D3(e:(iv (QM.nI l))[i]?=some x):i<l.length∧x=.int ((l.getD i 0:Nat):Int):=by
 obtain⟨n,hn,rfl⟩:=fq e;have hi:i<(QM.nI l).length:=(List.getElem?_eq_some_iff.mp hn).1;refine⟨by simpa[QM.nI] using hi,?_⟩
 rw[←aQ,getD_eq_getElem?_getD,hn];rfl
theorem ak(l:List Nat):(QM.nI l).length=l.length:=by unfold QM.nI;rw[length_map]
theorem aM(l:List Int):(iv l).length=l.length:=length_map _
theorem d6(T:Tx K mg)(d:Bool):de P w K mg base 2 (T.dY d) "set_shape" ["self","shape"] (Ma T d):=by
 refine de.of ["width","height"] (T.wj d) fun sc H Q E hr h=>?_
 obtain⟨t,a,dx,v1,v2,v3,v4,sh,r,rfl,ht,hrt,wf,ha,hsh,k⟩:=h;refine⟨_,(ab (aV (T.ba d) (T.bU d) (pv 0) (xL K (pv 1) aj)) (ab (aV (T.ba d) (T.cJ d) (pv 0) (aA (p8 T) hr.m (aa (pv 1) ae))) (ab (aV (T.ba d) (T.ck d) (pv 0) (aA (oH T) hr.m (aa (pv 1) ae))) (aB (aV (T.ba d) (T.dh d) (pv 0) (dM (own:=[("width",2),("height",3)]) rfl sc.nd (iu (K:=K) T.qG (aa (ah (T.ba d) (T.cJ d) (pv 0)) (aa (ah (T.ba d) (T.ck d) (pv 0)) ae))) (aY (N:=["self","shape","width","height"]) (sc:=aC dt) (by decide +kernel)) (fun _ _ _ _ _=>(gc (K:=K) (n:=2) (bO (gN 2 sc.nd) (bO (gN 3 sc.nd) f9)))) (fun _ _ _ _ _=>(bE)) (fun _ _ _ _ _=>(aA (p4 T) hr.m (aa (pv 2) (aa (pv 3) ae)))))))))),?_⟩
 walk_at "rd";have S6:Rg (rl d 6) (rl d 16) (r t):=by rw[hrt];unfold rl;constructor<;>lia
 refine bj (j:=0) ha rfl (by rw[ak];exact Nat.succ_pos _) (bv ht (by show 4<1000;decide) ?_)
 rw[nF,show (QM.nI sh.nums).getD 0 0=(sh.start:Int) from rfl]
 have f1:=Fr.upd (S:=Rg (rl d 6) (rl d 16)) (o':=.ins (T.dY d) dx (tF (.int (sh.start:Int)) v2 v3 v4)) wf ht S6;have ht1:(upd H t (.ins (T.dY d) dx (tF (.int (sh.start:Int)) v2 v3 v4))) t=some (.ins (T.dY d) dx (tF (.int (sh.start:Int)) v2 v3 v4)):=af;have ha1:aL K (upd H t (.ins (T.dY d) dx (tF (.int (sh.start:Int)) v2 v3 v4))) a (iv (QM.nI sh.nums)):=ul.seq ht (fun c o e nc=>by rw[ao nc];exact e) ha
 generalize upd H t (.ins (T.dY d) dx (tF (.int (sh.start:Int)) v2 v3 v4))=H1 at *;refine eZ ha1 trivial fun ws H2 s2 nws ews=>?_
 rw[K1 hsh] at ews;have f2:=f1.trans (Fr.same f1.wf s2);refine bv (s2 _ _ ht1) (by show 4<1000;decide) ?_
 rw[Cc];have rt2:r t=rl d 6:=hrt;have ht2:=s2 _ _ ht1;have nwt:ws≠t:=fun z=>by rw[z,ht1] at nws;cases nws
 have f3:=f2.trans (Fr.upd (S:=Rg (rl d 6) (rl d 16)) (o':=.ins (T.dY d) dx (tF (.int (sh.start:Int)) (.ref ws) v3 v4)) f2.wf ht2 S6);have ht3:(upd H2 t (.ins (T.dY d) dx (tF (.int (sh.start:Int)) (.ref ws) v3 v4))) t=some (.ins (T.dY d) dx (tF (.int (sh.start:Int)) (.ref ws) v3 v4)):=af;have ha3:aL K (upd H2 t (.ins (T.dY d) dx (tF (.int (sh.start:Int)) (.ref ws) v3 v4))) a (iv (QM.nI sh.nums)):=ul.seq ht2 (fun c o e nc=>by rw[ao nc];exact e) (s2.seq ha1)
 have hw3:(upd H2 t (.ins (T.dY d) dx (tF (.int (sh.start:Int)) (.ref ws) v3 v4))) ws=some (.lst (iv (QM.nI sh.widths))):=by rw[ao nwt];exact ews
 have rw0:r ws=0:=f1.wf ws nws;generalize upd H2 t (.ins (T.dY d) dx (tF (.int (sh.start:Int)) (.ref ws) v3 v4))=H3 at *;refine eZ ha3 trivial fun hs H4 s4 nhs ehs=>?_
 rw[K2 hsh] at ehs;have f4:=f3.trans (Fr.same f3.wf s4);refine bv (s4 _ _ ht3) (by show 4<1000;decide) ?_
 rw[Ai];have ht4:=s4 _ _ ht3;have nht:hs≠t:=fun z=>by rw[z,ht3] at nhs;cases nhs
 have f5:=f4.trans (Fr.upd (S:=Rg (rl d 6) (rl d 16)) (o':=.ins (T.dY d) dx (tF (.int (sh.start:Int)) (.ref ws) (.ref hs) v4)) f4.wf ht4 S6);have ht5:(upd H4 t (.ins (T.dY d) dx (tF (.int (sh.start:Int)) (.ref ws) (.ref hs) v4))) t=some (.ins (T.dY d) dx (tF (.int (sh.start:Int)) (.ref ws) (.ref hs) v4)):=af;have hw5:(upd H4 t (.ins (T.dY d) dx (tF (.int (sh.start:Int)) (.ref ws) (.ref hs) v4))) ws=some (.lst (iv (QM.nI sh.widths))):=by rw[ao nwt];exact s4 _ _ hw3
 have hh5:(upd H4 t (.ins (T.dY d) dx (tF (.int (sh.start:Int)) (.ref ws) (.ref hs) v4))) hs=some (.lst (iv (QM.nI sh.heights))):=by rw[ao nht];exact ehs
 have rh0:r hs=0:=f3.wf hs nhs;generalize upd H4 t (.ins (T.dY d) dx (tF (.int (sh.start:Int)) (.ref ws) (.ref hs) v4))=H5 at *;refine ag ht5 rfl (ag ht5 rfl ⟨ws,rfl,hs,rfl,_,aL.of hw5,_,aL.of hh5,fun D hD=>?_⟩)
 refine K3 (n:=8) (rl d 7) r f5.wf (fun i x r H=>i9 d r H x i (zR sh i)) hD (aL.of hw5) (aL.of hh5) (by rw[aM,aM,ak,ak,hsh.wl,hsh.hl];rfl) (by decide) (fun i a r H r' H' h f=>h.fr f (by unfold rl;lia) (by unfold rl;lia)) (fun i x y H6 r6 Kt hx hy s6 ro6 w6 rd6 hk=>?_) fun H6 r6 ts l6 s6 ro6 w6 rd6 eD hts=>?_
 ·obtain⟨hi,rfl⟩:=D3 hx;obtain⟨_,rfl⟩:=D3 hy;walk_at "rd";refine⟨_,_,rfl,hsh.wb i,hsh.hb i,fun p as H7 s7 np nas e7 l7=>hk p H7 (giv r6 p (rl d (8+i))) s7 (kv.refl.giv np) (Wf.giv (w6.same s7) (bB e7)) ⟨as,e7,cY,l7,fun b hb=>?_⟩⟩
  rw[gO (nas b hb).2];exact w6 b (nas b hb).1
 ·have ht6:=s6 _ _ ht5;have rt6:r6 t=rl d 6:=(ro6 t (bB ht5)).trans hrt;refine bv ht6 (by show 4<1000;decide) ?_
  rw[FR];have f6:=f5.trans (ro6.fr s6 w6);have f7:=Fr.upd (S:=Rg (rl d 6) (rl d 7)) (o':=.ins (T.dY d) dx (tF (.int (sh.start:Int)) (.ref ws) (.ref hs) (.ref D))) w6 ht6 (by rw[rt6];unfold rl;constructor<;>lia)
  have n0:¬ Rg (rl d 6) (rl d 7) 0:=by unfold rl;lia
  refine k r6 _ (f6.trans (f7.mono fun k hk=>⟨hk.1,by have:=hk.2;unfold rl at *;lia⟩)) ⟨dx,ws,hs,D,ts,af,rt6,f7.keep (s6 _ _ hw5) ((ro6 ws (bB hw5)).trans rw0) n0,f7.keep (s6 _ _ hh5) ((ro6 hs (bB hh5)).trans rh0) n0,f7.keep eD rd6 (by unfold rl;lia),l6,fun i x e=>?_⟩
  have hi:i<8:=by rw[←l6];exact (List.getElem?_eq_some_iff.mp e).1
  exact (hts i x e).fr f7 n0 (by unfold rl;lia)
def tZ(T:Tx K mg)(d:Bool):Sp:=fun vs H Q _=>∃ x dx r,vs=[.ref x]∧H x=some (.ins (T.dY d) dx [])∧r x=rl d 6∧Wf r H∧∀ r' H',Fr (Rg (rl d 6) (rl d 16)) r H r' H'→jh T d r' H' x Qw.noShape (zR Qw.noShape)→Q .non H'
theorem vv:tX Qw.noShape:=⟨rfl,rfl,fun i=>by
 show (List.replicate 8 0).getD i 0≤1000;rw[d9];decide,fun i=>by
 show (List.replicate 8 0).getD i 0≤1000;rw[d9];decide⟩
theorem tX.of_ok(h:sh.ok=true):tX sh:=by
 obtain⟨_,h1,h2,_⟩:=(QM.Shape.ok_iff sh).1 h
 exact⟨h1,h2,fun i=>by have:=(QM.Shape.ok_at h i).1;lia,fun i=>by have:=(QM.Shape.ok_at h i).2.1;lia⟩
theorem x8(T:Tx K mg)(d:Bool){x:Str}(hx:mg x=some (.ref (T.dY d)))(hf:∃ f fd,wF K "__init__" "Tiles.__init__" jk f fd∧Mk K (T.dY d) f):qL P w K mg base 3 x (T.dY d) ["self"] (tZ T d):=by
 refine qL.of [] hf hx fun sc H Q E hr h=>?_
 obtain⟨x,dx,r,rfl,hx,hr6,wf,k⟩:=h;refine⟨_,(ab (aV (T.ba d) (T.bU d) (pv 0) aj) (ab (aV (T.ba d) (T.cJ d) (pv 0) (aJ ae)) (ab (aV (T.ba d) (T.ck d) (pv 0) (aJ ae)) (ab (aV (T.ba d) (T.dh d) (pv 0) (aJ ae)) (aB (bQ (dv (T.ba d) (d6 T d) hr.m (pv 0) (aa (Gq (oE T) hr.m) ae)))))))),?_⟩;walk_at "rd";have S6:Rg (rl d 6) (rl d 16) (r x):=by rw[hr6];unfold rl;constructor<;>lia
 refine bv hx (by show 0<1000;decide) ⟨by decide,fun p1 hp1=>?_⟩
 have f1:=Fr.upd (S:=Rg (rl d 6) (rl d 16)) (o':=.ins (T.dY d) dx (be "start_row" (.int 0) [])) wf hx S6;have hx1:(upd H x (.ins (T.dY d) dx (be "start_row" (.int 0) []))) x=some (.ins (T.dY d) dx (be "start_row" (.int 0) [])):=af;generalize upd H x (.ins (T.dY d) dx (be "start_row" (.int 0) []))=H1 at *;have s2:=ai.new (o:=.lst []) hp1;have f2:=f1.trans (Fr.same f1.wf s2);have hx2:=s2 _ _ hx1;generalize upd H1 p1 (.lst [])=H2 at *;refine bv hx2 (by show 1<1000;decide) ⟨by decide,fun p2 hp2=>?_⟩
 have f3:=f2.trans (Fr.upd (S:=Rg (rl d 6) (rl d 16)) (o':=.ins (T.dY d) dx (be "widths" (.ref p1) (be "start_row" (.int 0) []))) f2.wf hx2 S6);have hx3:(upd H2 x (.ins (T.dY d) dx (be "widths" (.ref p1) (be "start_row" (.int 0) [])))) x=some (.ins (T.dY d) dx (be "widths" (.ref p1) (be "start_row" (.int 0) []))):=af;generalize upd H2 x (.ins (T.dY d) dx (be "widths" (.ref p1) (be "start_row" (.int 0) [])))=H3 at *;have s4:=ai.new (o:=.lst []) hp2;have f4:=f3.trans (Fr.same f3.wf s4);have hx4:=s4 _ _ hx3;generalize upd H3 p2 (.lst [])=H4 at *;refine bv hx4 (by show 2<1000;decide) ⟨by decide,fun p3 hp3=>?_⟩
 have f5:=f4.trans (Fr.upd (S:=Rg (rl d 6) (rl d 16)) (o':=.ins (T.dY d) dx (be "heights" (.ref p2) (be "widths" (.ref p1) (be "start_row" (.int 0) [])))) f4.wf hx4 S6);have hx5:(upd H4 x (.ins (T.dY d) dx (be "heights" (.ref p2) (be "widths" (.ref p1) (be "start_row" (.int 0) []))))) x=some (.ins (T.dY d) dx (be "heights" (.ref p2) (be "widths" (.ref p1) (be "start_row" (.int 0) [])))):=af;generalize upd H4 x (.ins (T.dY d) dx (be "heights" (.ref p2) (be "widths" (.ref p1) (be "start_row" (.int 0) []))))=H5 at *;have s6:=ai.new (o:=.lst []) hp3;have f6:=f5.trans (Fr.same f5.wf s6);have hx6:=s6 _ _ hx5;generalize upd H5 p3 (.lst [])=H6 at *;refine bv hx6 (by show 3<1000;decide) ?_
 have f7:=f6.trans (Fr.upd (S:=Rg (rl d 6) (rl d 16)) (o':=.ins (T.dY d) dx (tF (.int 0) (.ref p1) (.ref p2) (.ref p3))) f6.wf hx6 S6);have e7:be "rows" (.ref p3) (be "heights" (.ref p2) (be "widths" (.ref p1) (be "start_row" (.int 0) [])))=tF (.int 0) (.ref p1) (.ref p2) (.ref p3):=rfl;rw[e7];have hx7:(upd H6 x (.ins (T.dY d) dx (tF (.int 0) (.ref p1) (.ref p2) (.ref p3)))) x=some (.ins (T.dY d) dx (tF (.int 0) (.ref p1) (.ref p2) (.ref p3))):=af;generalize upd H6 x (.ins (T.dY d) dx (tF (.int 0) (.ref p1) (.ref p2) (.ref p3)))=H7 at *;refine aT hx7 rfl ?_
 refine⟨rfl,fun a H8 s8 na e8=>?_⟩
 refine⟨x,a,dx,_,_,_,_,Qw.noShape,r,rfl,s8 _ _ hx7,hr6,f7.wf.same s8,aL.of e8,vv,fun r' H' f' o'=>k r' H' (f7.trans ((Fr.same f7.wf s8).trans f')) o'⟩
theorem yX(T:Tx K mg):qL P w K mg base 3 "Tiles" T.z5 ["self"] (tZ T false):=x8 T false T.IE T.Bh
theorem tu(T:Tx K mg):qL P w K mg base 3 "DryTiles" T.nW ["self"] (tZ T true):=x8 T true T.CO T.vY
def HF(T:Tx K mg)(d:Bool):Sp:=fun vs H Q _=>∃ t r sh RR,vs=[.ref t]∧jh T d r H t sh RR∧tX sh∧jU H (QM.nI sh.nums) Q
theorem sK(T:Tx K mg)(d:Bool):de P w K mg base 1 (T.dY d) "shown" ["self"] (HF T d):=by
 refine de.of [] (T.Dd d) fun sc H Q E hr h=>?_
 obtain⟨t,r,sh,RR,rfl,⟨dx,ws,hs,rw,ts,ht,_,⟨hw,_⟩,⟨hh,_⟩,_⟩,hsh,k⟩:=h;refine⟨_,(bu (aq jL (aq jL (aJ (aa (ah (T.ba d) (T.bU d) (pv 0)) ae)) (ah (T.ba d) (T.cJ d) (pv 0))) (ah (T.ba d) (T.ck d) (pv 0)))),?_⟩;walk_at "rd";refine ag ht rfl ⟨by decide,fun p1 hp1=>?_⟩
 have s1:=ai.new (o:=.lst [.int (sh.start:Int)]) hp1;refine ag (s1 _ _ ht) rfl (jI af (s1 _ _ hw) (by rw[aM,ak,hsh.wl];show 1+8≤sizeLine;decide) fun p2 hp2=>?_)
 have s2:=s1.trans (ai.new (o:=.lst ([.int (sh.start:Int)]++iv (QM.nI sh.widths))) hp2);refine ag (s2 _ _ ht) rfl (jI af (s2 _ _ hh) (by rw[length_append,aM,aM,ak,ak,hsh.wl,hsh.hl];show 1+8+8≤sizeLine;decide) fun p3 hp3=>k p3 _ (s2.trans (ai.new hp3)) (s2.free hp3) ?_)
 rw[af];simp[Qw.Shape.nums,QM.nI,iv]
def HE(T:Tx K mg)(d:Bool):Sp:=fun vs H Q _=>∃ t,∃ i:Nat,∃ r,∃ sh:Qw.Shape,∃ RR,vs=[.ref t,.int (i:Int)]∧jh T d r H t sh RR∧i<sh.heights.length∧Q (.bl (sh.heights.getD i 0 != 0)) H
theorem gf(T:Tx K mg)(d:Bool):de P w K mg base 1 (T.dY d) "is_there" ["self","t"] (HE T d):=by
 refine de.of [] (T.xt d) fun sc H Q E hr h=>?_
 obtain⟨t,i,r,sh,RR,rfl,⟨dx,ws,hs,rw,ts,ht,_,⟨hw,_⟩,⟨hh,_⟩,_⟩,hi,k⟩:=h;refine⟨_,(bu (tU il (xL K (ah (T.ba d) (T.ck d) (pv 0)) (pv 1)) aj)),?_⟩;walk_at "rd";refine ag ht rfl (bj (j:=i) (aL.of hh) rfl (by rw[ak];exact hi) ?_)
 walk_at "rd";rw[aQ];have e:(!decide (((sh.heights.getD i 0:Nat):Int)=0))=(sh.heights.getD i 0 != 0):=by
  generalize sh.heights.getD i 0=v
  cases v with
  | zero=>rfl
  | succ n=>rw[decide_eq_false (by lia)];rfl
 rw[e];exact k
theorem jh.tile{T:Tx K mg}{d:Bool}{r:Ro}{H:Hp}{t:Addr}{sh:Qw.Shape}{RR:Nat→List (List Int)}(h:jh T d r H t sh RR){i:Nat}(hi:i<8):∃ dx ws hs rw,∃ ts:List Addr,∃ x,H t=some (.ins (T.dY d) dx (tF (.int (sh.start:Int)) (.ref ws) (.ref hs) (.ref rw)))∧H rw=some (.lst (ts.map V.ref))∧ts[i]?=some x∧i9 d r H x i (RR i):=by
 obtain⟨dx,ws,hs,rw,ts,ht,_,_,_,⟨hr,_⟩,hl,htt⟩:=h;have e:ts[i]?=some (ts[i]'(by lia)):=getElem?_eq_getElem _
 exact⟨dx,ws,hs,rw,ts,_,ht,hr,e,htt i _ e⟩
theorem i9.rows{d:Bool}{r:Ro}{H:Hp}{x:Addr}{i:Nat}{rows:List (List Int)}(h:i9 d r H x i rows):Rows K H x rows:=let ⟨as,h1,_,h3,_⟩:=h;⟨as,aL.of h1,h3⟩
theorem i9.ill{d:Bool}{r:Ro}{H:Hp}{x:Addr}{i:Nat}{rows:List (List Int)}(h:i9 d r H x i rows):Aa H x rows:=let ⟨as,h1,_,h3,_⟩:=h;⟨as,h1,h3⟩
def HC(T:Tx K mg)(d:Bool):Sp:=fun vs H Q _=>∃ t,∃ i:Nat,∃ r sh RR,vs=[.ref t,.int (i:Int)]∧jh T d r H t sh RR∧i<8∧(RR i).length≤1000∧(∀ l∈RR i,l.length % 4=0∧l.length≤1000000∧LN l)∧oI H ((RR i).map bI) Q
theorem sJ(T:Tx K mg)(d:Bool):de P w K mg base 2 (T.dY d) "words" ["self","t"] (HC T d):=by
 refine de.of ["row"] (T.Dc d) fun sc H Q E hr h=>?_
 obtain⟨t,i,r,sh,RR,rfl,ho,hi,hn,hb,k⟩:=h;obtain⟨dx,ws,hs,rw,ts,x,ht,hr1,ex,hx⟩:=ho.tile hi;refine⟨_,(bu (dM (own:=[("row",2)]) rfl sc.nd (bT (K:=K) (xL K (ah (T.ba d) (T.dh d) (pv 0)) (pv 1))) (aY (N:=["self","t","row"]) (sc:=aC ft) (by decide +kernel)) (fun _ _ _ _ _=>(gN 2 sc.nd)) (fun _ _ _ _ _=>(bE)) (fun _ _ _ _ _=>(aA (sG T) hr.m (aa (pv 2) ae))))),?_⟩
 walk_at "rd";refine ag ht rfl (fH (aL.of hr1) rfl ex ?_);obtain⟨as,ha,hl⟩:=id (hx.rows (K:=K));walk_at "rd";refine⟨⟨_,ha⟩,fun D hD=>qh hD hx.rows hn bI (fun b l H1 Kt hl hb1 hk=>?_) fun H' as h1 h2 h3 h4=>k D as H' h4 hD h1 h3 h2⟩
 walk_at "rd";exact eZ (aL.of hb1) (hb l hl) hk
def Kq(T:Tx K mg)(d:Bool):Sp:=fun vs H Q _=>∃ t,∃ i:Nat,∃ r sh RR,vs=[.ref t,.int (i:Int)]∧jh T d r H t sh RR∧i<8∧(RR i).length≤1000∧(∀ l∈RR i,l.length≤1000)∧jU H (RR i).flatten Q
theorem vU:∀ (ll:List (List Int)),(∀ l∈ll,l.length≤1000)→ll.flatten.length≤1000*ll.length
 | [],_=>Nat.le_refl _
 | l::ll,h=>by
  rw[flatten_cons,length_append,length_cons]
  have:=h l mem_cons_self
  have:=vU ll fun x hx=>h x (mem_cons_of_mem _ hx)
  lia
theorem Fb{ll:List (List Int)}{i:Nat}{l:List Int}(e:ll[i]?=some l):(ll.take (i+1)).flatten=(ll.take i).flatten++l:=by
 rw[take_add_one,e,List.flatten_append];simp
theorem vp(T:Tx K mg)(d:Bool):de P w K mg base 1 (T.dY d) "contents" ["self","t"] (Kq T d):=by
 refine de.of ["data","row"] (T.xx d) fun sc H Q E hr h=>?_
 obtain⟨t,i,r,sh,RR,rfl,ho,hi,hn,hb,k⟩:=h;obtain⟨dx,ws,hs,rw,ts,x,ht,hr1,ex,hx⟩:=ho.tile hi;refine⟨_,(ab (sS 2 sc.nd (aJ ae)) (ab (dS PassesOwn.never rfl (bT (K:=K) (xL K (ah (T.ba d) (T.dh d) (pv 0)) (pv 1))) (gN 3 sc.nd) (aB (bQ (Lo (pv 2) (aa (pv 3) ae))))) (bu (pv 2)))),?_⟩;refine zS fun D hD=>?_
 have sD:=ai.new (o:=.lst []) hD;obtain⟨as,ha,hra,hl,hr0⟩:=id hx;walk_at "rd";refine ag (sD _ _ ht) rfl (fH (aL.of (sD _ _ hr1)) rfl ex ?_);walk_at "rd";have hax:x≠D:=fun z=>by rw[z,hD] at ha;cases ha
 refine⟨⟨_,aL.of (sD _ _ ha)⟩,Lk (xs:=as.map V.ref) (fun j σ H'=>∃ v:Option V,σ=[some (.ref t),some (.int (i:Int)),some (.ref D),v]∧H' D=some (.lst (iv ((RR i).take j).flatten))∧ai H H') ⟨none,rfl,by rw[af];rfl,sD⟩ (fun j σ H' ⟨_,_,_,s⟩=>aL.of (s _ _ ha)) ?_ ?_⟩
 ·rintro j y σ H1 hj ⟨v,rfl,h1,s1⟩
  obtain⟨b,hb1,rfl⟩:=bR hj;obtain⟨l,hl1,hl2⟩:=hl.at hb1;walk_at "rd";have hfl:((RR i).take j).flatten.length+l.length≤1000000:=by
   have h2:=vU ((RR i).take j) fun l hl=>hb l (mem_of_mem_take hl)
   have h3:=hb l (mem_of_getElem? hl1);have h4:((RR i).take j).length≤j:=by rw[length_take];exact Nat.min_le_left _ _
   have h5:j<(RR i).length:=(List.getElem?_eq_some_iff.mp hl1).1;lia
  refine⟨eU h1,uW h1 (s1 _ _ hl2) (by rw[aM,aM];exact Nat.le_trans hfl (by decide)) ⟨?_,fun c o e=>?_⟩⟩
  ·rw[af,Fb hl1];simp[iv]
  ·rw[ao (au e hD)];exact s1 _ _ e
 ·rintro σ H1 ⟨v,rfl,h1,s1⟩
  walk_at "rd";rw[length_map,hl.1,take_length] at h1;exact k D H1 s1 hD h1
def EK(RR:Nat→List (List Int))(i:Nat)(l:List (List Int)):Nat→List (List Int):=fun j=>if j=i then l else RR j
theorem fS:EK RR i l i=l:=if_pos rfl
theorem jp(h:j≠i):EK RR i l j=RR j:=if_neg h
theorem Dr(h:jh T d r H t sh RR)(wf:Wf r H)(hi:i<8)(s:ai H H1)(np:H p=none)(na:∀ b∈as,H b=none∧b≠p)(hp:H1 p=some (.lst (as.map V.ref)))(hl:LL H1 as ll)
  {Q:Hp→Prop} (k:∀ r' H',Fr (Rg (rl d 6) (rl d 16)) r H r' H'→jh T d r' H' t { sh with start:=0 } (EK RR i ll)→Q H') :
  yE (T.dY d) "rows" (.ref t) H1 fun x H2=>Au x (.int (i:Int)) (.ref p) H2 fun H3=>Ho (T.dY d) "start_row" (.ref t) (.int 0) H3 Q:=by
 obtain⟨dx,ws,hs,rw,ts,h1,h2,⟨h3,h3'⟩,⟨h4,h4'⟩,⟨h5,h5'⟩,h6,h7⟩:=h;have nwt:rw≠t:=mT h5 h1 (fun z=>nomatch z)
 refine ag (s _ _ h1) rfl (jH (j:=i) (s _ _ h5) rfl (by rw[length_map];lia) (bv (by rw[ao nwt.symm];exact s _ _ h1) (by show 4<1000;decide) ?_))
 rw[nF];have w1:Wf (giv r p (rl d (8+i))) H1:=Wf.giv (wf.same s) (bB hp);have f1:∀ S,Fr S r H (giv r p (rl d (8+i))) H1:=fun S=>(kv.refl.giv np).fr s w1
 have g:∀ b,H b≠none→giv r p (rl d (8+i)) b=r b:=fun b hb=>gO (fun z=>hb (by rw[z];exact np))
 have rrw:giv r p (rl d (8+i)) rw=rl d 7:=(g _ (bB h5)).trans h5';have rt:giv r p (rl d (8+i)) t=rl d 6:=(g _ (bB h1)).trans h2;have f2:Fr (Rg (rl d 6) (rl d 8)) (giv r p (rl d (8+i))) H1 (giv r p (rl d (8+i))) (upd H1 rw (.lst ((ts.map V.ref).set i (.ref p)))):=Fr.upd w1 (s _ _ h5) (by rw[rrw];unfold rl;constructor<;>lia)
 have f3:Fr (Rg (rl d 6) (rl d 8)) (giv r p (rl d (8+i))) (upd H1 rw (.lst ((ts.map V.ref).set i (.ref p)))) (giv r p (rl d (8+i))) (upd (upd H1 rw (.lst ((ts.map V.ref).set i (.ref p)))) t (.ins (T.dY d) dx (tF (.int 0) (.ref ws) (.ref hs) (.ref rw)))):=Fr.upd (o:=.ins (T.dY d) dx (tF (.int (sh.start:Int)) (.ref ws) (.ref hs) (.ref rw))) f2.wf (by rw[ao nwt.symm];exact s _ _ h1) (by rw[rt];unfold rl;constructor<;>lia)
 have f23:=f2.trans f3;have n0:¬ Rg (rl d 6) (rl d 8) 0:=by unfold rl;lia
 refine k _ _ ((f1 _).trans (f23.mono fun k hk=>⟨hk.1,by have:=hk.2;unfold rl at *;lia⟩)) ⟨dx,ws,hs,rw,ts.set i p,af,rt,f23.keep (s _ _ h3) ((g _ (bB h3)).trans h3') n0,f23.keep (s _ _ h4) ((g _ (bB h4)).trans h4') n0,⟨?_,rrw⟩,by rw[length_set];exact h6,fun j x e=>?_⟩
 ·rw[ao nwt,af,map_set]
 ·by_cases hj:j=i
  ·subst hj;rw[getElem?_set_self (by lia)] at e
   obtain rfl:=Option.some.inj e;rw[fS];have ho:i9 d (giv r p (rl d (8+j))) H1 p j ll:=⟨as,hp,cY,hl,fun b hb=>by rw[gO (na b hb).2];exact wf b (na b hb).1⟩
   exact ho.fr f23 n0 (by unfold rl;lia)
  ·rw[getElem?_set_ne (Ne.symm hj)] at e;rw[jp hj];exact ((h7 j x e).fr (f1 fun _=>False) (fun z=>z) (fun z=>z)).fr f23 n0 (by unfold rl;lia)
def Ke(T:Tx K mg)(d:Bool):Sp:=fun vs H Q _=>∃ t,∃ i:Nat,∃ r sh RR,vs=[.ref t,.int (i:Int)]∧jh T d r H t sh RR∧Wf r H∧i<8∧tX sh ∧
 ∀ r' H',Fr (Rg (rl d 6) (rl d 16)) r H r' H'→jh T d r' H' t { sh with start:=0 } (EK RR i (List.replicate (sh.heights.getD i 0) (List.replicate (sh.widths.getD i 0) 0)))→Q .non H'
theorem CI(T:Tx K mg)(d:Bool):de P w K mg base 2 (T.dY d) "zero" ["self","t"] (Ke T d):=by
 refine de.of [] (T.Fn d) fun sc H Q E hr h=>?_
 obtain⟨t,i,r,sh,RR,rfl,ho,wf,hi,hsh,k⟩:=h;obtain⟨dx,ws,hs,rw,ts,h1,h2,⟨h3,h3'⟩,⟨h4,h4'⟩,_⟩:=id ho;refine⟨_,(ab (fK (aA (p4 T) hr.m (aa (xL K (ah (T.ba d) (T.cJ d) (pv 0)) (pv 1)) (aa (xL K (ah (T.ba d) (T.ck d) (pv 0)) (pv 1)) ae))) (fL (ah (T.ba d) (T.dh d) (pv 0)) (pv 1) cW)) (aB (aV (T.ba d) (T.bU d) (pv 0) aj))),?_⟩;walk_at "rd";refine ag h1 rfl (bj (j:=i) (aL.of h3) rfl (by rw[ak,hsh.wl];exact hi) (ag h1 rfl (bj (j:=i) (aL.of h4) rfl (by rw[ak,hsh.hl];exact hi) ?_)))
 rw[aQ,aQ];refine⟨_,_,rfl,hsh.wb i,hsh.hb i,fun p as H1 s1 np na hp hl=>?_⟩
 exact Dr ho wf hi s1 np na hp hl k
def m6(sh:Qw.Shape)(x y z:Nat):Bool:=x != y&&(y != z&&(x != z&&(sh.heights.getD x 0 != 0&&(sh.heights.getD y 0 != 0&&(sh.heights.getD z 0 != 0&&(sh.heights.getD x 0==sh.heights.getD y 0&&(sh.widths.getD x 0==sh.widths.getD z 0&&(sh.widths.getD x 0 % 4==0&&sh.widths.getD y 0==4*sh.heights.getD z 0))))))))
theorem IT(m:Qw.Mach)(x y z:Nat):m.fits x y z=m6 m.shape x y z:=rfl
def Kn(T:Tx K mg)(d:Bool):Sp:=fun vs H Q _=>∃ t,∃ x y z:Nat,∃ r sh RR,vs=[.ref t,.int (x:Int),.int (y:Int),.int (z:Int)]∧jh T d r H t sh RR∧x<8∧y<8∧z<8∧tX sh∧Q (.bl (m6 sh x y z)) H
theorem vo(T:Tx K mg)(d:Bool):de P w K mg base 2 (T.dY d) "dot_fits" ["self","x","y","z"] (Kn T d):=by
 refine de.of [] (T.xu d) fun sc H Q E hr h=>?_
 obtain⟨t,x,y,z,r,sh,RR,rfl,ho,hx,hy,hz,hsh,k⟩:=h;obtain⟨dx,ws,hs,rw,ts,h1,h2,⟨h3,h3'⟩,⟨h4,h4'⟩,_⟩:=id ho;refine⟨_,(ab (aU (PW.pt (g7 (gq cI (pv 1) (pv 2)) (g7 (gq cI (pv 1) (pv 3)) (fJ (gq cI (pv 2) (pv 3)))))) (bu j8) aF) (ab (aU (PW.pt (g7 (dF (cf (dv (T.ba d) (gf T d) hr.m (pv 0) (aa (pv 1) ae)))) (g7 (dF (cf (dv (T.ba d) (gf T d) hr.m (pv 0) (aa (pv 2) ae)))) (fJ (dF (cf (dv (T.ba d) (gf T d) hr.m (pv 0) (aa (pv 3) ae)))))))) (bu j8) aF) (ab (aU (PW.pt (g7 (gq il (xL K (ah (T.ba d) (T.ck d) (pv 0)) (pv 1)) (xL K (ah (T.ba d) (T.ck d) (pv 0)) (pv 2))) (fJ (gq il (xL K (ah (T.ba d) (T.cJ d) (pv 0)) (pv 1)) (xL K (ah (T.ba d) (T.cJ d) (pv 0)) (pv 3)))))) (bu j8) aF) (bu (kH (tU cI (aq eR (xL K (ah (T.ba d) (T.cJ d) (pv 0)) (pv 1)) aj) aj) (jK (tU cI (xL K (ah (T.ba d) (T.cJ d) (pv 0)) (pv 2)) (aq bq aj (xL K (ah (T.ba d) (T.ck d) (pv 0)) (pv 3)))))))))),?_⟩;walk_at "rd";have kf:m6 sh x y z=false→Q (.bl false) H:=fun e=>by rw[e] at k;exact k
 have iw:∀ i,i<8→i<(QM.nI sh.widths).length:=fun i hi=>by rw[ak,hsh.wl];exact hi
 have ih:∀ i,i<8→i<(QM.nI sh.heights).length:=fun i hi=>by rw[ak,hsh.hl];exact hi
 refine aN (fun e=>kf (by have e:x=y:=(by lia);unfold m6;simp[e])) fun n1=>aN (fun e=>kf (by have e:x=z:=(by lia);unfold m6;simp[e])) fun n2=>aN (fun e=>kf (by have e:y=z:=(by lia);unfold m6;simp[e])) fun n3=>?_
 refine aT h1 rfl ⟨t,x,r,sh,RR,rfl,ho,by rw[hsh.hl];exact hx,aN (fun e=>kf (by unfold m6;simp only[e,Bool.false_and,Bool.and_false])) fun g1=>?_⟩
 refine aT h1 rfl ⟨t,y,r,sh,RR,rfl,ho,by rw[hsh.hl];exact hy,aN (fun e=>kf (by unfold m6;simp only[e,Bool.false_and,Bool.and_false])) fun g2=>?_⟩
 refine aT h1 rfl ⟨t,z,r,sh,RR,rfl,ho,by rw[hsh.hl];exact hz,aN (fun e=>kf (by unfold m6;simp only[e,Bool.false_and,Bool.and_false])) fun g3=>?_⟩
 refine ag h1 rfl (bj (j:=x) (aL.of h4) rfl (ih x hx) (ag h1 rfl (bj (j:=y) (aL.of h4) rfl (ih y hy) ?_)));rw[aQ,aQ];walk_at "rd";have n1':(x != y)=true:=by simp;lia
 have n2':(x != z)=true:=by simp;lia
 have n3':(y != z)=true:=by simp;lia
 rw[Bool.not_eq_false] at g1 g2 g3;have kf2:((sh.heights.getD x 0==sh.heights.getD y 0)&&((sh.widths.getD x 0==sh.widths.getD z 0)&&((sh.widths.getD x 0 % 4==0)&&(sh.widths.getD y 0==4*sh.heights.getD z 0))))=m6 sh x y z:=by
  unfold m6;rw[n1',n2',n3',g1,g2,g3];rfl
 rw[←kf2] at k;clear kf kf2;have ww:∀ i,sh.widths.getD i 0≤1000:=hsh.wb;have hh:∀ i,sh.heights.getD i 0≤1000:=hsh.hb;have wx:=ww x;have wy:=ww y;have hz2:=hh z;refine aN (fun e=>?_) fun e=>?_
 ·rw[show (sh.heights.getD x 0==sh.heights.getD y 0)=false from by rw[beq_eq_false_iff_ne];lia] at k
  exact k
 rw[show (sh.heights.getD x 0==sh.heights.getD y 0)=true from by rw[beq_iff_eq];lia,Bool.true_and] at k
 refine ag h1 rfl (bj (j:=x) (aL.of h3) rfl (iw x hx) (ag h1 rfl (bj (j:=z) (aL.of h3) rfl (iw z hz) ?_)));rw[aQ,aQ];walk_at "rd";refine aN (fun e=>?_) fun e=>?_
 ·rw[show (sh.widths.getD x 0==sh.widths.getD z 0)=false from by rw[beq_eq_false_iff_ne];lia] at k
  exact k
 rw[show (sh.widths.getD x 0==sh.widths.getD z 0)=true from by rw[beq_iff_eq];lia,Bool.true_and] at k
 refine ag h1 rfl (bj (j:=x) (aL.of h3) rfl (iw x hx) ?_);rw[aQ];walk_at "rd";refine⟨by decide,?_⟩
 refine aN (fun e=>?_) fun e=>?_
 ·rw[show (sh.widths.getD x 0 % 4==0)=true from by rw[beq_iff_eq];lia,Bool.true_and] at k
  refine ag h1 rfl (bj (j:=y) (aL.of h3) rfl (iw y hy) (ag h1 rfl (bj (j:=z) (aL.of h4) rfl (ih z hz) ?_)));rw[aQ,aQ];walk_at "rd";refine⟨⟨by lia,by lia⟩,?_⟩
  rw[show decide (((sh.widths.getD y 0:Nat):Int)=4*((sh.heights.getD z 0:Nat):Int))=(sh.widths.getD y 0==4*sh.heights.getD z 0) from by
   by_cases q:sh.widths.getD y 0=4*sh.heights.getD z 0
   ·rw[decide_eq_true (by lia),beq_iff_eq.2 q]
   ·rw[decide_eq_false (by lia),beq_eq_false_iff_ne.2 q]]
  exact k
 ·rw[show (sh.widths.getD x 0 % 4==0)=false from by rw[beq_eq_false_iff_ne];lia,Bool.false_and] at k
  exact k
structure LG(xw ys zs:List (List Int)):Prop where
 sh:∀ l∈ys++zs,LK l
 xl:∀ l∈xw,l.length≤1000000
 xn:xw.length≤1000
 yz:ys.length+zs.length≤1000
def Mx(K:PySem.W.Frag):Sp:=fun vs H Q _=>∃ kind:Nat,∃ ax ay az,∃ xw ys zs:List (List Int),vs=[.int (kind:Int),.ref ax,.ref ay,.ref az]∧Rows K H ax xw∧Aa H ay ys∧Aa H az zs∧LG xw ys zs∧nv H (.bl (kind != 4||bH xw ys zs)) Q
theorem lp(T:Tx K mg):bg P w K mg base 5 "dot_in_range" ["kind","x_words","y_rows","z_rows"] (Mx K):=by
 refine bg.of [] T.v0 fun sc H Q E hr h=>?_
 obtain⟨kind,ax,ay,az,xw,ys,zs,rfl,hx,hy,hz,hc,k⟩:=h;refine⟨_,(bu (DN (tU il (pv 0) (am T.fi)) (jK (aA (p9 T) hr.m (aa (pv 1) (aa (pv 2) (aa (pv 3) ae))))))),?_⟩;walk_at "rd";refine aN (fun e=>?_) fun e=>?_
 ·rw[show (kind != 4)=true from by simp;lia,Bool.true_or] at k
  exact k H ai.refl
 ·rw[show (kind != 4)=false from by simp;lia,Bool.false_or] at k
  exact⟨ax,ay,az,xw,ys,zs,rfl,hx,hy,hz,hc.sh,hc.xl,hc.xn,hc.yz,k⟩
def LF(sh:Qw.Shape)(RR:Nat→List (List Int)):Prop:=∀ i,i<8→(RR i).length=sh.heights.getD i 0∧∀ l∈RR i,l.length=sh.widths.getD i 0
def hZ(T:Tx K mg)(d:Bool)(r:Ro)(H:Hp)(t:Addr)(m:Qw.Mach):Prop:=∃ RR,jh T d r H t m.shape RR∧LF m.shape RR∧(d=false→∀ i,i<8→RR i=aI (m.tile i) (m.height i) (m.width i))
theorem hZ.fr(h:hZ T d r H t m)(f:Fr S r H r' H')(n0:¬ S 0)(n:∀ k,6≤k→k<16→¬ S (rl d k)):hZ T d r' H' t m:=let ⟨RR,h1,h2⟩:=h;⟨RR,h1.fr f n0 n,h2⟩
theorem pq(h:QM.WF m):tX m.shape:=⟨h.wl,h.hl,fun i=>by have:=h.wb i;unfold Qw.Mach.width at this;lia,fun i=>by have:=h.hb i;unfold Qw.Mach.height at this;lia⟩
theorem fD{x:Qw.Tile}(hx:lR x){h w:Nat}{l:List Int}(e:l∈aI x h w):l.length=w∧∀ v∈l,0≤v∧v<256:=by
 obtain⟨i,_,rfl⟩:=mem_map.1 e;refine⟨by simp[QM.nI,Qw.rowOf],fun v hv=>?_⟩
 obtain⟨n,hn,rfl⟩:=mem_map.1 hv
 have:=Aq hx i w n hn
 lia
structure ND(m:Qw.Mach)(x y z:Nat):Prop where
 hx:1≤m.height x
 hz:1≤m.height z
 hy:m.height y=m.height x
 wz:m.width z=m.width x
 w4:m.width x=4*(m.width x / 4)
 wy:m.width y=4*m.height z
 nxy:x≠y
 nxz:x≠z
theorem ND.of(h:m.fits x y z=true):ND m x y z:=by
 unfold Qw.Mach.fits Qw.Mach.there at h;simp only[Bool.and_eq_true,bne_iff_ne,beq_iff_eq,ne_eq] at h;obtain⟨h1,h2,h3,h4,h5,h6,h7,h8,h9,h10⟩:=h
 exact⟨by lia,by lia,by lia,by lia,by lia,h10,h1,h3⟩
theorem EL(h:kind≠4)(x y z:Qw.Tile)(hh n rows:Nat):Qw.dotRight kind x y z hh n rows=true:=by
 unfold Qw.dotRight Qw.rowRight;rw[all_eq_true];intro i _;rw[show (kind != 4)=true from by simpa using h,Bool.true_or]
def Ce(T:Tx K mg)(d:Bool):Sp:=fun vs H Q _=>∃ t,∃ kind x y z:Nat,∃ r,∃ m:Qw.Mach,vs=[.ref t,.int (kind:Int),.int (x:Int),.int (y:Int),.int (z:Int)]∧hZ T d r H t m∧QM.WF m∧x<8∧y<8∧z<8∧kind≤4∧m.fits x y z=true ∧
 nv H (.bl (d||Qw.dotRight kind (m.tile x) (m.tile y) (m.tile z) (m.height x) (m.width x / 4) (m.height z))) Q
structure BS(m:Qw.Mach)(x y z:Nat)(RR:Nat→List (List Int)):Prop where
 ex:RR x=aI (m.tile x) (m.height x) (4*(m.width x / 4))
 ey:RR y=aI (m.tile y) (m.height x) (4*m.height z)
 ez:RR z=aI (m.tile z) (m.height z) (4*(m.width x / 4))
theorem BS.of(h:∀ i,i<8→RR i=aI (m.tile i) (m.height i) (m.width i))(f:ND m x y z)(hx:x<8)(hy:y<8)(hz:z<8):BS m x y z RR :=
 ⟨by rw[h x hx,←f.w4],by rw[h y hy,f.hy,f.wy],by rw[h z hz,f.wz,←f.w4]⟩
theorem BS.pin(h:BS m x y z RR)(wf:QM.WF m):LG ((RR x).map bI) (RR y) (RR z):=by
 have b1:=wf.hb x;have b2:=wf.hb z;have b3:=wf.wb x;refine⟨fun l hl=>?_,fun l hl=>?_,?_,?_⟩
 ·rcases mem_append.1 hl with hl | hl
  ·rw[h.ey] at hl
   have:=fD (wf.tb y) hl
   exact⟨by lia,by lia,nk this.2⟩
  ·rw[h.ez] at hl
   have:=fD (wf.tb z) hl
   exact⟨by lia,by lia,nk this.2⟩
 ·obtain⟨l0,h0,rfl⟩:=mem_map.1 hl;rw[h.ex] at h0
  have:=(fD (wf.tb x) h0).1
  unfold bI;rw[length_map,length_range];lia
 ·rw[length_map,h.ex,fG];lia
 ·rw[h.ey,h.ez,fG,fG];lia
theorem BS.words(h:BS m x y z RR)(wf:QM.WF m):(RR x).length≤1000∧∀ l∈RR x,l.length % 4=0∧l.length≤1000000∧LN l:=by
 have b1:=wf.hb x;have b3:=wf.wb x;refine⟨by rw[h.ex,fG];lia,fun l hl=>?_⟩
 rw[h.ex] at hl
 have:=fD (wf.tb x) hl
 exact⟨by lia,by lia,nk this.2⟩
theorem jO(T:Tx K mg):de P w K mg base 6 T.z5 "dot_is_in_range" ["self","kind","x","y","z"] (Ce T false):=by
 refine de.of [] T.kj fun sc H Q E hr h=>?_
 obtain⟨t,kind,x,y,z,r,m,rfl,⟨RR,ho,hok,hrr⟩,wf,hx,hy,hz,hk,hf,k⟩:=h;have fit:=ND.of hf;have dr:=BS.of (hrr rfl) fit hx hy hz;have hsh:=pq wf;refine⟨_,(bu (aA (lp T) hr.m (aa (pv 1) (aa (dv (T.ba false) (sJ T false) hr.m (pv 0) (aa (pv 2) ae)) (aa (xL K (ah (T.ba false) (T.dh false) (pv 0)) (pv 3)) (aa (xL K (ah (T.ba false) (T.dh false) (pv 0)) (pv 4)) ae)))))),?_⟩;walk_at "rd";obtain⟨dx,ws,hs,rw,ts,h1,h2,h3,h4,⟨h5,h5'⟩,h6,h7⟩:=id ho;refine aT h1 rfl ⟨t,x,r,m.shape,RR,rfl,ho,hx,(dr.words wf).1,(dr.words wf).2,fun p as H1 s1 np na hp hl=>?_⟩
 have ey:ts[y]?=some (ts[y]'(by lia)):=getElem?_eq_getElem _
 have ez:ts[z]?=some (ts[z]'(by lia)):=getElem?_eq_getElem _
 refine ag (s1 _ _ h1) rfl (fH (aL.of (s1 _ _ h5)) rfl ey (ag (s1 _ _ h1) rfl (fH (aL.of (s1 _ _ h5)) rfl ez ?_)));refine⟨kind,p,_,_,(RR x).map bI,RR y,RR z,rfl,⟨as,aL.of hp,hl⟩,((h7 y _ ey).ill).same s1,((h7 z _ ez).ill).same s1,dr.pin wf,fun H2 s2=>?_⟩
 have e:(kind != 4||bH ((RR x).map bI) (RR y) (RR z))=Qw.dotRight kind (m.tile x) (m.tile y) (m.tile z) (m.height x) (m.width x / 4) (m.height z):=by
  by_cases h4:kind=4
  ·subst h4;rw[dr.ex,dr.ey,dr.ez,kI _ _ _ (wf.tb x) (wf.tb y) (wf.tb z) _ _ _ fit.hx];rfl
  ·rw[EL h4,show (kind != 4)=true from by simpa using h4];rfl
 rw[e];exact k H2 (s1.trans s2)
theorem iy(T:Tx K mg):de P w K mg base 1 T.nW "dot_is_in_range" ["self","kind","x","y","z"] (Ce T true):=by
 refine de.of [] T.i7 fun sc H Q E hr h=>?_
 obtain⟨t,kind,x,y,z,r,m,rfl,ho,wf,hx,hy,hz,hk,hf,k⟩:=h;refine⟨_,(bu j8),?_⟩;walk_at "rd";exact k H ai.refl
theorem de.mono(h:k≤k')(F:de P w K mg base k C x ps sp):de P w K mg base k' C x ps sp:=by
 obtain⟨f,fd,F,a,b⟩:=F.ex
 exact⟨f,fd,⟨F.len,fun A stack s H as us vs Q E hr=>F.run A stack s H as us vs Q E (hr.mono h)⟩,a,b⟩
def IY(d:Bool)(m:Qw.Mach)(kind x y z:Nat):Qw.Mach:=if d=true then m.atRow 0 else (m.setTile x (Qw.dot kind (m.tile x) (m.tile y) (m.tile z) (m.height x) (m.width x / 4) (m.height z))).atRow 0
def Cf(T:Tx K mg)(d:Bool):Sp:=fun vs H Q _=>∃ t,∃ kind x y z:Nat,∃ r,∃ m:Qw.Mach,vs=[.ref t,.int (kind:Int),.int (x:Int),.int (y:Int),.int (z:Int)]∧hZ T d r H t m∧Wf r H∧QM.WF m∧x<8∧y<8∧z<8∧kind≤4∧m.fits x y z=true ∧
 (d=false→Qw.dotRight kind (m.tile x) (m.tile y) (m.tile z) (m.height x) (m.width x / 4) (m.height z)=true)∧∀ r' H',Fr (Rg (rl d 6) (rl d 16)) r H r' H'→hZ T d r' H' t (IY d m kind x y z)→Q .non H'
theorem ur(m:Qw.Mach)(i j:Nat)(v:Qw.Tile)(hl:m.tiles.length=8)(hi:i<8):(m.setTile i v).tile j=if j=i then v else m.tile j:=by
 unfold Qw.Mach.setTile Qw.Mach.tile;dsimp only;rw[getD_eq_getElem?_getD,getD_eq_getElem?_getD,getElem?_set]
 by_cases e:i=j
 ·subst e;rw[if_pos rfl,if_pos rfl,if_pos (by lia)];rfl
 ·rw[if_neg e,if_neg (Ne.symm e)]
theorem F5(hd:Qw.dotRight 4 x y z h n rows=true)(hi:i<h)(hj:j<n) :
  Qw.singleRight (Qw.wordIn x i j)=true∧∀ k q,k<rows→q<2→Qw.shortRight (Qw.shortIn y i (2*k+q))=true∧Qw.shortRight (Qw.shortIn z k (2*j+q))=true:=by
 unfold Qw.dotRight at hd
 have:=(all_eq_true.1 hd) i (mem_range.2 hi)
 unfold Qw.rowRight at this;simp only[bne_self_eq_false,Bool.false_or,Bool.and_eq_true,all_eq_true,mem_range] at this;obtain⟨r1,r2,r3⟩:=this
 exact⟨r1 j hj,fun k q hk hq=>⟨r2 _ (by lia),r3 k hk _ (by lia)⟩⟩
theorem qX(T:Tx K mg):de P w K mg base 6 T.z5 "add_dot" ["self","kind","x","y","z"] (Cf T false):=by
 refine de.of ["words","row"] T.tR fun sc H Q E hr h=>?_
 obtain⟨t,kind,x,y,z,r,m,rfl,⟨RR,ho,hok,hrr⟩,wfr,wf,hx,hy,hz,hk,hf,hd,k⟩:=h;have hd:=hd rfl;have fit:=ND.of hf;have dr:=BS.of (hrr rfl) fit hx hy hz;have hsh:=pq wf;have pin:=dr.pin wf;have b1:=wf.hb x;have b2:=wf.hb z;have b3:=wf.wb x;have dy:∀ l∈RR y,l.length=4*m.height z∧∀ v∈l,0≤v∧v<256:=fun l hl=>by rw[dr.ey] at hl;exact fD (wf.tb y) hl
 have dz:∀ l∈RR z,l.length=4*(m.width x / 4)∧∀ v∈l,0≤v∧v<256:=fun l hl=>by rw[dr.ez] at hl;exact fD (wf.tb z) hl
 have lz:(RR z).length=m.height z:=by rw[dr.ez,fG]
 have ly:(RR y).length=m.height x:=by rw[dr.ey,fG]
 have din:BU ((RR x).map bI) (RR y) (RR z):=by
  refine⟨fun l hl=>⟨by have:=(dy l hl).1;lia,(dy l hl).2⟩,fun l hl=>⟨by have:=(dz l hl).1;lia,(dz l hl).2⟩,by lia,by lia,by have:=fit.hz;lia,pin.xn,fun l hl=>?_⟩
  obtain⟨l0,h0,rfl⟩:=mem_map.1 hl;rw[dr.ex] at h0
  have:=(fD (wf.tb x) h0).1
  unfold bI;rw[length_map,length_range];lia
 have pyin:kind=4→kY ((RR x).map bI) (RR y) (RR z):=fun e4=>by
  subst e4;refine⟨din,by lia,fun l hl=>by have:=(dy l hl).1;lia,fun l hl=>⟨?_,by have:=(dz l hl).1;lia⟩,?_⟩
  ·rw[(dz l hl).1,dr.ez,sw fit.hz]
  ·rw[dr.ex,dr.ey,dr.ez,kI _ _ _ (wf.tb x) (wf.tb y) (wf.tb z) _ _ _ fit.hx];exact hd
 have edot:ik kind ((RR x).map bI) (RR y) (RR z)=(List.range (m.height x)).map fun i=>(List.range (m.width x / 4)).map fun j=>(Qw.dotted kind (Qw.wordIn (m.tile x) i j) (m.tile y) (m.tile z) (m.height z) i j:Int):=by
  rw[dr.ex,dr.ey,dr.ez];exact Df kind hk _ _ _ (wf.tb x) (wf.tb y) (wf.tb z) _ _ _ fit.hz hd
 have hlt:∀ i j,i<m.height x→j<m.width x / 4→Qw.dotted kind (Qw.wordIn (m.tile x) i j) (m.tile y) (m.tile z) (m.height z) i j<2 ^ 32:=fun i j hi hj =>
  yr kind hk _ _ (wf.tb y) (wf.tb z) _ _ i j (qM (wf.tb x) i j) b2 fun e4=>by subst e4;exact F5 hd hi hj
 have erow:=Cm kind (m.tile x) (m.tile y) (m.tile z) (m.height x) (m.width x / 4) (m.height z) (by lia) b1 (wf.ts x) hlt
 rw[←edot] at erow;refine⟨_,(ab (sS 5 sc.nd (aA (Gx T) hr.m (aa (pv 1) (aa (dv (T.ba false) (sJ T false) hr.m (pv 0) (aa (pv 2) ae)) (aa (xL K (ah (T.ba false) (T.dh false) (pv 0)) (pv 3)) (aa (xL K (ah (T.ba false) (T.dh false) (pv 0)) (pv 4)) ae)))))) (ab (fK (dM (own:=[("row",6)]) rfl sc.nd (bT (K:=K) (pv 5)) (aY (N:=["self","kind","x","y","z","words","row"]) (sc:=aC ic) (by decide +kernel)) (fun _ _ _ _ _=>(gN 6 sc.nd)) (fun _ _ _ _ _=>(bE)) (fun _ _ _ _ _=>(aA (ET T) hr.m (aa (pv 6) ae)))) (fL (ah (T.ba false) (T.dh false) (pv 0)) (pv 2) cW)) (aB (aV (T.ba false) (T.bU false) (pv 0) aj)))),?_⟩
 walk_at "rd";obtain⟨dx,ws,hs,rw,ts,h1,h2,h3,h4,⟨h5,h5'⟩,h6,h7⟩:=id ho;refine aT h1 rfl ⟨t,x,r,m.shape,RR,rfl,ho,hx,(dr.words wf).1,(dr.words wf).2,fun p as H1 s1 np na hp hl=>?_⟩
 have ey:ts[y]?=some (ts[y]'(by lia)):=getElem?_eq_getElem _
 have ez:ts[z]?=some (ts[z]'(by lia)):=getElem?_eq_getElem _
 refine ag (s1 _ _ h1) rfl (fH (aL.of (s1 _ _ h5)) rfl ey (ag (s1 _ _ h1) rfl (fH (aL.of (s1 _ _ h5)) rfl ez ?_)));refine⟨kind,p,_,_,(RR x).map bI,RR y,RR z,rfl,⟨as,aL.of hp,hl⟩,((h7 y _ ey).rows).same s1,((h7 z _ ez).rows).same s1,⟨din,pyin⟩,fun q bs H2 s2 nq nb hq hlq=>?_⟩
 have rq:Rows K H2 q (ik kind ((RR x).map bI) (RR y) (RR z)):=⟨bs,aL.of hq,hlq⟩;refine⟨q,rfl,⟨_,aL.of hq⟩,fun D hD=>qh hD rq (by rw[edot,length_map,length_range];lia) mG (fun b l H3 Kt hl hb1 hk=>?_) fun H3 cs n3 l3 e3 s3=>?_⟩
 ·walk_at "rd";refine eZ (aL.of hb1) ⟨?_,fun v hv=>?_⟩ hk
  ·rw[edot] at hl;obtain⟨i,_,rfl⟩:=mem_map.1 hl;rw[length_map,length_range];lia
  ·rw[edot] at hl;obtain⟨i,_,rfl⟩:=mem_map.1 hl;obtain⟨j,_,rfl⟩:=mem_map.1 hv;lia
 ·have s12:=s1.trans s2;refine Dr ho wfr hx (s12.trans s3) (s12.free hD) (fun b hb=>⟨s12.free (n3 b hb).1,(n3 b hb).2⟩) e3 l3 fun r' H' f' o'=>k r' H' f' ⟨_,o',fun i hi=>?_,fun _ i hi=>?_⟩
  ·rw[←erow]
   by_cases e:i=x
   ·subst e;rw[fS];refine⟨fG _ _ _,fun l hl=>?_⟩
    obtain⟨i0,_,rfl⟩:=mem_map.1 hl;rw[t8,←fit.w4];rfl
   ·rw[jp e];exact hok i hi
  ·rw[←erow];have et:(IY false m kind x y z).tile i=if i=x then (Qw.dot kind (m.tile x) (m.tile y) (m.tile z) (m.height x) (m.width x / 4) (m.height z)) else m.tile i:=ur m x i _ wf.tl hx
   rw[et]
   by_cases e:i=x
   ·subst e;rw[fS,if_pos rfl];show _=aI _ (m.height i) (m.width i);rw[←fit.w4]
   ·rw[jp e,if_neg e];exact hrr rfl i hi
theorem nZ(T:Tx K mg):de P w K mg base 1 T.nW "add_dot" ["self","kind","x","y","z"] (Cf T true):=by
 refine de.of [] T.pj fun sc H Q E hr h=>?_
 obtain⟨t,kind,x,y,z,r,m,rfl,⟨RR,⟨dx,ws,hs,rw,ts,h1,h2,h3,h4,h5,h6,h7⟩,hok,hrr⟩,wfr,wf,hx,hy,hz,hk,hf,hd,k⟩:=h;refine⟨_,(aB (aV (T.sW) (T.hG) (pv 0) aj)),?_⟩;walk_at "rd";refine bv h1 (by show 4<1000;decide) ?_
 rw[nF];have f:=Fr.upd (S:=Rg (rl true 6) (rl true 7)) (o':=.ins (T.dY true) dx (tF (.int 0) (.ref ws) (.ref hs) (.ref rw))) wfr h1 (by rw[h2];unfold rl;constructor<;>lia)
 have n0:¬ Rg (rl true 6) (rl true 7) 0:=by unfold rl;lia
 refine k r _ (f.mono fun k hk=>⟨hk.1,by have:=hk.2;unfold rl at *;lia⟩) ⟨RR,⟨dx,ws,hs,rw,ts,af,h2,f.keep h3.1 h3.2 n0,f.keep h4.1 h4.2 n0,f.keep h5.1 h5.2 (by unfold rl;lia),h6,fun i x e=>(h7 i x e).fr f n0 (by unfold rl;lia)⟩,hok,fun z=>by cases z⟩
theorem lD(T:Tx K mg)(d:Bool):de P w K mg base 6 (T.dY d) "dot_is_in_range" ["self","kind","x","y","z"] (Ce T d):=match d with
 | false=>de.mono (by decide) (jO T)
 | true=>de.mono (by decide) (iy T)
theorem wV(T:Tx K mg)(d:Bool):de P w K mg base 6 (T.dY d) "add_dot" ["self","kind","x","y","z"] (Cf T d):=match d with
 | false=>de.mono (by decide) (qX T)
 | true=>de.mono (by decide) (nZ T)
def N7:Sp:=fun vs H Q _=>∃ told place n:Nat,vs=[.int (told:Int),.int (place:Int),.int (n:Int)]∧1≤n∧place+n≤16384∧nv H (.int ((told ||| 2 ^ (place / 1024)) ||| 2 ^ ((place+n - 1) / 1024):Nat)) Q
theorem oF(T:Tx K mg):bg P w K mg base 2 "with_pages" ["told","place","length"] N7:=by
 refine bg.of ["page"] T.zx fun sc H Q E hr h=>?_
 obtain⟨told,place,n,rfl,hn,hpl,k⟩:=h;refine⟨_,(ab (dS PassesOwn.never rfl (yT (K:=K) (aA (li T) hr.m (aa (pv 1) (aa (pv 2) ae)))) (gN 3 sc.nd) (aB (Gi (i:=0) sc.nd rfl (Or.inl rfl) (aq kJ aj (pv 3)) M8))) (bu (pv 0))),?_⟩;walk_at "rd";refine⟨place,n,rfl,hn,fun tp H1 s1 et0=>?_⟩
 have et:lP K H1 tp (iv [((place / 1024:Nat):Int),(((place+n - 1) / 1024:Nat):Int)]):=lP.of et0;have l1:place / 1024<16:=by lia
 have l2:(place+n - 1) / 1024<16:=by lia
 generalize place / 1024=lo at *;generalize (place+n - 1) / 1024=up at *;refine⟨tp,rfl,⟨_,et⟩,?_⟩;have pw:∀ p:Nat,(1:Int)*2 ^ (p:Int).toNat=((2 ^ p:Nat):Int):=fun p=>by rw[Int.toNat_natCast,Int.one_mul];norm_cast
 refine Nd (xs:=iv [(lo:Int),(up:Int)]) (fun i σ H'=>∃ v:Option V,σ=[some (.int ((if i=0 then told else if i=1 then told ||| 2 ^ lo else (told ||| 2 ^ lo) ||| 2 ^ up:Nat):Int)),some (.int (place:Int)),some (.int (n:Int)),v]∧H'=H1) ⟨none,rfl,rfl⟩ (fun i σ H' ⟨_,_,e⟩=>by rw[e];exact et) ?_ ?_
 ·rintro i x σ H' hi ⟨v,rfl,rfl⟩
  match i,hi with
  | 0,hi =>
   have ex:x=.int (lo:Int):=(Option.some.inj hi).symm;subst ex;walk_at "rd";refine⟨⟨by lia,by lia,by decide⟩,?_⟩
   rw[pw,El];exact⟨rfl,rfl⟩
  | 1,hi =>
   have ex:x=.int (up:Int):=(Option.some.inj hi).symm;subst ex;walk_at "rd";refine⟨⟨by lia,by lia,by decide⟩,?_⟩
   rw[pw,El];exact⟨rfl,rfl⟩
  | i+2,hi=>simp at hi
 ·rintro σ H' ⟨v,rfl,rfl⟩
  walk_at "rd";exact k _ s1
section
variable(a b c:V)
theorem yq(v:V):be "moved" v (fF a b c)=fF v b c:=rfl
theorem G3(v:V):be "pages_read" v (fF a b c)=fF a v c:=rfl
theorem Bv(v:V):be "pages_written" v (fF a b c)=fF a b v:=rfl
end
def Ms(C:Addr)(fs:List (Str×V)):Sp:=fun vs H Q _=>∃ x dx,vs=[.ref x]∧H x=some (.ins C dx [])∧Q .non (upd H x (.ins C dx fs))
theorem qT(T:Tx K mg):qL P w K mg base 1 "Footprint" T.aZ ["self"] (Ms T.aZ (fF (.int 0) (.int 0) (.int 0))):=by
 refine qL.of [] T.tM T.AX fun sc H Q E hr h=>?_
 obtain⟨x,dx,rfl,hx,k⟩:=h;refine⟨_,(ab (aV (T.bM) (T.eL) (pv 0) aj) (ab (aV (T.bM) (T.cR) (pv 0) aj) (aB (aV (T.bM) (T.cr) (pv 0) aj)))),?_⟩;walk_at "rd";refine bv hx (by show 0<1000;decide) (bv af (by show 1<1000;decide) (bv af (by show 2<1000;decide) ?_))
 simp only[upd_upd];exact k
abbrev BR(T:Tx K mg)(d:Bool)(r:Ro)(H:Hp)(g:Addr)(m:Qw.Mach)(ta:Qw.Tally):Prop:=lQ T d r H g m.ground m.pages ta
def AA(o:Option Nat):V:=match o with
 | none=>.non
 | some p=>.int (p:Int)
def JC(T:Tx K mg)(d:Bool):Sp:=fun vs H Q _=>∃ g,∃ (place n:Nat) (store:Bool),∃ r m ta,vs=[.ref g,.int (place:Int),.int (n:Int),.int (if store=true then 2 else 1)]∧BR T d r H g m ta∧QM.WF m∧1≤n∧n≤64∧place+n≤16384 ∧
 nv H (AA (if d=true then none else (Qw.pagesOf place n).find? fun (p:Nat)=>!m.opens store p)) Q
theorem jg(T:Tx K mg):de P w K mg base 1 T.aZ "first_closed" ["self","place","length","wanted"] (JC T true):=by
 refine de.of [] T.jT fun sc H Q E hr h=>?_
 obtain⟨g,place,n,store,r,m,ta,rfl,ho,wf,hn,hn2,hpl,k⟩:=h;refine⟨_,(bu cH),?_⟩;walk_at "rd";exact k H ai.refl
def JB(T:Tx K mg)(d:Bool):Sp:=fun vs H Q _=>∃ g,∃ place n:Nat,∃ r m ta,vs=[.ref g,.int (place:Int),.int (n:Int)]∧BR T d r H g m ta∧Wf r H∧QM.WF m∧1≤n∧n≤1000∧(d=true→n≤64)∧place+n≤16384 ∧
 ∀ r' H' p l,Fr (Rg (rl d 1) (rl d 2)) r H r' H'→BR T d r' H' g m (if d=true then ta.add false (Qw.pagesOf place n) else ta)→H p=none→r' p=0→H' p=some (.lst (iv l))→l.length=n→(d=false→l=QM.nI (m.bytes place n))→Q (.ref p) H'
theorem qe(T:Tx K mg):de P w K mg base 3 T.aZ "read" ["self","place","length"] (JB T true):=by
 refine de.of [] T.rM fun sc H Q E hr h=>?_
 obtain⟨g,place,n,r,m,ta,rfl,⟨dx,hg,hrg,nd1,nd2⟩,wfr,wf,hn,hn2,hn3,hpl,k⟩:=h;have hn3:=hn3 rfl;have S1:Rg (rl true 1) (rl true 2) (r g):=by rw[hrg];unfold rl;constructor<;>lia
 refine⟨_,(ab (mJ (T.bM) (T.eL) (pv 0) aj) (ab (aV (T.bM) (T.cR) (pv 0) (aA (oF T) hr.m (aa (ah (T.bM) (T.cR) (pv 0)) (aa (pv 1) (aa (pv 2) ae))))) (bu (aq mL (aJ (aa aj ae)) (pv 2))))),?_⟩;walk_at "rd";refine uV hg rfl ?_
 walk_at "rd";refine⟨dx,_,hg,by show 3<1000;decide,?_⟩
 rw[yq];have f1:=Fr.upd (S:=Rg (rl true 1) (rl true 2)) (o':=.ins T.aZ dx (fF (.int ((ta.rows:Int)+1)) (.int (Qw.bitsOf ta.read:Int)) (.int (Qw.bitsOf ta.written:Int)))) wfr hg S1;have hg1:(upd H g (.ins T.aZ dx (fF (.int ((ta.rows:Int)+1)) (.int (Qw.bitsOf ta.read:Int)) (.int (Qw.bitsOf ta.written:Int))))) g=some (.ins T.aZ dx (fF (.int ((ta.rows:Int)+1)) (.int (Qw.bitsOf ta.read:Int)) (.int (Qw.bitsOf ta.written:Int)))):=af;generalize upd H g (.ins T.aZ dx (fF (.int ((ta.rows:Int)+1)) (.int (Qw.bitsOf ta.read:Int)) (.int (Qw.bitsOf ta.written:Int))))=H1 at *;refine ag hg1 rfl ⟨_,place,n,rfl,hn,hpl,fun H2 s2=>?_⟩
 have b:=BE ta.read nd1 place n hn hn3;rw[←b.1];have hg2:=s2 _ _ hg1;have f2:=f1.trans (Fr.same f1.wf s2);refine bv hg2 (by show 3<1000;decide) ?_
 rw[G3];have f3:=f2.trans (Fr.upd (S:=Rg (rl true 1) (rl true 2)) (o':=.ins T.aZ dx (fF (.int ((ta.rows:Int)+1)) (.int (Qw.bitsOf (ta.read++(Qw.pagesOf place n).filter fun (r:Nat)=>!ta.read.contains r):Int)) (.int (Qw.bitsOf ta.written:Int)))) f2.wf hg2 S1)
 have hg3:(upd H2 g (.ins T.aZ dx (fF (.int ((ta.rows:Int)+1)) (.int (Qw.bitsOf (ta.read++(Qw.pagesOf place n).filter fun (r:Nat)=>!ta.read.contains r):Int)) (.int (Qw.bitsOf ta.written:Int))))) g=some (.ins T.aZ dx (fF (.int ((ta.rows:Int)+1)) (.int (Qw.bitsOf (ta.read++(Qw.pagesOf place n).filter fun (r:Nat)=>!ta.read.contains r):Int)) (.int (Qw.bitsOf ta.written:Int)))):=af
 generalize upd H2 g (.ins T.aZ dx (fF (.int ((ta.rows:Int)+1)) (.int (Qw.bitsOf (ta.read++(Qw.pagesOf place n).filter fun (r:Nat)=>!ta.read.contains r):Int)) (.int (Qw.bitsOf ta.written:Int))))=H3 at *
 refine⟨by decide,fun p1 hp1=>mB (n:=n) af rfl (by lia) fun p hp=>?_⟩
 have s4:ai H3 (upd (upd H3 p1 (.lst [V.int 0])) p (.lst (List.replicate n (V.int 0)))):=(ai.new hp1).trans (ai.new hp);have np3:H3 p=none:=(ai.new hp1).free hp;have f4:=f3.trans (Fr.same f3.wf s4);have npH:H p=none:=by
  cases e:H p with
  | none=>rfl
  | some o=>exact absurd np3 (f3.dm p (bB e))
 refine k r _ p (List.replicate n 0) f4 ⟨dx,s4 _ _ hg3,hrg,b.2,nd2⟩ npH (wfr p npH) (by rw[af,kN]) length_replicate (fun z=>by cases z)
def JA(T:Tx K mg)(d:Bool):Sp:=fun vs H Q _=>∃ g b,∃ place n:Nat,∃ r m ta,∃ (l:List Int) (s:List Nat),vs=[.ref g,.int (place:Int),.ref b]∧BR T d r H g m ta∧Wf r H∧QM.WF m∧1≤n∧n≤8192∧(d=true→n≤64)∧place+n≤16384∧H b=some (.lst (iv l))∧r b=0∧l.length=n∧(d=false→l=QM.nI s) ∧
 ∀ r' H',Fr (Rg (rl d 1) (rl d 3)) r H r' H'→BR T d r' H' g (m.lay place s) (if d=true then ta.add true (Qw.pagesOf place n) else ta)→Q .non H'
theorem oU(T:Tx K mg):de P w K mg base 3 T.aZ "write" ["self","place","data"] (JA T true):=by
 refine de.of [] T.qy fun sc H Q E hr h=>?_
 obtain⟨g,b0,place,n,r,m,ta,l,s0,rfl,⟨dx,hg,hrg,nd1,nd2⟩,wfr,wf,hn,hn2,hn3,hpl,hb,hrb,hll,hls,k⟩:=h;have hn3:=hn3 rfl;have S1:Rg (rl true 1) (rl true 2) (r g):=by rw[hrg];unfold rl;constructor<;>lia
 have n0:¬ Rg (rl true 1) (rl true 2) 0:=by unfold rl;lia
 refine⟨_,(ab (mJ (T.bM) (T.eL) (pv 0) aj) (aB (aV (T.bM) (T.cr) (pv 0) (aA (oF T) hr.m (aa (ah (T.bM) (T.cr) (pv 0)) (aa (pv 1) (aa (tW K T.eB (aa (pv 2) ae)) ae))))))),?_⟩;walk_at "rd";refine uV hg rfl ?_
 walk_at "rd";refine⟨dx,_,hg,by show 3<1000;decide,?_⟩
 rw[yq];have f1:=Fr.upd (S:=Rg (rl true 1) (rl true 2)) (o':=.ins T.aZ dx (fF (.int ((ta.rows:Int)+1)) (.int (Qw.bitsOf ta.read:Int)) (.int (Qw.bitsOf ta.written:Int)))) wfr hg S1;have hg1:(upd H g (.ins T.aZ dx (fF (.int ((ta.rows:Int)+1)) (.int (Qw.bitsOf ta.read:Int)) (.int (Qw.bitsOf ta.written:Int))))) g=some (.ins T.aZ dx (fF (.int ((ta.rows:Int)+1)) (.int (Qw.bitsOf ta.read:Int)) (.int (Qw.bitsOf ta.written:Int)))):=af;generalize upd H g (.ins T.aZ dx (fF (.int ((ta.rows:Int)+1)) (.int (Qw.bitsOf ta.read:Int)) (.int (Qw.bitsOf ta.written:Int))))=H1 at *;refine ag hg1 rfl (cQ (aL.of (f1.keep hb hrb n0).1) ⟨_,place,n,by rw[aM,hll],hn,hpl,fun H2 s2=>?_⟩)
 have b:=BE ta.written nd2 place n hn hn3;rw[←b.1];have hg2:=s2 _ _ hg1;have f2:=f1.trans (Fr.same f1.wf s2);refine bv hg2 (by show 3<1000;decide) ?_
 rw[Bv];have f3:=f2.trans (Fr.upd (S:=Rg (rl true 1) (rl true 2)) (o':=.ins T.aZ dx (fF (.int ((ta.rows:Int)+1)) (.int (Qw.bitsOf ta.read:Int)) (.int (Qw.bitsOf (ta.written++(Qw.pagesOf place n).filter fun (r:Nat)=>!ta.written.contains r):Int)))) f2.wf hg2 S1)
 exact k r _ (f3.mono fun k hk=>⟨hk.1,by have:=hk.2;unfold rl at *;lia⟩) ⟨dx,af,hrg,nd1,b.2⟩
theorem de.imp(F:de P w K mg base k C x ps sp)(h:∀ vs H Q E,sp' vs H Q E→sp vs H Q E):de P w K mg base k C x ps sp':=by
 obtain⟨f,fd,F,a,b⟩:=F.ex
 exact⟨f,fd,F.imp h,a,b⟩
theorem Fr.ofExt(w:Wf r H)(h:xD c H H')(hc:H' c=some o)(hS:S (r c)):Fr S r H r H':=by
 refine⟨fun a u e n=>h a u e fun z=>n (by rw[z];exact hS),fun _ _=>rfl,fun a ha=>?_,fun a ha=>?_⟩
 ·by_cases z:a=c
  ·rw[z,hc];exact fun z=>nomatch z
  ·cases e:H a with
   | none=>exact absurd e ha
   | some u=>exact bB (h a u e z)
 ·cases e:H a with
  | none=>exact w a e
  | some u =>
   by_cases z:a=c
   ·rw[z,hc] at ha;cases ha
   ·rw[h a u e z] at ha;cases ha
theorem oT(T:Tx K mg)(d:Bool):de P w K mg base 2 (T.NG d) "first_closed" ["self","place","length","wanted"] (JC T d):=match d with
 | true=>de.mono (by decide) (jg T)
 | false=>de.imp (kL T) fun vs H Q E h=>by
  obtain⟨g,place,n,store,r,m,ta,rfl,⟨dx,c,pg,hg,_,_,⟨hpg,_⟩⟩,wf,hn,hn2,hpl,k⟩:=h;refine⟨g,c,pg,_,place,n,_,rfl,⟨dx,hg⟩,hpg,by rw[ak,wf.pl],hn,hpl,?_⟩
  rw[if_neg (by decide),Fq m wf store place n hn hn2] at k
  have e:j7 (QM.nI m.pages) (place / 1024) ((place+n - 1) / 1024) (if store=true then 2 else 1)=AA (qF m.pages (place / 1024) ((place+n - 1) / 1024) (if store=true then 2 else 1)):=by
   unfold j7 qF;rw[aQ,aQ];have ew:((if store=true then 2 else 1:Int))=((if store=true then 2 else 1:Nat):Int):=by cases store<;>rfl
   rw[ew];generalize (if store=true then 2 else 1:Nat)=want
   by_cases h1:m.pages.getD (place / 1024) 0<want
   ·rw[if_pos h1,if_pos (by lia)];rfl
   ·rw[if_neg h1,if_neg (by lia)]
    by_cases h2:m.pages.getD ((place+n - 1) / 1024) 0<want
    ·rw[if_pos h2,if_pos (by lia)];rfl
    ·rw[if_neg h2,if_neg (by lia)];rfl
  rw[e];exact k
theorem CJ(T:Tx K mg)(d:Bool):de P w K mg base 3 (T.NG d) "read" ["self","place","length"] (JB T d):=match d with
 | true=>de.mono (by decide) (qe T)
 | false=>de.mono (by decide) (de.imp (iS T) fun vs H Q E h=>by
  obtain⟨g,place,n,r,m,ta,rfl,ho,wfr,wf,hn,hn2,hn3,hpl,k⟩:=h;obtain⟨dx,c,pg,hg,hrg,⟨hc,hrc⟩,hpg⟩:=id ho;refine⟨g,c,pg,_,place,n,rfl,⟨dx,hg⟩,hc,fun p H' s np e=>?_⟩
  rw[←wA m place n (by rw[wf.gs];exact hpl)] at e
  refine k r H' p _ (Fr.same wfr s) ?_ np (wfr p np) e (by rw[ak];unfold Qw.Mach.bytes;rw[length_map,length_range]) fun _=>rfl
  exact lQ.fr ho (Fr.same (S:=fun _=>False) wfr s) fun _ _ _ z=>z)
theorem AL(T:Tx K mg)(d:Bool):de P w K mg base 3 (T.NG d) "write" ["self","place","data"] (JA T d):=match d with
 | true=>de.mono (by decide) (oU T)
 | false=>de.mono (by decide) (de.imp (ls T) fun vs H Q E h=>by
  obtain⟨g,b0,place,n,r,m,ta,l,s0,rfl,ho,wfr,wf,hn,hn2,hn3,hpl,hb,hrb,hll,hls,k⟩:=h;have hls:=hls rfl;obtain⟨dx,c,pg,hg,hrg,⟨hc,hrc⟩,⟨hpg,hrp⟩⟩:=id ho;refine⟨g,c,pg,b0,_,l,place,rfl,⟨dx,hg⟩,hc,aL.of hb,fun z=>by rw[z,hrc] at hrb;unfold rl at hrb;lia,by rw[ak,hll];have:=wf.gs;rw[←Array.length_toList] at this;lia,fun H' e x=>?_⟩
  have f:Fr (Rg (rl false 2) (rl false 3)) r H r H':=Fr.ofExt wfr x e (by rw[hrc];unfold rl;constructor<;>lia)
  refine k r H' (f.mono fun k hk=>⟨by have:=hk.1;unfold rl at *;lia,hk.2⟩) ?_
  have k1:=f.keep hg hrg (by unfold rl;lia)
  have k3:=f.keep hpg hrp (by unfold rl;lia)
  refine⟨dx,c,pg,k1.1,k1.2,⟨?_,hrc⟩,k3⟩;rw[e,hls];exact congrArg (fun z=>some (HO.lst (iv z))) (GH m place s0).symm)
def Mn(T:Tx K mg):Sp:=fun vs H Q _=>∃ a sh s r,∃ pr:Qw.Program,vs=[.ref a,.ref sh]∧dX T.dP H a s∧ko r H sh pr.shapes∧(bm pr s→Q (.bl false) H)∧(¬ bm pr s→Q (.bl true) H)
theorem DV:Iz a b c≥n↔a≥n∨b≥n∨c≥n:=by unfold Iz;split<;>(split<;>lia)
theorem CF(T:Tx K mg):bg P w K mg base 1 "is_step" ["step","shapes"] (Mn T):=by
 refine bg.of [] T.Fh fun sc H Q E hr h=>?_
 obtain⟨a,sh,s0,r,pr,rfl,⟨dx,ha⟩,⟨as,hsh,_,hl,_⟩,k1,k2⟩:=h;refine⟨_,(ab (aU (PW.pt (g7 (gq mM (ah (T.aD) (T.bf) (pv 0)) (am T.D8)) (fJ (gq AB (dZ (Fs rfl) (by rfl) T.Nl boot_max (aa (ah (T.aD) (T.cu) (pv 0)) (aa (ah (T.aD) (T.iV) (pv 0)) (aa (ah (T.aD) (T.kh) (pv 0)) ae)))) (am T.yn))))) (bu j8) aF) (bu (DN (tU il (ah (T.aD) (T.bf) (pv 0)) (am T.uh)) (jK (tU kb (ah (T.aD) (T.gk) (pv 0)) (tW K T.eB (aa (pv 1) ae))))))),?_⟩
 walk_at "rd";refine ag ha rfl ?_
 walk_at "rd";refine aN (fun e=>k1 (by unfold bm;lia)) fun e1=>?_
 refine ag ha rfl (ag ha rfl (ag ha rfl ⟨_,rfl,_,rfl,_,rfl,?_⟩));refine aN (fun e=>k1 (by have:=DV.1 e;unfold bm;lia)) fun e2=>?_
 have e2':¬ ((s0.x:Int)≥8∨(s0.y:Int)≥8∨(s0.z:Int)≥8):=fun z=>e2 (DV.2 z)
 refine ag ha rfl ?_
 walk_at "rd";refine aN (fun e=>k2 (by unfold bm;lia)) fun e3=>?_
 refine ag ha rfl (cQ (aL.of hsh) ?_);walk_at "rd";rw[length_map,hl.1,length_map]
 by_cases hv:pr.shapes.length≤s0.v
 ·rw[decide_eq_false (by lia)]
  exact k1 (by unfold bm;lia)
 ·rw[decide_eq_true (by lia)]
  exact k2 (by unfold bm;lia)
def Eg(d:Bool)(m:Qw.Mach)(s:Qw.Step):Nat:=if m.fits s.x s.y s.z=false then 3 else if (d||Qw.dotRight (s.kind - 6) (m.tile s.x) (m.tile s.y) (m.tile s.z) (m.height s.x) (m.width s.x / 4) (m.height s.z))=false then 5 else 0
def My(T:Tx K mg)(d:Bool):Sp:=fun vs H Q _=>∃ a t,∃ s:Qw.Step,∃ r m,vs=[.ref a,.ref t]∧dX T.dP H a s∧hZ T d r H t m∧QM.WF m∧s.x<8∧s.y<8∧s.z<8∧bV s∧nv H (.int (Eg d m s:Nat)) Q
theorem y6(T:Tx K mg)(d:Bool):bg P w K mg base 7 "dot_fault" ["step","tiles"] (My T d):=by
 refine bg.of [] T.Bp fun sc H Q E hr h=>?_
 obtain⟨a,t,s0,r,m,rfl,⟨dx,ha⟩,ho,wf,hx,hy,hz,hd,k⟩:=h;obtain⟨RR,ho1,_⟩:=id ho;obtain⟨dx1,ws,hs,rw,ts,h1,h2,_⟩:=id ho1;refine⟨_,(ab (aU (dF (cf (dv (T.ba d) (vo T d) hr.m (pv 1) (aa (ah (T.aD) (T.cu) (pv 0)) (aa (ah (T.aD) (T.iV) (pv 0)) (aa (ah (T.aD) (T.kh) (pv 0)) ae)))))) (bu (am T.A6)) aF) (ab (aU (dF (cf (dv (T.ba d) (lD T d) hr.m (pv 1) (aa (aO (T.aD) (ke T) hr.m (pv 0)) (aa (ah (T.aD) (T.cu) (pv 0)) (aa (ah (T.aD) (T.iV) (pv 0)) (aa (ah (T.aD) (T.kh) (pv 0)) ae))))))) (bu (am T.vL)) aF) (bu (am T.pf)))),?_⟩;walk_at "rd";have hd2:6≤s0.kind∧s0.kind≤10:=hd;refine aT h1 rfl (ag ha rfl (ag ha rfl (ag ha rfl ⟨t,s0.x,s0.y,s0.z,r,m.shape,RR,rfl,ho1,hx,hy,hz,pq wf,ob ?_⟩)));rw[←IT];unfold Eg at k;refine aN (fun e=>?_) fun e=>?_
 ·rw[if_pos e] at k;exact k H ai.refl
 rw[if_neg e] at k;rw[Bool.not_eq_false] at e;refine aT h1 rfl (aT ha rfl ⟨a,s0,rfl,⟨dx,ha⟩,ag ha rfl (ag ha rfl (ag ha rfl ?_))⟩);refine⟨t,s0.kind - 6,s0.x,s0.y,s0.z,r,m,by rw[show ((s0.kind - 6:Nat):Int)=(s0.kind:Int) - 6 by lia],ho,wf,hx,hy,hz,by lia,e,fun H1 s1=>ob (aN (fun e2=>?_) fun e2=>?_)⟩
 ·rw[if_pos e2] at k;exact k H1 s1
 ·rw[if_neg e2] at k;exact k H1 s1
theorem Hh{α:Type}{f g:α→Bool}:∀ {l:List α},(∀ x∈l,f x=g x)→l.all f=l.all g
 | [],_=>rfl
 | x::l,h=>by rw[all_cons,all_cons,h x mem_cons_self,Hh fun y hy=>h y (mem_cons_of_mem _ hy)]
theorem ql(s:Qw.Shape)(hw:s.widths.length=8)(hh:s.heights.length=8):gH (QM.nI s.nums)=s.ok:=by
 have hi:((QM.nI s.nums).drop 1).take 8=QM.nI s.widths:=by
  unfold Qw.Shape.nums QM.nI;rw[map_cons,drop_succ_cons,drop_zero,map_append,List.take_left' (by rw[length_map,hw])]
 have hj:((QM.nI s.nums).drop 9).take 8=QM.nI s.heights:=by
  unfold Qw.Shape.nums QM.nI;rw[map_cons,drop_succ_cons,map_append,List.drop_left' (by rw[length_map,hw]),take_of_length_le (by rw[length_map,hh];decide)]
 unfold gH Qw.Shape.ok;rw[hi,hj];have hl:(QM.nI s.nums).length=17:=by unfold Qw.Shape.nums;rw[ak,length_cons,length_append,hw,hh]
 rw[decide_eq_true hl,Bool.true_and];have h0:decide ((QM.nI s.nums).getD 0 0≤15)=decide (s.start<Qw.HIGH):=decide_eq_decide.2 (by show (s.start:Int)≤15↔s.start<16;lia)
 rw[h0];have e1:(s.widths.length==Qw.TILES)=true:=by rw[hw];rfl
 have e2:(s.heights.length==Qw.TILES)=true:=by rw[hh];rfl
 rw[e1,e2,Bool.true_and,Bool.true_and]
 congr 1
 unfold QM.nI;rw[List.zip_map,all_map];apply Hh
 rintro⟨a,b⟩ _
 show qR (a:Int) (b:Int)=_;unfold qR;have c1:decide ((a:Int)≤64)=decide (a≤Qw.WIDE):=decide_eq_decide.2 (by show (a:Int)≤64↔a≤64;lia)
 have c2:decide ((b:Int)≤16)=decide (b≤Qw.HIGH):=decide_eq_decide.2 (by show (b:Int)≤16↔b≤16;lia)
 have c3:∀ n:Nat,decide ((n:Int)=0)=(n==0):=fun n=>by
  cases n with
  | zero=>rfl
  | succ n=>rw[decide_eq_false (by lia)];rfl
 rw[c1,c2,c3,c3]
theorem Lm(h:bm pr s):QM.pyFaultS d m pr s=1:=by unfold QM.pyFaultS;rw[if_pos h]
theorem G0(h:¬ bm pr s)(hk:s.kind=1)(ha:pr.shapes[s.v]?=some a):QM.pyFaultS d m pr s=if a.ok=false then 2 else 0:=by
 have n1:¬ (s.kind=3∨aH s):=by unfold aH;lia
 have n2:¬ bV s:=by unfold bV;lia
 unfold QM.pyFaultS;rw[if_neg h]
 by_cases e:a.ok=false
 ·rw[if_pos e,if_pos ⟨hk,fun b hb=>by rw[ha] at hb;rw[←Option.some.inj hb];exact e⟩]
 ·rw[if_neg e,if_neg (fun z=>e (z.2 a ha)),if_neg (fun z=>n1 z.1),if_neg n2]
theorem Ed(h:¬ bm pr s)(hk:s.kind=3∨aH s):QM.pyFaultS d m pr s=if m.there s.x=false then 3 else 0:=by
 have n1:¬ s.kind=1:=by unfold aH at hk;lia
 have n2:¬ bV s:=by unfold aH at hk;unfold bV;lia
 unfold QM.pyFaultS;rw[if_neg h,if_neg (fun z=>n1 z.1)]
 by_cases e:m.there s.x=false
 ·rw[if_pos e,if_pos ⟨hk,e⟩]
 ·rw[if_neg e,if_neg (fun z=>e z.2),if_neg n2]
theorem Ll(h:¬ bm pr s)(hk:bV s):QM.pyFaultS d m pr s=Eg d m s:=by
 have n0:¬ s.kind=1:=by unfold bV at hk;lia
 have n1:¬ (s.kind=3∨aH s):=by unfold bV at hk;unfold aH;lia
 unfold QM.pyFaultS Eg;rw[if_neg h,if_neg (fun z=>n0 z.1),if_neg (fun z=>n1 z.1),if_pos hk]
 by_cases e:m.fits s.x s.y s.z=false
 ·rw[if_pos e,if_pos e]
 ·rw[if_neg e,if_neg e]
  cases d with
  | true=>rw[Bool.true_or,if_neg (fun z:true=false∧_=>by cases z.1),if_neg (fun z:true=false=>by cases z)]
  | false =>
   rw[Bool.false_or]
   by_cases e2:Qw.dotRight (s.kind - 6) (m.tile s.x) (m.tile s.y) (m.tile s.z) (m.height s.x) (m.width s.x / 4) (m.height s.z)=false
   ·rw[if_pos e2,if_pos ⟨rfl,e2⟩]
   ·rw[if_neg e2,if_neg (fun z=>e2 z.2)]
theorem IS(h:¬ bm pr s)(n0:¬ s.kind=1)(n1:¬ (s.kind=3∨aH s))(n2:¬ bV s):QM.pyFaultS d m pr s=0:=by
 unfold QM.pyFaultS;rw[if_neg h,if_neg (fun z=>n0 z.1),if_neg (fun z=>n1 z.1),if_neg n2]
def Mu(T:Tx K mg)(d:Bool):Sp:=fun vs H Q _=>∃ p t r,∃ m:Qw.Mach,∃ pr,∃ en:Option (List Nat),vs=[.ref p,.ref t]∧dc T d r H p pr m.step m.paid m.r en∧hZ T d r H t m∧Wf r H∧QM.WF m ∧
 (pr.steps[m.step]?=none→nv H (.int 1) Q)∧∀ s,pr.steps[m.step]?=some s→nv H (.int (QM.pyFaultS d m pr s:Nat)) Q
theorem AE(T:Tx K mg)(d:Bool):bg P w K mg base 8 "fault_of" ["program","tiles"] (Mu T d):=by
 refine bg.of ["step"] T.C4 fun sc H Q E hr h=>?_
 obtain⟨p,t,r,m,pr,en,rfl,hp,ho,wfr,wf,kn,ks⟩:=h;obtain⟨dx,st,sh,nb,ev,hp1,_,hst,hsh,_⟩:=id hp;obtain⟨RR,ho1,_⟩:=id ho;obtain⟨dx1,ws,hs,rw,ts,h1,h2,_⟩:=id ho1;refine⟨_,(ab (aU (PW.pt (g7 (dF (cf (aO (T.ap) (nY T) hr.m (pv 0)))) (fJ (dF (cf (aA (CF T) hr.m (aa (aO (T.ap) (bL T) hr.m (pv 0)) (aa (ah (T.ap) (T.dI) (pv 0)) ae)))))))) (bu (am T.E7)) aF) (ab (sS 2 sc.nd (aO (T.ap) (bL T) hr.m (pv 0))) (ab (aU (PW.pt (qS (gq cI (ah (T.aD) (T.bf) (pv 2)) (am T.uh)) (nL (dF (cf (aA (sI T) hr.m (aa (xL K (ah (T.ap) (T.dI) (pv 0)) (ah (T.aD) (T.gk) (pv 2))) ae))))))) (bu (am T.CS)) aF) (ab (aU (PW.pt (qS (PW.pt (g7 (gq cI (ah (T.aD) (T.bf) (pv 2)) (am T.GU)) (fJ (cf (aO (T.aD) (lq T) hr.m (pv 2)))))) (nL (dF (cf (dv (T.ba d) (gf T d) hr.m (pv 1) (aa (ah (T.aD) (T.cu) (pv 2)) ae))))))) (bu (am T.A6)) aF) (ab (aU (cf (aO (T.aD) (vq T) hr.m (pv 2))) (bu (aA (y6 T d) hr.m (aa (pv 2) (aa (pv 1) ae)))) aF) (bu (am T.pf))))))),?_⟩;walk_at "rd";refine aT hp1 rfl ⟨d,r,p,pr,_,_,_,en,rfl,hp,?_⟩;refine ob (aN (fun e=>?_) fun e=>?_)
 ·exact kn (Array.getElem?_eq_none (Nat.le_of_not_lt (of_decide_eq_false e))) H ai.refl
 have hlt:m.step<pr.steps.size:=by simpa using e
 obtain⟨s0,hs0⟩:∃ s0,pr.steps[m.step]?=some s0:=⟨_,Array.getElem?_eq_getElem hlt⟩;have ks:=ks s0 hs0;refine aT hp1 rfl ⟨d,r,p,pr,_,_,_,en,s0,rfl,hp,hs0,fun a ⟨dxa,ha⟩ _=>?_⟩
 refine ag hp1 rfl ⟨a,sh,s0,r,pr,rfl,⟨dxa,ha⟩,hsh,fun hb=>ob ?_,fun hb=>ob ?_⟩
 ·rw[if_pos rfl];rw[Lm hb] at ks;exact ks H ai.refl
 rw[if_neg (by decide)]
 have hx8:s0.x<8∧s0.y<8∧s0.z<8:=by unfold bm at hb;lia
 refine aT hp1 rfl ⟨d,r,p,pr,_,_,_,en,s0,rfl,hp,hs0,fun b ⟨dxb,hb1⟩ _=>ag hb1 rfl ?_⟩
 walk_at "rd";refine aN (fun e1=>?_) fun e1=>?_
 ·have e1:s0.kind=1:=by lia
  obtain⟨as,hsh1,_,hll,_,h88⟩:=id hsh;have hv:s0.v<pr.shapes.length:=by unfold bm at hb;lia
  have hsv:pr.shapes[s0.v]?=some pr.shapes[s0.v]:=getElem?_eq_getElem hv;have hlv:(pr.shapes.map fun s=>QM.nI s.nums)[s0.v]?=some (QM.nI pr.shapes[s0.v].nums):=by rw[getElem?_map,hsv];rfl
  obtain⟨c,hc1,hc2⟩:=hll.at' hlv;have h8:=h88 _ (getElem_mem hv);rw[G0 hb e1 hsv] at ks;refine ag hp1 rfl (ag hb1 rfl (fH (aL.of hsh1) rfl hc1 (t9 (aL.of hc2) trivial fun H1 s1=>ob ?_)))
  rw[ql _ h8.1 h8.2];refine aN (fun e2=>?_) fun e2=>?_
  ·rw[if_pos e2] at ks;exact ks H1 s1
  rw[if_neg e2] at ks;refine ag (s1 _ _ hb1) rfl ?_
  walk_at "rd";refine aN (fun e3=>absurd e3 (by lia)) fun _=>?_
  refine aT (s1 _ _ hb1) rfl ⟨b,s0,rfl,⟨dxb,s1 _ _ hb1⟩,ob (aN (fun e3=>absurd (of_decide_eq_true e3) (by unfold aH;lia)) fun _=>?_)⟩
  refine aT (s1 _ _ hb1) rfl ⟨b,s0,rfl,⟨dxb,s1 _ _ hb1⟩,ob (aN (fun e3=>absurd (of_decide_eq_true e3) (by unfold bV;lia)) fun _=>?_)⟩
  exact ks H1 s1
 have e1':¬ s0.kind=1:=by lia
 have hth:s0.x<m.shape.heights.length:=by rw[wf.hl];exact hx8.1
 refine ag hb1 rfl ?_
 walk_at "rd";refine aN (fun e3=>?_) fun e3=>?_
 ·have e3:s0.kind=3:=by lia
  rw[Ed hb (.inl e3)] at ks;refine aT h1 rfl (ag hb1 rfl ⟨t,s0.x,r,m.shape,RR,rfl,ho1,hth,ob (aN (fun e4=>?_) fun e4=>?_)⟩)
  ·rw[if_pos (show m.there s0.x=false from e4)] at ks
   exact ks H ai.refl
  rw[if_neg (show ¬ m.there s0.x=false from e4)] at ks
  refine aT hb1 rfl ⟨b,s0,rfl,⟨dxb,hb1⟩,ob (aN (fun e5=>absurd (of_decide_eq_true e5) (by unfold bV;lia)) fun _=>?_)⟩
  exact ks H ai.refl
 have e3':¬ s0.kind=3:=by lia
 refine aT hb1 rfl ⟨b,s0,rfl,⟨dxb,hb1⟩,ob (aN (fun e5=>?_) fun e5=>?_)⟩
 ·have e5:=of_decide_eq_true e5;rw[Ed hb (.inr e5)] at ks;refine aT h1 rfl (ag hb1 rfl ⟨t,s0.x,r,m.shape,RR,rfl,ho1,hth,ob (aN (fun e4=>?_) fun e4=>?_)⟩)
  ·rw[if_pos (show m.there s0.x=false from e4)] at ks
   exact ks H ai.refl
  rw[if_neg (show ¬ m.there s0.x=false from e4)] at ks
  refine aT hb1 rfl ⟨b,s0,rfl,⟨dxb,hb1⟩,ob (aN (fun e6=>absurd (of_decide_eq_true e6) (by unfold aH at e5;unfold bV;lia)) fun _=>?_)⟩
  exact ks H ai.refl
 have e5':¬ aH s0:=of_decide_eq_false (by simpa using e5)
 refine aT hb1 rfl ⟨b,s0,rfl,⟨dxb,hb1⟩,ob (aN (fun e6=>?_) fun e6=>?_)⟩
 ·have e6:=of_decide_eq_true e6;rw[Ll hb e6] at ks
  exact⟨b,t,s0,r,m,rfl,⟨dxb,hb1⟩,ho,wf,hx8.1,hx8.2.1,hx8.2.2,e6,ks⟩
 ·have e6':¬ bV s0:=of_decide_eq_false (by simpa using e6)
  rw[IS hb e1' (fun z=>z.elim e3' e5') e6'] at ks
  exact ks H ai.refl
section
variable{T:Tx K mg}{d:Bool}{r:Ro}{H:Hp}{p:Addr}{pr:Qw.Program}{at_ paid:Nat}{nums:List Nat}{en:Option (List Nat)}
theorem uc(h:dc T d r H p pr at_ paid nums en)(wf:Wf r H){at' paid':Nat}:∃ dx st sh nb ev,H p=some (.ins T.aS dx (pF (.ref st) (.ref sh) (.int (at_:Int)) (.ref nb) (.int (paid:Int)) ev)) ∧
  Fr (Rg (rl d 4) (rl d 5)) r H r (upd H p (.ins T.aS dx (pF (.ref st) (.ref sh) (.int (at':Int)) (.ref nb) (.int (paid':Int)) ev)))∧dc T d r (upd H p (.ins T.aS dx (pF (.ref st) (.ref sh) (.int (at':Int)) (.ref nb) (.int (paid':Int)) ev))) p pr at' paid' nums en:=by
 obtain⟨dx,st,sh,nb,ev,h1,h2,h3,h4,h5,h6,h7⟩:=h;have f:=Fr.upd (S:=Rg (rl d 4) (rl d 5)) (o':=.ins T.aS dx (pF (.ref st) (.ref sh) (.int (at':Int)) (.ref nb) (.int (paid':Int)) ev)) wf h1 (by rw[h2];unfold rl;constructor<;>lia)
 have n0:¬ Rg (rl d 4) (rl d 5) 0:=by unfold rl;lia
 have k5:=f.keep h5 h6 (by unfold rl;lia)
 exact⟨dx,st,sh,nb,ev,h1,f,dx,st,sh,nb,ev,af,h2,h3.fr f n0,h4.fr f n0,k5.1,k5.2,h7.fr f n0⟩
theorem Cp(h:dc T d r H p pr at_ paid nums en)(wf:Wf r H)(k:∀ H',Fr (Rg (rl d 4) (rl d 5)) r H r H'→dc T d r H' p pr v paid nums en→Q H'):Ho T.aS "at" (.ref p) (.int (v:Int)) H Q:=by
 obtain⟨dx,st,sh,nb,ev,h1,f,o⟩:=uc h wf (at':=v) (paid':=paid);exact bv h1 (by show 6<1000;decide) (k _ f o)
theorem pX(h:dc T d r H p pr at_ paid nums en)(wf:Wf r H)(k:∀ H',Fr (Rg (rl d 4) (rl d 5)) r H r H'→dc T d r H' p pr at_ (paid+1) nums en→Q H'):NE T.aS "paid" (.ref p) H (fun k=>k (.int 1) H) Q:=by
 obtain⟨dx,st,sh,nb,ev,h1,f,o⟩:=uc h wf (at':=at_) (paid':=paid+1);refine uV h1 rfl ⟨1,dx,_,rfl,h1,by show 6<1000;decide,?_⟩
 rw[Gu,show (paid:Int)+1=((paid+1:Nat):Int) by lia]
 exact k _ f o
theorem HU(h:dc T d r H p pr at_ paid nums en)(wf:Wf r H)(k:∀ H',Fr (Rg (rl d 4) (rl d 5)) r H r H'→dc T d r H' p pr (at_+1) paid nums en→Q H'):NE T.aS "at" (.ref p) H (fun k=>k (.int 1) H) Q:=by
 obtain⟨dx,st,sh,nb,ev,h1,f,o⟩:=uc h wf (at':=at_+1) (paid':=paid);refine uV h1 rfl ⟨1,dx,_,rfl,h1,by show 6<1000;decide,?_⟩
 rw[KY,show (at_:Int)+1=((at_+1:Nat):Int) by lia]
 exact k _ f o
theorem HS(h:dc T d r H p pr at_ paid nums en)(k:Q (.int (at_:Int)) H):yE T.aS "at" (.ref p) H Q:=by
 obtain⟨dx,st,sh,nb,ev,h1,_⟩:=h;exact ag h1 rfl k
theorem xY(h:dc T d r H p pr at_ paid nums en)(k:Q (.int (paid:Int)) H):yE T.aS "paid" (.ref p) H Q:=by
 obtain⟨dx,st,sh,nb,ev,h1,_⟩:=h;exact ag h1 rfl k
theorem HX(h:dc T d r H p pr at_ paid nums en)(wf:Wf r H):∃ nb,H nb=some (.lst (iv (QM.nI nums)))∧(∀ Q:VK,Q (.ref nb) H→yE T.aS "numbers" (.ref p) H Q) ∧
  ∀ nums':List Nat,Fr (Rg (rl d 5) (rl d 6)) r H r (upd H nb (.lst (iv (QM.nI nums'))))∧dc T d r (upd H nb (.lst (iv (QM.nI nums')))) p pr at_ paid nums' en:=by
 obtain⟨dx,st,sh,nb,ev,h1,h2,h3,h4,h5,h6,h7⟩:=h;refine⟨nb,h5,fun Q q=>ag h1 rfl q,fun nums'=>?_⟩
 have f:=Fr.upd (S:=Rg (rl d 5) (rl d 6)) (o':=.lst (iv (QM.nI nums'))) wf h5 (by rw[h6];unfold rl;constructor<;>lia)
 have n0:¬ Rg (rl d 5) (rl d 6) 0:=by unfold rl;lia
 have k1:=f.keep h1 h2 (by unfold rl;lia)
 exact⟨f,dx,st,sh,nb,ev,k1.1,k1.2,h3.fr f n0,h4.fr f n0,af,h6,h7.fr f n0⟩
theorem g6(h:dc T d r H p pr at_ paid nums en)(hs:pr.steps[at_]?=some s)(k:∀ a,dX T.dP H a s→r a=0→Q (.ref a) H):LM T.aS "step" (.ref p) H (Dy T [.ref p] H Q E):=by
 obtain⟨dx,st,sh,nb,ev,h1,_⟩:=id h;exact aT h1 rfl ⟨d,r,p,pr,at_,paid,nums,en,s,rfl,h,hs,k⟩
end
def JD(T:Tx K mg):Sp:=fun vs H Q _=>∃ d:Bool,∃ r p a pr,∃ (at_ paid:Nat) (nums:List Nat) (en:Option (List Nat)) (l:List Nat),vs=[.ref p,.ref a]∧dc T d r H p pr at_ paid nums en∧Wf r H∧H a=some (.lst (iv (QM.nI l)))∧r a=0 ∧
 ∀ H',Fr (Rg (rl d 4) (rl d 5)) r H r H'→dc T d r H' p pr at_ paid nums (some l)→H' a=some (.lst (iv (QM.nI l)))→Q (.ref a) H'
theorem mS(T:Tx K mg):bg P w K mg base 1 "end_with" ["program","answer"] (JD T):=by
 refine bg.of [] T.C5 fun sc H Q E hr h=>?_
 obtain⟨d,r,p,a,pr,at_,paid,nums,en,l,rfl,⟨dx,st,sh,nb,ev,h1,h2,h3,h4,h5,h6,h7⟩,wf,ha,hra,k⟩:=h;refine⟨_,(ab (aV (T.ap) (T.cM) (pv 0) (pv 1)) (bu (pv 1))),?_⟩;walk_at "rd";refine bv h1 (by show 6<1000;decide) ?_
 rw[Im];have f:=Fr.upd (S:=Rg (rl d 4) (rl d 5)) (o':=.ins T.aS dx (pF (.ref st) (.ref sh) (.int (at_:Int)) (.ref nb) (.int (paid:Int)) (.ref a))) wf h1 (by rw[h2];unfold rl;constructor<;>lia)
 have n0:¬ Rg (rl d 4) (rl d 5) 0:=by unfold rl;lia
 have k5:=f.keep h5 h6 (by unfold rl;lia)
 have ka:=f.keep ha hra n0;exact k _ f ⟨dx,st,sh,nb,_,af,h2,h3.fr f n0,h4.fr f n0,k5.1,k5.2,a,rfl,ka.1,hra⟩ ka.1
def Mc(T:Tx K mg):Sp:=fun vs H Q _=>∃ d:Bool,∃ r p a pr,∃ (at_ paid:Nat) (nums:List Nat) (en:Option (List Nat)) (s:Qw.Step) (row:Nat),vs=[.ref p,.ref a,.int (row:Int)]∧dc T d r H p pr at_ paid nums en∧dX T.dP H a s∧nums.length=8∧s.y<8∧s.z<8∧row<1000∧nums.getD s.z 0<2 ^ 64 ∧
 Q (.int (((nums.getD s.y 0+s.v+row*nums.getD s.z 0) % Qw.W64:Nat):Int)) H
theorem yW(T:Tx K mg):bg P w K mg base 1 "row_place" ["program","step","row"] (Mc T):=by
 refine bg.of ["numbers"] T.Bg fun sc H Q E hr h=>?_
 obtain⟨d,r,p,a,pr,at_,paid,nums,en,s0,row,rfl,⟨dx,st,sh,nb,ev,h1,h2,h3,h4,h5,h6,h7⟩,⟨dxa,ha⟩,hl,hy,hz,hrow,hb,k⟩:=h;refine⟨_,(ab (sS 3 sc.nd (ah (T.ap) (T.cq) (pv 0))) (bu (aq eR (aq bn (aq bn (xL K (pv 3) (ah (T.aD) (T.iV) (pv 1))) (ah (T.aD) (T.gk) (pv 1))) (aq bq (pv 2) (xL K (pv 3) (ah (T.aD) (T.kh) (pv 1))))) (am T.nT)))),?_⟩;walk_at "rd";refine ag h1 rfl (ag ha rfl (bj (j:=s0.y) (aL.of h5) rfl (by rw[ak,hl];exact hy) (ag ha rfl ?_)))
 rw[aQ];walk_at "rd";refine ag ha rfl (bj (j:=s0.z) (aL.of h5) rfl (by rw[ak,hl];exact hz) ?_)
 rw[aQ];walk_at "rd";refine⟨⟨by lia,by lia⟩,by decide,?_⟩
 have e:(((nums.getD s0.y 0:Nat):Int)+(s0.v:Int)+(row:Int)*((nums.getD s0.z 0:Nat):Int)) % 18446744073709551616=(((nums.getD s0.y 0+s0.v+row*nums.getD s0.z 0) % Qw.W64:Nat):Int):=by
  rw[Int.natCast_emod,Int.natCast_add,Int.natCast_add,Int.natCast_mul];rfl
 rw[e];exact k
def ME(T:Tx K mg):Sp:=fun vs H Q _=>∃ d:Bool,∃ r p,∃ (pr:Qw.Program) (at_ paid:Nat) (nums:List Nat) (en:Option (List Nat)) (s:Qw.Step),vs=[.ref p]∧dc T d r H p pr at_ paid nums en∧pr.steps[at_]?=some s∧nums.length=8∧s.x<8 ∧
 Q (.int ((if s.kind=14∧nums.getD s.x 0≠0 then s.v else at_+1:Nat):Int)) H
theorem vf(T:Tx K mg):bg P w K mg base 2 "step_behind" ["program"] (ME T):=by
 refine bg.of ["step"] T.xb fun sc H Q E hr h=>?_
 obtain⟨d,r,p,pr,at_,paid,nums,en,s0,rfl,hp,hs,hl,hx,k⟩:=h;obtain⟨dx,st,sh,nb,ev,h1,h2,h3,h4,h5,h6,h7⟩:=id hp;refine⟨_,(ab (sS 1 sc.nd (aO (T.ap) (bL T) hr.m (pv 0))) (ab (aU (PW.pt (qS (gq cI (ah (T.aD) (T.bf) (pv 1)) (am T.D8)) (nL (gq il (xL K (ah (T.ap) (T.cq) (pv 0)) (ah (T.aD) (T.cu) (pv 1))) aj)))) (bu (ah (T.aD) (T.gk) (pv 1))) aF) (bu (aq bn (ah (T.ap) (T.cC) (pv 0)) aj)))),?_⟩;walk_at "rd";refine g6 hp hs fun a ⟨dxa,ha⟩ _=>ag ha rfl ?_
 walk_at "rd";refine aN (fun e=>?_) fun e=>?_
 ·refine ag h1 rfl (ag ha rfl (bj (j:=s0.x) (aL.of h5) rfl (by rw[ak,hl];exact hx) ?_))
  rw[aQ];walk_at "rd";refine aN (fun e2=>?_) fun e2=>?_
  ·rw[if_pos ⟨by lia,by lia⟩] at k
   exact ag ha rfl k
  ·rw[if_neg (by lia)] at k
   refine ag h1 rfl ?_
   walk_at "rd";rw[show (at_:Int)+1=((at_+1:Nat):Int) by lia];exact k
 ·rw[if_neg (by lia)] at k
  refine ag h1 rfl ?_
  walk_at "rd";rw[show (at_:Int)+1=((at_+1:Nat):Int) by lia];exact k
def JL(nums:List Nat)(s:Qw.Step):List Nat:=nums.set s.x ((if s.kind=11 then s.v else if s.kind=12 then nums.getD s.x 0+s.v else if s.kind=13 then nums.getD s.y 0+s.v else nums.getD s.x 0+Qw.W64 - 1) % Qw.W64)
def Mj(T:Tx K mg):Sp:=fun vs H Q _=>∃ d:Bool,∃ r p,∃ (pr:Qw.Program) (at_ paid:Nat) (nums:List Nat) (en:Option (List Nat)) (s:Qw.Step),vs=[.ref p]∧dc T d r H p pr at_ paid nums en∧Wf r H∧pr.steps[at_]?=some s∧nums.length=8∧s.x<8∧s.y<8∧s.v<2 ^ 64 ∧
 ∀ H',Fr (Rg (rl d 5) (rl d 6)) r H r H'→dc T d r H' p pr at_ paid (JL nums s) en→Q .non H'
theorem AZ(l:List Nat)(i v:Nat):(iv (QM.nI l)).set i (.int (v:Int))=iv (QM.nI (l.set i v)):=by unfold iv QM.nI;rw[map_set,map_set]
theorem qd(T:Tx K mg):bg P w K mg base 2 "do_number_step" ["program"] (Mj T):=by
 refine bg.of ["step","numbers"] T.rH fun sc H Q E hr h=>?_
 obtain⟨d,r,p,pr,at_,paid,nums,en,s0,rfl,hp,wf,hs,hl,hx,hy,hv,k⟩:=h;obtain⟨nb,h5,hq,hput⟩:=HX hp wf;have ix:∀ i,i<8→i<(QM.nI nums).length:=fun i hi=>by rw[ak,hl];exact hi
 have lx:s0.x<(iv (QM.nI nums)).length:=by rw[aM];exact ix _ hx
 have dO:∀ v:Nat,v=(if s0.kind=11 then s0.v else if s0.kind=12 then nums.getD s0.x 0+s0.v else if s0.kind=13 then nums.getD s0.y 0+s0.v else nums.getD s0.x 0+Qw.W64 - 1) % Qw.W64→Q .non (upd H nb (.lst ((iv (QM.nI nums)).set s0.x (.int (v:Int))))):=fun v ev=>by
  rw[AZ,ev];exact k _ (hput _).1 (hput _).2
 have em:∀ a:Nat,(a:Int) % 18446744073709551616=((a % Qw.W64:Nat):Int):=fun a=>by rw[Int.natCast_emod];rfl
 refine⟨_,(ab (sS 1 sc.nd (aO (T.ap) (bL T) hr.m (pv 0))) (ab (sS 2 sc.nd (ah (T.ap) (T.cq) (pv 0))) (aB (aU (gq cI (ah (T.aD) (T.bf) (pv 1)) (am T.A4)) (aB (fK (ah (T.aD) (T.gk) (pv 1)) (fL (pv 2) (ah (T.aD) (T.cu) (pv 1)) cW))) (aB (aU (gq cI (ah (T.aD) (T.bf) (pv 1)) (am T.Na)) (aB (fK (aq eR (aq bn (xL K (pv 2) (ah (T.aD) (T.cu) (pv 1))) (ah (T.aD) (T.gk) (pv 1))) (am T.nT)) (fL (pv 2) (ah (T.aD) (T.cu) (pv 1)) cW))) (aB (aU (gq cI (ah (T.aD) (T.bf) (pv 1)) (am T.Li)) (aB (fK (aq eR (aq bn (xL K (pv 2) (ah (T.aD) (T.iV) (pv 1))) (ah (T.aD) (T.gk) (pv 1))) (am T.nT)) (fL (pv 2) (ah (T.aD) (T.cu) (pv 1)) cW))) (aB (fK (aq eR (aq ig (xL K (pv 2) (ah (T.aD) (T.cu) (pv 1))) aj) (am T.nT)) (fL (pv 2) (ah (T.aD) (T.cu) (pv 1)) cW))))))))))),?_⟩;walk_at "rd";refine g6 hp hs fun a ⟨dxa,ha⟩ _=>hq _ (ag ha rfl ?_)
 walk_at "rd";refine aN (fun e=>?_) fun e1=>?_
 ·refine ag ha rfl (ag ha rfl (jH (j:=s0.x) h5 rfl lx (dO _ ?_)));rw[if_pos (by lia),Nat.mod_eq_of_lt (by unfold Qw.W64;exact hv)]
 refine ag ha rfl ?_
 walk_at "rd";refine aN (fun e=>?_) fun e2=>?_
 ·refine ag ha rfl (bj (j:=s0.x) (aL.of h5) rfl (ix _ hx) (ag ha rfl ?_));rw[aQ];walk_at "rd";refine⟨by decide,ag ha rfl ?_⟩
  rw[show ((nums.getD s0.x 0:Nat):Int)+(s0.v:Int)=((nums.getD s0.x 0+s0.v:Nat):Int) by lia,em]
  refine jH (j:=s0.x) h5 rfl lx (dO _ ?_);rw[if_neg (by lia),if_pos (by lia)]
 refine ag ha rfl ?_
 walk_at "rd";refine aN (fun e=>?_) fun e3=>?_
 ·refine ag ha rfl (bj (j:=s0.y) (aL.of h5) rfl (ix _ hy) (ag ha rfl ?_));rw[aQ];walk_at "rd";refine⟨by decide,ag ha rfl ?_⟩
  rw[show ((nums.getD s0.y 0:Nat):Int)+(s0.v:Int)=((nums.getD s0.y 0+s0.v:Nat):Int) by lia,em]
  refine jH (j:=s0.x) h5 rfl lx (dO _ ?_);rw[if_neg (by lia),if_neg (by lia),if_pos (by lia)]
 refine ag ha rfl (bj (j:=s0.x) (aL.of h5) rfl (ix _ hx) ?_);rw[aQ];walk_at "rd";refine⟨by decide,ag ha rfl ?_⟩
 have e4:(((nums.getD s0.x 0:Nat):Int) - 1) % 18446744073709551616=(((nums.getD s0.x 0+Qw.W64 - 1) % Qw.W64:Nat):Int):=by
  rw[←em]
  have:((nums.getD s0.x 0+Qw.W64 - 1:Nat):Int)=((nums.getD s0.x 0:Nat):Int) - 1+18446744073709551616:=by unfold Qw.W64;lia
  rw[this];lia
 rw[e4];refine jH (j:=s0.x) h5 rfl lx (dO _ ?_);rw[if_neg (by lia),if_neg (by lia),if_neg (by lia)]
theorem hZ.cg(h:hZ T d r H t m)(e1:m'.shape=m.shape)(e2:m'.tiles=m.tiles):hZ T d r H t m':=by
 obtain⟨RR,h1,h2,h3⟩:=h;refine⟨RR,by rw[e1];exact h1,by rw[e1];exact h2,fun hd i hi=>?_⟩
 rw[h3 hd i hi];unfold Qw.Mach.tile Qw.Mach.height Qw.Mach.width;rw[e1,e2]
theorem uv(h:jh T d r H t sh (zR sh))(e1:m.shape=sh)(e2:m.tiles=List.replicate Qw.TILES Qw.zeros):hZ T d r H t m:=by
 refine⟨zR sh,by rw[e1];exact h,fun i hi=>⟨by rw[e1];unfold zR;exact length_replicate,fun l hl=>?_⟩,fun _ i hi=>?_⟩
 ·unfold zR at hl;rw[eq_of_mem_replicate hl,length_replicate,e1]
 ·unfold Qw.Mach.tile;rw[e2,d9,pU];unfold zR Qw.Mach.height Qw.Mach.width;rw[e1]
def L8(T:Tx K mg)(d:Bool):Sp:=fun vs H Q _=>∃ p t r,∃ (m:Qw.Mach) (pr:Qw.Program) (en:Option (List Nat)) (s:Qw.Step),vs=[.ref p,.ref t]∧dc T d r H p pr m.step m.paid m.r en∧hZ T d r H t m∧Wf r H∧QM.WF m∧pr.steps[m.step]?=some s∧QM.pyFaultS d m pr s=0∧s.kind≠0∧¬ aH s∧s.kind<11 ∧
 ∀ r' H',Fr (Rg (rl d 6) (rl d 16)) r H r' H'→hZ T d r' H' t (dR d m pr s)→Q .non H'
theorem Gg(h:bV s):dR d m pr s=jt d m s:=by
 unfold bV at h;unfold dR;rw[if_neg (by lia),if_neg (by lia),if_neg (by lia),if_neg (by lia),if_neg (by lia),if_neg (by lia),if_neg (by lia)]
theorem tw(T:Tx K mg)(d:Bool):bg P w K mg base 7 "do_tile_step" ["program","tiles"] (L8 T d):=by
 refine bg.of ["step"] T.wa fun sc H Q E hr h=>?_
 obtain⟨p,t,r,m,pr,en,s0,rfl,hp,ho,wfr,wf,hs,hf,hk0,hmv,hk,k⟩:=h;obtain⟨dx,st,sh,nb,ev,hp1,_,hst,hsh,_⟩:=id hp;obtain⟨RR,ho1,hok,hrr⟩:=id ho;obtain⟨dx1,ws,hs1,rw,ts,h1,h2,_⟩:=id ho1;obtain⟨⟨_,hx7,hy7,hz7⟩,_,_,hact⟩:=(cw d m pr s0).2 hf;obtain⟨_,hc1,hc3,hcd⟩:=hact hk0 hmv;refine⟨_,(ab (sS 2 sc.nd (aO (T.ap) (bL T) hr.m (pv 0))) (aB (aU (gq cI (ah (T.aD) (T.bf) (pv 2)) (am T.uh)) (aB (bQ (dv (T.ba d) (d6 T d) hr.m (pv 1) (aa (xL K (ah (T.ap) (T.dI) (pv 0)) (ah (T.aD) (T.gk) (pv 2))) ae)))) (aB (aU (gq cI (ah (T.aD) (T.bf) (pv 2)) (am T.Lh)) (aB (bQ (dv (T.ba d) (d6 T d) hr.m (pv 1) (aa (Gq (oE T) hr.m) ae)))) (aB (aU (gq cI (ah (T.aD) (T.bf) (pv 2)) (am T.GU)) (aB (bQ (dv (T.ba d) (CI T d) hr.m (pv 1) (aa (ah (T.aD) (T.cu) (pv 2)) ae)))) (aB (bQ (dv (T.ba d) (wV T d) hr.m (pv 1) (aa (aO (T.aD) (ke T) hr.m (pv 2)) (aa (ah (T.aD) (T.cu) (pv 2)) (aa (ah (T.aD) (T.iV) (pv 2)) (aa (ah (T.aD) (T.kh) (pv 2)) ae)))))))))))))),?_⟩;walk_at "rd";refine g6 hp hs fun a ⟨dxa,ha⟩ _=>ag ha rfl ?_
 walk_at "rd";refine aN (fun e=>?_) fun e1=>?_
 ·have e:s0.kind=1:=by lia
  obtain⟨b,hb,hbok⟩:=hc1 e;obtain⟨as,hsh1,_,hll,_,h88⟩:=id hsh;have hlv:(pr.shapes.map fun s=>QM.nI s.nums)[s0.v]?=some (QM.nI b.nums):=by rw[getElem?_map,hb];rfl
  obtain⟨c,hc1,hc2⟩:=hll.at' hlv;refine aT h1 rfl (ag hp1 rfl (ag ha rfl (fH (aL.of hsh1) rfl hc1 ?_)));refine⟨t,c,dx1,_,_,_,_,b,r,rfl,h1,h2,wfr,aL.of hc2,tX.of_ok hbok,fun r' H' f o=>k r' H' f (uv o ?_ ?_)⟩
  ·unfold dR;rw[if_pos e,getD_eq_getElem?_getD,hb];rfl
  ·unfold dR;rw[if_pos e];rfl
 refine ag ha rfl ?_
 walk_at "rd";refine aN (fun e=>?_) fun e2=>?_
 ·refine aT h1 rfl ⟨rfl,fun c H1 s1 nc hc=>?_⟩
  refine⟨t,c,dx1,_,_,_,_,Qw.noShape,r,rfl,s1 _ _ h1,h2,wfr.same s1,aL.of hc,vv,fun r' H' f o=>k r' H' ((Fr.same wfr s1).trans f) (uv o ?_ ?_)⟩
  ·unfold dR;rw[if_neg (by lia),if_pos (by lia)];rfl
  ·unfold dR;rw[if_neg (by lia),if_pos (by lia)];rfl
 refine ag ha rfl ?_
 walk_at "rd";refine aN (fun e=>?_) fun e3=>?_
 ·refine aT h1 rfl (ag ha rfl ⟨t,s0.x,r,m.shape,RR,rfl,ho1,wfr,by lia,pq wf,fun r' H' f o=>k r' H' f ?_⟩)
  have ed:dR d m pr s0=((m.setTile s0.x Qw.zeros).atRow 0).next:=by
   unfold dR;rw[if_neg (by lia),if_neg (by lia),if_pos (by lia)]
  rw[ed];refine⟨_,o,fun i hi=>?_,fun hd i hi=>?_⟩
  ·by_cases e:i=s0.x
   ·subst e;rw[fS]
    exact⟨length_replicate,fun l hl=>by rw[eq_of_mem_replicate hl,length_replicate];rfl⟩
   ·rw[jp e];exact hok i hi
  ·have et:(((m.setTile s0.x Qw.zeros).atRow 0).next).tile i=if i=s0.x then Qw.zeros else m.tile i:=ur m s0.x i _ wf.tl (by lia)
   rw[et]
   by_cases e:i=s0.x
   ·subst e;rw[fS,if_pos rfl,pU];rfl
   ·rw[jp e,if_neg e];exact hrr hd i hi
 have hdot:bV s0:=by unfold aH at hmv;unfold bV;lia
 obtain⟨hfit,hright⟩:=hcd hdot;refine aT h1 rfl (aT ha rfl ⟨a,s0,rfl,⟨dxa,ha⟩,ag ha rfl (ag ha rfl (ag ha rfl ?_))⟩);have hdot2:6≤s0.kind∧s0.kind≤10:=hdot;refine⟨t,s0.kind - 6,s0.x,s0.y,s0.z,r,m,by rw[show ((s0.kind - 6:Nat):Int)=(s0.kind:Int) - 6 by lia],ho,wfr,wf,by lia,by lia,by lia,by lia,hfit,hright,fun r' H' f o=>k r' H' f ?_⟩
 rw[Gg hdot];refine o.cg ?_ ?_
 ·unfold jt IY;cases d<;>rfl
 ·unfold jt IY;cases d<;>rfl
def k8:Qw.End→List Nat
 | .done=>[0]
 | .paused=>[1]
 | .closed p s=>[2,p,if s=true then 1 else 0]
 | .fault c=>[3,c]
def G6:Qw.End→Option (List Nat)
 | .done=>some [0]
 | .fault c=>some [3,c]
 | _=>none
structure Go(pr:Qw.Program)(m:Qw.Mach):Prop where
 wf:QM.WF m
 pg:m.prog=some pr
 hw:m.how=1
structure BO(T:Tx K mg)(d:Bool)(r:Ro)(H:Hp)(p g t:Addr)(pr:Qw.Program)(m:Qw.Mach)(ta:Qw.Tally)(en:Option (List Nat)):Prop where
 po:dc T d r H p pr m.step m.paid m.r en
 to:hZ T d r H t m
 go:BR T d r H g m ta
 wf:Wf r H
theorem lQ.cg(h:lQ T d r H g gr pages ta)(e1:d=false→gr'=gr)(e2:d=false→pages'=pages)(e3:d=true→ta'=ta):lQ T d r H g gr' pages' ta':=by
 cases d with
 | false=>rw[e1 rfl,e2 rfl];exact h
 | true=>rw[e3 rfl];exact h
def AQ(d:Bool)(m:Qw.Mach)(s:Qw.Step):Qw.Mach:=(QM.mv d m s).atRow m.shape.start
def Kk(T:Tx K mg)(d:Bool):Sp:=fun vs H Q _=>∃ p g t r,∃ (pr:Qw.Program) (m:Qw.Mach),∃ ta,∃ (s:Qw.Step) (left:Nat),vs=[.ref p,.ref g,.ref t,.int ((m.paid+left:Nat):Int)]∧BO T d r H p g t pr m ta none∧QM.WF m∧m.prog=some pr∧pr.steps[m.step]?=some s∧QM.pyFaultS d m pr s=0∧aH s∧¬ m.height s.x≤m.shape.start ∧
 (∀ r' H' a e,Fr (Rg (rl d 0) (rl d 32)) r H r' H'→H' a=some (.lst (iv (QM.nI (k8 e))))→r' a=0→cP d m left ta=(e,m,ta)→BO T d r' H' p g t pr m ta (G6 e)→Q (.ref a) H') ∧
 (∀ r' H' left',left=left'+1→Fr (Rg (rl d 0) (rl d 32)) r H r' H'→BO T d r' H' p g t pr (AQ d m s) (ta.add (decide (s.kind=5)) (Qw.pagesOf (ud m s) (m.width s.x))) none →
  cP d m left ta=cP d (QM.mv d m s) left' (ta.add (decide (s.kind=5)) (Qw.pagesOf (ud m s) (m.width s.x)))→Q .non H')
theorem BO.same(h:BO T d r H p g t pr m ta en)(s:ai H H'):BO T d r H' p g t pr m ta en :=
 have f:Fr (fun _=>False) r H r H':=Fr.same h.wf s
 ⟨h.po.fr f (fun z=>z) (fun z=>z) (fun z=>z),h.to.fr f (fun z=>z) (fun _ _ _ z=>z),h.go.fr f (fun _ _ _ z=>z),f.wf⟩
theorem ci(h:b≤32):∀ k,Rg (rl d a) (rl d b) k→Rg (rl d 0) (rl d 32) k:=fun k hk=>⟨by have:=hk.1;unfold rl at *;lia,by have:=hk.2;unfold rl at *;lia⟩
theorem Cq(h:lQ T d r H g gr pages ta)(hn:n="first_closed"∨n="read"∨n="write")(k:q):LM (T.NG d) n (.ref g) H q:=by
 cases d with
 | false =>
  obtain⟨dx,c,pg,h1,_⟩:=h;rcases hn with rfl | rfl | rfl
  ·exact aT h1 rfl k
  ·exact aT h1 rfl k
  ·exact aT h1 rfl k
 | true =>
  obtain⟨dx,h1,_⟩:=h;rcases hn with rfl | rfl | rfl
  ·exact aT h1 rfl k
  ·exact aT h1 rfl k
  ·exact aT h1 rfl k
theorem Hs(h:jh T d r H t sh RR)(wf:Wf r H)(hx:x<8)(hj:j<(RR x).length)(hq:H q=some (.lst (iv l)))(hrq:r q=0)(hsa:H a=some (.ins T.dP dxa (sF v1 (.int (x:Int)) v3 v4 v5))){Q:Hp→Prop}
  (k:∀ H',Fr (Rg (rl d 8) (rl d 16)) r H r H'→jh T d r H' t sh (EK RR x ((RR x).set j l))→Q H') :
  yE (T.dY d) "rows" (.ref t) H fun o H1=>yE T.dP "x" (.ref a) H1 fun y H2=>Ct K o y H2 fun o H1=>Au o (.int (j:Int)) (.ref q) H1 Q:=by
 obtain⟨dx,ws,hs,rw,ts,h1,h2,⟨h3,h3'⟩,⟨h4,h4'⟩,⟨h5,h5'⟩,h6,h7⟩:=h;have ex:ts[x]?=some (ts[x]'(by lia)):=getElem?_eq_getElem _
 obtain⟨as,ha,hra,hl,h0⟩:=h7 x _ ex;refine ag h1 rfl (ag hsa rfl <| fH (aL.of h5) rfl ex (jH (j:=j) ha rfl (by rw[length_map,hl.1];exact hj) ?_))
 have f:=Fr.upd (S:=Rg (rl d (8+x)) (rl d (9+x))) (o':=.lst ((as.map V.ref).set j (.ref q))) wf ha (by rw[hra];unfold rl;constructor<;>lia)
 have n0:¬ Rg (rl d (8+x)) (rl d (9+x)) 0:=by unfold rl;lia
 have k1:=f.keep h1 h2 (by unfold rl;lia)
 refine k _ (f.mono fun k hk=>⟨by have:=hk.1;unfold rl at *;lia,by have:=hk.2;unfold rl at *;lia⟩) ⟨dx,ws,hs,rw,ts,k1.1,k1.2,f.keep h3 h3' n0,f.keep h4 h4' n0,f.keep h5 h5' (by unfold rl;lia),h6,fun i y e=>?_⟩
 by_cases ei:i=x
 ·subst ei;rw[ex] at e;obtain rfl:=Option.some.inj e;rw[fS];have hl2:=LL.fr hl h0 f n0;have hq2:=f.keep hq hrq n0;refine⟨as.set j q,by rw[af,map_set],hra,⟨by rw[length_set,length_set];exact hl.1,fun n b l' e1 e2=>?_⟩,fun b hb=>?_⟩
  ·by_cases en:n=j
   ·subst en;rw[getElem?_set_self (by rw[hl.1];exact hj)] at e1
    rw[getElem?_set_self hj] at e2;obtain rfl:=Option.some.inj e1;obtain rfl:=Option.some.inj e2;exact hq2.1
   ·rw[getElem?_set_ne (Ne.symm en)] at e1 e2;exact hl2.1.2 n b l' e1 e2
  ·rcases mem_or_eq_of_mem_set hb with hb | rfl
   ·exact h0 b hb
   ·exact hrq
 ·rw[jp ei];have hi8:i<8:=by rw[←h6];exact (List.getElem?_eq_some_iff.mp e).1
  exact (h7 i y e).fr f n0 (by unfold rl;lia)
section
variable{d:Bool}{m:Qw.Mach}{s:Qw.Step}
theorem iD:(AQ d m s).shape=m.shape:=by
 unfold AQ Qw.Mach.atRow;dsimp only;rw[kM.2.2.2.2.1]
theorem hJ:(AQ d m s).step=m.step∧(AQ d m s).paid=m.paid+1∧(AQ d m s).r=m.r∧(AQ d m s).pages=m.pages :=
 ⟨kM.2.1,kM.2.2.2.1,kM.2.2.1,kM.2.2.2.2.2.1⟩
theorem ya(h:s.kind=5):(AQ false m s).ground=(m.lay (ud m s) (Qw.rowOf (m.tile s.x) m.shape.start (m.width s.x))).ground∧(AQ false m s).tiles=m.tiles:=by
 unfold AQ QM.mv Qw.Mach.moved;rw[if_neg (by decide)]
 dsimp only;rw[if_pos (decide_eq_true h)]
 exact⟨rfl,rfl⟩
theorem AO(h:s.kind≠5):(AQ false m s).ground=m.ground∧(AQ false m s).tiles=(m.setTile s.x (Qw.putRow (m.tile s.x) m.shape.start (m.bytes (ud m s) (m.width s.x)))).tiles:=by
 unfold AQ QM.mv Qw.Mach.moved;rw[if_neg (by decide)]
 dsimp only;rw[if_neg (fun z=>h (of_decide_eq_true z))]
 exact⟨rfl,rfl⟩
end
theorem AD(T:Tx K mg)(d:Bool):bg P w K mg base 4 "move_row" ["program","ground","tiles","limit"] (Kk T d):=by
 refine bg.of ["step","row","width","place","stores","page"] T.C2 fun sc H Q E hr h=>?_
 obtain⟨p,g,t,r,pr,m,ta,s0,left,rfl,rep,wf,hpg,hs,hf,hmv,hst,kA,kB⟩:=h;obtain⟨⟨_,hx7,hy7,hz7⟩,_,hmove,_⟩:=(cw d m pr s0).2 hf;obtain⟨hthere,_⟩:=hmove hmv;have hsh:=pq wf;obtain⟨RR,ho1,hok,hrr⟩:=id rep.to;obtain⟨dx1,ws,hs1,rw,ts,h1,h2,⟨h3,h3'⟩,h4,⟨h5,h5'⟩,h6,h7⟩:=id ho1;have hst16:m.shape.start<m.height s0.x:=Nat.lt_of_not_le hst;have b1:=wf.hb s0.x;have b2:=wf.wb s0.x;have w1:1≤m.width s0.x:=by
  have:=wf.wh s0.x
  lia
 refine⟨_,(ab (sS 4 sc.nd (aO (T.ap) (bL T) hr.m (pv 0))) (ab (sS 5 sc.nd (ah (T.ba d) (T.bU d) (pv 2))) (ab (sS 6 sc.nd (xL K (ah (T.ba d) (T.cJ d) (pv 2)) (ah (T.aD) (T.cu) (pv 4)))) (ab (sS 7 sc.nd (aA (yW T) hr.m (aa (pv 0) (aa (pv 4) (aa (pv 5) ae))))) (ab (aU (dF (cf (aA (ge T) hr.m (aa (pv 7) (aa (pv 6) ae))))) (bu (aA (mS T) hr.m (aa (pv 0) (aa (aJ (aa (am T.vS) (aa (am T.E6) ae))) ae)))) aF) (ab (aU (gq cI (ah (T.ap) (T.cn) (pv 0)) (pv 3)) (bu (aJ (aa (am T.A5) ae))) aF) (ab (sS 8 sc.nd (tU cI (ah (T.aD) (T.bf) (pv 4)) (am T.zn))) (ab (sS 9 sc.nd (dv (T.Ha d) (oT T d) hr.m (pv 1) (aa (pv 7) (aa (pv 6) (aa (dw (cf (pv 8)) (am T.o8) (am T.CQ)) ae))))) (ab (aU (du yU (pv 9) cH (fo _)) (bu (aJ (aa (am T.rA) (aa (pv 9) (aa (dw (cf (pv 8)) aj aj) ae))))) aF) (ab (aU (cf (pv 8)) (aB (bQ (dv (T.Ha d) (AL T d) hr.m (pv 1) (aa (pv 7) (aa (xL K (xL K (ah (T.ba d) (T.dh d) (pv 2)) (ah (T.aD) (T.cu) (pv 4))) (pv 5)) ae))))) (aB (fK (dv (T.Ha d) (CJ T d) hr.m (pv 1) (aa (pv 7) (aa (pv 6) ae))) (fL (xL K (ah (T.ba d) (T.dh d) (pv 2)) (ah (T.aD) (T.cu) (pv 4))) (pv 5) cW)))) (ab (mJ (T.ap) (T.cn) (pv 0) aj) (bu cH)))))))))))),?_⟩;walk_at "rd";refine g6 rep.po hs fun a ⟨dxa,ha⟩ hra0=>ag h1 rfl (ag h1 rfl (ag ha rfl (bj (j:=s0.x) (aL.of h3) rfl (by rw[ak,hsh.wl];lia) ?_)))
 rw[aQ];refine⟨d,r,p,a,pr,_,_,m.r,none,s0,m.shape.start,rfl,rep.po,⟨dxa,ha⟩,wf.rl,by lia,by lia,by lia,wf.rb s0.z,?_⟩
 have epl:(m.r.getD s0.y 0+s0.v+m.shape.start*m.r.getD s0.z 0) % Qw.W64=ud m s0:=rfl;rw[epl];walk_at "rd";have ew:m.shape.widths.getD s0.x 0=m.width s0.x:=rfl;rw[ew];have n0:¬ Rg (rl d 0) (rl d 32) 0:=by unfold rl;cases d<;>simp
 refine aN (fun e=>?_) fun e=>?_
 ·refine⟨by decide,fun q nq=>?_⟩
  have s1:=ai.new (o:=.lst [V.int 3,V.int 4]) nq;have rep1:=rep.same s1;refine⟨d,r,p,q,pr,_,_,_,none,[3,4],rfl,rep1.po,rep1.wf,af,rep.wf q nq,fun H' f o ha=>kA r H' q (.fault 4) ((Fr.same rep.wf s1).trans (f.mono (ci (by decide)))) ha (rep.wf q nq) (HN hpg hs hf hmv hst (by unfold Qw.GROUND;lia)) ⟨o,rep1.to.fr f (by unfold rl;lia) (fun k h1 h2=>by unfold rl;lia),rep1.go.fr f (fun k h1 h2=>by unfold rl;lia),f.wf⟩⟩
 have hin:¬ Qw.GROUND<ud m s0+m.width s0.x:=by unfold Qw.GROUND;lia
 have hin2:ud m s0+m.width s0.x≤16384:=by unfold Qw.GROUND at hin;lia
 refine xY rep.po ?_
 walk_at "rd";refine aN (fun e2=>?_) fun e2=>?_
 ·refine⟨by decide,fun q nq=>?_⟩
  have s1:=ai.new (o:=.lst [V.int 1]) nq;have hl0:left=0:=by lia
  subst hl0;exact kA r _ q .paused (Fr.same rep.wf s1) af (rep.wf q nq) (Ck hpg hs hf hmv hst hin) (rep.same s1)
 obtain⟨left',rfl⟩:∃ left',left=left'+1:=⟨left - 1,by lia⟩
 have kB:=kB;refine ag ha rfl ?_
 walk_at "rd";refine Cq rep.go (.inl rfl) ?_
 by_cases e5:s0.kind=5
 ·rw[if_pos (by lia)]
  have dk:decide (s0.kind=5)=true:=decide_eq_true e5;have dk2:decide ((s0.kind:Int)=5)=true:=decide_eq_true (by lia)
  rw[dk] at kB;refine⟨g,ud m s0,m.width s0.x,true,r,m,ta,rfl,rep.go,wf,w1,b2,hin2,fun H1 s1=>?_⟩
  have rep1:=rep.same s1
  cases hcl:(if d=true then none else (Qw.pagesOf (ud m s0) (m.width s0.x)).find? fun (p:Nat)=>!m.opens true p) with
  | some pg =>
   have hd:d=false:=by cases d;rfl;cases hcl
   subst hd;dsimp only[AA];rw[if_pos (show ¬ V.int (pg:Int)=V.non from fun z=>nomatch z),if_pos (show (s0.kind:Int)=5 by lia)]
   refine⟨by decide,fun q nq=>?_⟩
   have s2:=s1.trans (ai.new (o:=.lst [V.int 2,V.int (pg:Int),V.int 1]) nq);refine kA r _ q (.closed pg true) (Fr.same rep.wf s2) af (rep.wf q (s1.free nq)) ?_ (rep.same s2)
   have:=uR (left:=left') (ta:=ta) hpg hs hf hmv hst hin (p:=pg) (by rw[dk];exact hcl)
   rw[dk] at this;exact this
  | none =>
   have hrun:=DF (left:=left') (ta:=ta) hpg hs hf hmv hst hin (fun hd=>by subst hd;rw[dk];exact hcl)
   rw[dk] at hrun;dsimp only[AA];rw[if_neg (show ¬ ¬ V.non=V.non from fun z=>z rfl),if_pos (show (s0.kind:Int)=5 by lia)]
   have ex:ts[s0.x]?=some (ts[s0.x]'(by lia)):=getElem?_eq_getElem _
   obtain⟨as,hax,hrax,hlx,h0x⟩:=h7 s0.x _ ex;have hjl:m.shape.start<(RR s0.x).length:=by rw[(hok s0.x (by lia)).1];exact hst16
   have hrow:(RR s0.x)[m.shape.start]?=some ((RR s0.x)[m.shape.start]):=getElem?_eq_getElem hjl;obtain⟨b,hb1,hb2⟩:=hlx.at' hrow;have hbl:=(hok s0.x (by lia)).2 _ (getElem_mem hjl)
   refine Cq rep1.go (.inr (.inr rfl)) (ag (s1 _ _ h1) rfl (ag (s1 _ _ ha) rfl (fH (aL.of (s1 _ _ h5)) rfl ex (fH (aL.of (s1 _ _ hax)) rfl hb1 ?_))));refine⟨g,b,ud m s0,m.width s0.x,r,m,ta,_,Qw.rowOf (m.tile s0.x) m.shape.start (m.width s0.x),rfl,rep1.go,rep1.wf,wf,w1,by lia,fun _=>b2,hin2,s1 _ _ hb2,h0x b (mem_of_getElem? hb1),hbl,fun hd=>?_,fun r' H' f o=>?_⟩
   ·have:=hrr hd s0.x (by lia)
    simp only[this];unfold aI;simp only[getElem_map,getElem_range]
   ·have po2:=rep1.po.fr f (by unfold rl;cases d<;>simp) (by unfold rl;lia) (by unfold rl;lia)
    refine pX po2 f.wf fun H2 f2 o2=>?_
    refine kB r' H2 left' rfl (((Fr.same rep.wf s1).trans (f.mono (ci (by decide)))).trans (f2.mono (ci (by decide)))) ⟨?_,?_,?_,f2.wf⟩ hrun
    ·rw[hJ.1,hJ.2.1,hJ.2.2.1];exact o2
    ·refine ((rep1.to.fr f (by unfold rl;cases d<;>simp) (fun k h1 h2=>by unfold rl;lia)).fr f2 (by unfold rl;cases d<;>simp) (fun k h1 h2=>by unfold rl;lia)).cg iD ?_
     cases d with
     | false=>exact (ya e5).2
     | true=>rfl
    ·refine lQ.cg (lQ.fr o f2 (fun k h1 h2=>by unfold rl;lia)) (fun hd=>?_) (fun hd=>?_) (fun hd=>?_)
     ·subst hd;exact (ya e5).1
     ·rw[hJ.2.2.2];rfl
     ·rw[if_pos hd]
 ·rw[if_neg (by lia)]
  have dk:decide (s0.kind=5)=false:=decide_eq_false e5;have dk2:decide ((s0.kind:Int)=5)=false:=decide_eq_false (by lia)
  rw[dk] at kB;refine⟨g,ud m s0,m.width s0.x,false,r,m,ta,rfl,rep.go,wf,w1,b2,hin2,fun H1 s1=>?_⟩
  have rep1:=rep.same s1
  cases hcl:(if d=true then none else (Qw.pagesOf (ud m s0) (m.width s0.x)).find? fun (p:Nat)=>!m.opens false p) with
  | some pg =>
   have hd:d=false:=by cases d;rfl;cases hcl
   subst hd;dsimp only[AA];rw[if_pos (show ¬ V.int (pg:Int)=V.non from fun z=>nomatch z),if_neg (show ¬ (s0.kind:Int)=5 by lia)]
   refine⟨by decide,fun q nq=>?_⟩
   have s2:=s1.trans (ai.new (o:=.lst [V.int 2,V.int (pg:Int),V.int 0]) nq);refine kA r _ q (.closed pg false) (Fr.same rep.wf s2) af (rep.wf q (s1.free nq)) ?_ (rep.same s2)
   have:=uR (left:=left') (ta:=ta) hpg hs hf hmv hst hin (p:=pg) (by rw[dk];exact hcl)
   rw[dk] at this;exact this
  | none =>
   have hrun:=DF (left:=left') (ta:=ta) hpg hs hf hmv hst hin (fun hd=>by subst hd;rw[dk];exact hcl)
   rw[dk] at hrun;dsimp only[AA];rw[if_neg (show ¬ ¬ V.non=V.non from fun z=>z rfl),if_neg (show ¬ (s0.kind:Int)=5 by lia)]
   have hjl:m.shape.start<(RR s0.x).length:=by rw[(hok s0.x (by lia)).1];exact hst16
   refine Cq rep1.go (.inr (.inl rfl)) ⟨g,ud m s0,m.width s0.x,r,m,ta,rfl,rep1.go,rep1.wf,wf,w1,by lia,fun _=>b2,hin2,fun r' H' q l f o nq hrq hq hll hlb=>?_⟩
   have ho2:=(ho1.fr (Fr.same (S:=fun _=>False) rep.wf s1) (fun z=>z) (fun _ _ _ z=>z)).fr f (by unfold rl;cases d<;>simp) (fun k h1 h2=>by unfold rl;lia)
   have ha2:=(f.keep (s1 _ _ ha) hra0 (by unfold rl;cases d<;>simp)).1
   refine Hs ho2 f.wf (by lia) hjl hq hrq ha2 fun H2 f2 o2=>?_
   have po2:=(rep1.po.fr f (by unfold rl;cases d<;>simp) (by unfold rl;lia) (by unfold rl;lia)).fr f2 (by unfold rl;cases d<;>simp) (by unfold rl;lia) (by unfold rl;lia)
   refine pX po2 f2.wf fun H3 f3 o3=>?_
   refine kB r' H3 left' rfl ((((Fr.same rep.wf s1).trans (f.mono (ci (by decide)))).trans (f2.mono (ci (by decide)))).trans (f3.mono (ci (by decide)))) ⟨?_,⟨EK RR s0.x ((RR s0.x).set m.shape.start l),?_,fun i hi=>?_,fun hd i hi=>?_⟩,?_,f3.wf⟩ hrun
   ·rw[hJ.1,hJ.2.1,hJ.2.2.1];exact o3
   ·rw[iD];exact o2.fr f3 (by unfold rl;cases d<;>simp) (fun k h1 h2=>by unfold rl;lia)
   ·rw[iD]
    by_cases e:i=s0.x
    ·subst e;rw[fS,length_set];refine⟨(hok s0.x hi).1,fun l' hl'=>?_⟩
     rcases mem_or_eq_of_mem_set hl' with hl' | rfl
     ·exact (hok s0.x hi).2 l' hl'
     ·exact hll
    ·rw[jp e];exact hok i hi
   ·subst hd;have hld:=AO (m:=m) e5;have e1:(AQ false m s0).tile i=(m.setTile s0.x (Qw.putRow (m.tile s0.x) m.shape.start (m.bytes (ud m s0) (m.width s0.x)))).tile i:=by
     show (AQ false m s0).tiles.getD i Qw.zeros=_;rw[hld.2];rfl
    have e2:(AQ false m s0).height i=m.height i:=by unfold Qw.Mach.height;rw[iD]
    have e3:(AQ false m s0).width i=m.width i:=by unfold Qw.Mach.width;rw[iD]
    rw[e1,e2,e3,ur m s0.x i _ wf.tl (by lia)]
    by_cases e:i=s0.x
    ·subst e;rw[fS,if_pos rfl,wH _ _ _ _ _ (by unfold Qw.Mach.bytes;rw[length_map,length_range]) b2 hst16 b1 (wf.ts _),hrr rfl s0.x hi,hlb rfl]
    ·rw[jp e,if_neg e];exact hrr rfl i hi
   ·refine lQ.cg (lQ.fr (lQ.fr o f2 (fun k h1 h2=>by unfold rl;lia)) f3 (fun k h1 h2=>by unfold rl;lia)) (fun hd=>?_) (fun hd=>?_) (fun hd=>?_)
    ·subst hd;exact (AO e5).1
    ·rw[hJ.2.2.2]
    ·rw[if_pos hd]
theorem Af(h:hZ T d r H t m)(wf:Wf r H)(v:Nat):∃ dx ws hs rw,H t=some (.ins (T.dY d) dx (tF (.int (m.shape.start:Int)) (.ref ws) (.ref hs) (.ref rw))) ∧
  Fr (Rg (rl d 6) (rl d 7)) r H r (upd H t (.ins (T.dY d) dx (tF (.int (v:Int)) (.ref ws) (.ref hs) (.ref rw))))∧hZ T d r (upd H t (.ins (T.dY d) dx (tF (.int (v:Int)) (.ref ws) (.ref hs) (.ref rw)))) t (m.atRow v):=by
 obtain⟨RR,⟨dx,ws,hs,rw,ts,h1,h2,h3,h4,h5,h6,h7⟩,hok,hrr⟩:=h;have f:=Fr.upd (S:=Rg (rl d 6) (rl d 7)) (o':=.ins (T.dY d) dx (tF (.int (v:Int)) (.ref ws) (.ref hs) (.ref rw))) wf h1 (by rw[h2];unfold rl;constructor<;>lia)
 have n0:¬ Rg (rl d 6) (rl d 7) 0:=by unfold rl;lia
 exact⟨dx,ws,hs,rw,h1,f,RR,⟨dx,ws,hs,rw,ts,af,h2,f.keep h3.1 h3.2 n0,f.keep h4.1 h4.2 n0,f.keep h5.1 h5.2 (by unfold rl;lia),h6,fun i x e=>(h7 i x e).fr f n0 (by unfold rl;lia)⟩,hok,hrr⟩
theorem HR(h:hZ T d r H t m)(wf:Wf r H)(k:∀ H',Fr (Rg (rl d 6) (rl d 7)) r H r H'→hZ T d r H' t (m.atRow (m.shape.start+1))→Q H'):NE (T.dY d) "start_row" (.ref t) H (fun k=>k (.int 1) H) Q:=by
 obtain⟨dx,ws,hs,rw,h1,f,o⟩:=Af h wf (m.shape.start+1);refine uV h1 rfl ⟨1,dx,_,rfl,h1,by show 4<1000;decide,?_⟩
 rw[nF,show (m.shape.start:Int)+1=((m.shape.start+1:Nat):Int) by lia]
 exact k _ f o
theorem F9(h:hZ T d r H t m)(wf:Wf r H)(k:∀ H',Fr (Rg (rl d 6) (rl d 7)) r H r H'→hZ T d r H' t (m.atRow 0)→Q H'):Ho (T.dY d) "start_row" (.ref t) (.int 0) H Q:=by
 obtain⟨dx,ws,hs,rw,h1,f,o⟩:=Af h wf 0;exact bv h1 (by show 4<1000;decide) (k _ f o)
theorem xX(h:hZ T d r H t m)(k:Q (.int (m.shape.start:Int)) H):yE (T.dY d) "start_row" (.ref t) H Q:=by
 obtain⟨RR,⟨dx,ws,hs,rw,ts,h1,_⟩,_⟩:=h;exact ag h1 rfl k
structure Fx(T:Tx K mg)(d:Bool)(p g t:Addr)(pr:Qw.Program)(limit:Nat)(r:Ro)(H:Hp)(m:Qw.Mach)(left:Nat)(ta:Qw.Tally)(Q:VK):Prop where
 A:∀ r' H' a e m' ta',Fr (Rg (rl d 0) (rl d 32)) r H r' H'→H' a=some (.lst (iv (QM.nI (k8 e))))→r' a=0→cP d m left ta=(e,m',ta')→BO T d r' H' p g t pr m' ta' (G6 e)→Go pr m'→Q (.ref a) H'
 B:∀ r' H' m' left' ta',Fr (Rg (rl d 0) (rl d 32)) r H r' H'→BO T d r' H' p g t pr m' ta' none→cP d m left ta=cP d m' left' ta'→gh m' left'<gh m left→m'.paid+left'=limit→Go pr m'→Q .non H'
def HH(T:Tx K mg)(d:Bool):Sp:=fun vs H Q _=>∃ p g t r,∃ (pr:Qw.Program) (m:Qw.Mach),∃ ta s,∃ left:Nat,vs=[.ref p,.ref g,.ref t,.int ((m.paid+left:Nat):Int)]∧BO T d r H p g t pr m ta none∧Go pr m∧pr.steps[m.step]?=some s∧QM.pyFaultS d m pr s=0∧aH s∧Fx T d p g t pr (m.paid+left) r H m left ta Q
def OX(T:Tx K mg)(d:Bool)(p g t:Addr)(pr:Qw.Program)(r:Ro)(H:Hp)(m:Qw.Mach)(left:Nat)(ta:Qw.Tally)(s:Qw.Step)(hv:V):Nat→L2.St→Hp→Prop:=fun n σ H'=>∃ r' m' left' ta' v,σ=[some (.ref p),some (.ref g),some (.ref t),some (.int ((m.paid+left:Nat):Int)),some hv,v]∧Fr (Rg (rl d 0) (rl d 32)) r H r' H'∧BO T d r' H' p g t pr m' ta' none∧Go pr m' ∧
 m'.step=m.step∧QM.pyFaultS d m' pr s=0∧m'.height s.x=m.height s.x∧cP d m left ta=cP d m' left' ta'∧m'.paid+left'=m.paid+left∧n=gh m' left'∧n≤gh m left
theorem y3(T:Tx K mg)(d:Bool):bg P w K mg base 5 "move_rows" ["program","ground","tiles","limit"] (HH T d):=by
 refine bg.of ["height","answer"] T.Bk fun sc H Q E hr h=>?_
 obtain⟨p,g,t,r,pr,m,ta,s0,left,rfl,rep,go,hs,hf,hmv,out⟩:=h;obtain⟨⟨_,hx7,hy7,hz7⟩,_⟩:=(cw d m pr s0).2 hf;have hsh:=pq go.wf;obtain⟨RR,ho1,hok,hrr⟩:=id rep.to;obtain⟨dx1,ws,hs1,rw,ts,h1,h2,⟨h3,h3'⟩,⟨h4,h4'⟩,_⟩:=id ho1;refine⟨_,(ab (sS 4 sc.nd (xL K (ah (T.ba d) (T.ck d) (pv 2)) (ah (T.aD) (T.cu) (aO (T.ap) (bL T) hr.m (pv 0))))) (ab (u1 PassesOwn.never (gq kb (ah (T.ba d) (T.bU d) (pv 2)) (pv 4)) (ab (sS 5 sc.nd (aA (AD T d) hr.m (aa (pv 0) (aa (pv 1) (aa (pv 2) (aa (pv 3) ae)))))) (ab (aU (du yU (pv 5) cH (fo _)) (bu (pv 5)) aF) (aB (mJ (T.ba d) (T.bU d) (pv 2) aj))))) (ab (aV (T.ba d) (T.bU d) (pv 2) aj) (ab (mJ (T.ap) (T.cC) (pv 0) aj) (bu cH))))),?_⟩;walk_at "rd";refine ag h1 rfl (g6 rep.po hs fun a ⟨dxa,ha⟩ _=>ag ha rfl (bj (j:=s0.x) (aL.of h4) rfl (by rw[ak,hsh.hl];lia) ?_))
 rw[aQ];have eh:m.shape.heights.getD s0.x 0=m.height s0.x:=rfl;rw[eh];refine⟨OX T d p g t pr r H m left ta s0 (.int (m.height s0.x:Int)),⟨_,r,m,left,ta,none,rfl,Fr.refl rep.wf,rep,go,rfl,hf,rfl,rfl,rfl,rfl,Nat.le_refl _⟩,?_⟩
 rintro n σ H1 ⟨r1,m1,left1,ta1,v,rfl,f1,rep1,go1,es1,hf1,eh1,er1,el1,en,hn⟩
 have hs1:pr.steps[m1.step]?=some s0:=by rw[es1];exact hs
 walk_at "rd";refine xX rep1.to ?_
 walk_at "rd";refine aN (fun e=>⟨fun σ' H'=>∃ n',n'<n∧OX T d p g t pr r H m left ta s0 (.int (m.height s0.x:Int)) n' σ' H',fun σ' H' h=>h,?_⟩) fun e=>?_
 ·have hst1:¬ m1.height s0.x≤m1.shape.start:=by rw[eh1];lia
  refine⟨p,g,t,r1,pr,m1,ta1,s0,left1,by rw[el1],rep1,go1.wf,go1.pg,hs1,hf1,hmv,hst1,fun r2 H2 a e f2 ha hra hrun rep2=>?_,fun r2 H2 left2 hl2 f2 rep2 hrun=>?_⟩
  ·dsimp only;rw[if_pos (show ¬ V.ref a=V.non from fun z=>nomatch z)]
   exact out.A r2 H2 a e m1 ta1 (f1.trans f2) ha hra (er1.trans hrun) rep2 go1
  ·dsimp only;rw[if_neg (show ¬ ¬ V.non=V.non from fun z=>z rfl)]
   refine HR rep2.to rep2.wf fun H3 f3 o3=>?_
   subst hl2;have hsame:=kM (d:=d) (m:=m1) (s:=s0);refine⟨gh (QM.mv d m1 s0) left2,by rw[en];exact DR (left:=left2+1) (by lia),r2,QM.mv d m1 s0,left2,_,_,rfl,(f1.trans f2).trans (f3.mono (ci (by decide))),⟨?_,?_,?_,f3.wf⟩,⟨M2 go1.wf hst1,hsame.1.trans go1.pg,hsame.2.2.2.2.2.2.1.trans go1.hw⟩,hsame.2.1.trans es1,GC hmv hf1,?_,er1.trans hrun,by rw[hsame.2.2.2.1];lia,rfl,?_⟩
   ·have:=rep2.po.fr f3 (by unfold rl;cases d<;>simp) (by unfold rl;lia) (by unfold rl;lia)
    exact this
   ·refine o3.cg ?_ ?_
    ·rw[hsame.2.2.2.2.1];unfold Qw.Mach.atRow;dsimp only;rw[iD]
    ·rfl
   ·exact rep2.go.fr f3 (fun k h1 h2=>by unfold rl;lia)
   ·unfold Qw.Mach.height at *;rw[hsame.2.2.2.2.1];exact eh1
   ·have:=DR (d:=d) (m:=m1) (s:=s0) (left:=left2+1) (by lia)
    have e2:left2+1 - 1=left2:=rfl;rw[e2] at this;lia
 ·have hst1:m1.height s0.x≤m1.shape.start:=by rw[eh1];lia
  obtain⟨hr1,hr2⟩:=F4 (left:=left1) (ta:=ta1) go1.pg hs1 hf1 hmv hst1;refine F9 rep1.to rep1.wf fun H2 f2 o2=>?_
  refine HU (rep1.po.fr f2 (by unfold rl;cases d<;>simp) (by unfold rl;lia) (by unfold rl;lia)) f2.wf fun H3 f3 o3=>?_
  refine out.B r1 H3 (m1.atRow 0).next left1 ta1 ((f1.trans (f2.mono (ci (by decide)))).trans (f3.mono (ci (by decide)))) ⟨o3,(o2.fr f3 (by unfold rl;cases d<;>simp) (fun k h1 h2=>by unfold rl;lia)).cg rfl rfl,(rep1.go.fr f2 (fun k h1 h2=>by unfold rl;lia)).fr f3 (fun k h1 h2=>by unfold rl;lia),f3.wf⟩ (er1.trans hr1) (by lia) el1 ⟨(go1.wf.atRow (by lia)).next,go1.pg,go1.hw⟩
def Hn(pr:Qw.Program):Prop:=∀ (i:Nat) (s:Qw.Step),pr.steps[i]?=some s→s.v<2 ^ 64
def Kr(T:Tx K mg)(d:Bool):Sp:=fun vs H Q _=>∃ p g t r pr,∃ m:Qw.Mach,∃ ta,∃ left:Nat,vs=[.ref p,.ref g,.ref t,.int ((m.paid+left:Nat):Int)]∧BO T d r H p g t pr m ta none∧Go pr m∧Hn pr∧Fx T d p g t pr (m.paid+left) r H m left ta Q
theorem De{E:XK}(out:Fx T d p g t pr limit r H m left ta Q)(rep:BO T d r H p g t pr m ta none)(go:Go pr m)(s1:ai H H1)(nq:H1 q=none)(he:G6 e=some (k8 e))(hrun:cP d m left ta=(e,m,ta)) :
  JD T [.ref p,.ref q] (upd H1 q (.lst (iv (QM.nI (k8 e))))) Q E:=by
 have s2:=s1.trans (ai.new (o:=.lst (iv (QM.nI (k8 e)))) nq);have rep1:=rep.same s2;have hq0:r q=0:=rep.wf q (s1.free nq);refine⟨d,r,p,q,pr,_,_,_,none,k8 e,rfl,rep1.po,rep1.wf,af,hq0,fun H' f o ha=>out.A r H' q e m ta ((Fr.same rep.wf s2).trans (f.mono (ci (by decide)))) ha hq0 hrun ⟨by rw[he];exact o,rep1.to.fr f (by unfold rl;lia) (fun k h1 h2=>by unfold rl;lia),rep1.go.fr f (fun k h1 h2=>by unfold rl;lia),f.wf⟩ go⟩
theorem Fx.same(out:Fx T d p g t pr limit r H m left ta Q)(wf:Wf r H)(s:ai H H1):Fx T d p g t pr limit r H1 m left ta Q :=
 ⟨fun r' H' a e m' ta' f=>out.A r' H' a e m' ta' ((Fr.same wf s).trans f),fun r' H' m' left' ta' f=>out.B r' H' m' left' ta' ((Fr.same wf s).trans f)⟩
theorem tD(T:Tx K mg)(d:Bool):bg P w K mg base 9 "come_to_step" ["program","ground","tiles","limit"] (Kr T d):=by
 refine bg.of ["fault"] T.wc fun sc H Q E hr h=>?_
 obtain⟨p,g,t,r,pr,m,ta,left,rfl,rep,go,pw,out⟩:=h;refine⟨_,(ab (sS 4 sc.nd (aA (AE T d) hr.m (aa (pv 0) (aa (pv 2) ae)))) (ab (aU (gq il (pv 4) (am T.pf)) (bu (aA (mS T) hr.m (aa (pv 0) (aa (aJ (aa (am T.vS) (aa (pv 4) ae))) ae)))) aF) (ab (aU (gq cI (ah (T.aD) (T.bf) (aO (T.ap) (bL T) hr.m (pv 0))) (am T.JU)) (bu (aA (mS T) hr.m (aa (pv 0) (aa (aJ (aa (am T.w8) ae)) ae)))) aF) (ab (aU (cf (aO (T.aD) (lq T) hr.m (aO (T.ap) (bL T) hr.m (pv 0)))) (bu (aA (y3 T d) hr.m (aa (pv 0) (aa (pv 1) (aa (pv 2) (aa (pv 3) ae)))))) aF) (ab (aU (gq cI (ah (T.ap) (T.cn) (pv 0)) (pv 3)) (bu (aJ (aa (am T.A5) ae))) aF) (ab (aU (gq kb (ah (T.aD) (T.bf) (aO (T.ap) (bL T) hr.m (pv 0))) (am T.A4)) (aB (bQ (aA (tw T d) hr.m (aa (pv 0) (aa (pv 2) ae))))) (aB (bQ (aA (qd T) hr.m (aa (pv 0) ae))))) (ab (aV (T.ap) (T.cC) (pv 0) (aA (vf T) hr.m (aa (pv 0) ae))) (ab (mJ (T.ap) (T.cn) (pv 0) aj) (bu cH))))))))),?_⟩;walk_at "rd";refine⟨p,t,r,m,pr,none,rfl,rep.po,rep.to,rep.wf,go.wf,fun hn H1 s1=>?_,fun s0 hs H1 s1=>?_⟩
 ·walk_at "rd";rw[if_pos (by decide)]
  exact⟨by decide,fun q nq=>De out rep go s1 nq (e:=.fault 1) rfl (F3 go.pg hn)⟩
 walk_at "rd";refine aN (fun e=>?_) fun e=>?_
 ·have hfl:QM.pyFaultS d m pr s0≠0:=fun z=>e (by rw[z];rfl)
  exact⟨by decide,fun q nq=>De out rep go s1 nq (e:=.fault (QM.pyFaultS d m pr s0)) rfl (EI go.pg hs hfl)⟩
 have hf:QM.pyFaultS d m pr s0=0:=by lia
 have out:=out.same rep.wf s1;have rep:=rep.same s1;clear s1;obtain⟨⟨h14,hx7,hy7,hz7⟩,_⟩:=(cw d m pr s0).2 hf;refine g6 rep.po hs fun a ⟨dxa,ha⟩ _=>ag ha rfl ?_
 walk_at "rd";refine aN (fun e0=>?_) fun e0=>?_
 ·exact⟨by decide,fun q nq=>De out rep go ai.refl nq (e:=.done) rfl (HP go.pg hs hf (by lia))⟩
 have hk0:s0.kind≠0:=by lia
 refine g6 rep.po hs fun a ⟨dxa,ha⟩ _=>aT ha rfl ⟨a,s0,rfl,⟨dxa,ha⟩,aN (fun em=>?_) fun em=>?_⟩
 ·exact⟨p,g,t,r,pr,m,ta,s0,left,rfl,rep,go,hs,hf,of_decide_eq_true em,out⟩
 have hmv:¬ aH s0:=of_decide_eq_false (by simpa using em)
 refine xY rep.po ?_
 walk_at "rd";refine aN (fun el=>?_) fun el=>?_
 ·have hl0:left=0:=by lia
  subst hl0;refine⟨by decide,fun q nq=>?_⟩
  have s2:=ai.new (o:=.lst [V.int 1]) nq;exact out.A r _ q .paused m ta (Fr.same rep.wf s2) af (rep.wf q nq) (EH go.pg hs hf hk0 hmv) (rep.same s2) go
 obtain⟨left',rfl⟩:∃ left',left=left'+1:=⟨left - 1,by lia⟩
 have hrun:=HQ (left:=left') (ta:=ta) go.pg hs hf hk0 hmv;have hwf:=Ni go.wf hf hk0 hmv;obtain⟨kp1,kp2,kp3,kp4⟩:=I0 (d:=d) (m:=m) (pr:=pr) (s:=s0);have go2:Go pr { dR d m pr s0 with paid:=m.paid+1 }:=⟨hwf.same rfl rfl rfl rfl rfl,kp1.trans go.pg,kp4.trans go.hw⟩
 refine g6 rep.po hs fun a ⟨dxa,ha⟩ _=>ag ha rfl ?_
 walk_at "rd";refine aN (fun ek=>?_) fun ek=>?_
 ·have hk11:s0.kind<11:=by lia
  obtain⟨kt1,kt2⟩:=IZ (d:=d) (m:=m) (pr:=pr) hk11;refine⟨p,t,r,m,pr,none,s0,rfl,rep.po,rep.to,rep.wf,go.wf,hs,hf,hk0,hmv,hk11,fun r1 H1 f1 o1=>?_⟩
  have po1:=rep.po.fr f1 (by unfold rl;cases d<;>simp) (by unfold rl;lia) (by unfold rl;lia)
  refine⟨d,r1,p,pr,_,_,_,none,s0,rfl,po1,hs,go.wf.rl,by lia,?_⟩
  rw[if_neg (by lia)]
  refine Cp po1 f1.wf fun H2 f2 o2=>pX o2 f2.wf fun H3 f3 o3=>?_
  refine out.B r1 H3 _ left' ta (((f1.mono (ci (by decide))).trans (f2.mono (ci (by decide)))).trans (f3.mono (ci (by decide)))) ⟨?_,?_,?_,f3.wf⟩ hrun Eh (by show m.paid+1+left'=_;lia) go2
  ·show dc T d r1 H3 p pr (dR d m pr s0).step (m.paid+1) (dR d m pr s0).r none;rw[kt1,kt2];exact o3
  ·exact ((o1.fr f2 (by unfold rl;cases d<;>simp) (fun k h1 h2=>by unfold rl;lia)).fr f3 (by unfold rl;cases d<;>simp) (fun k h1 h2=>by unfold rl;lia)).cg rfl rfl
  ·refine lQ.cg ((rep.go.fr f1 (fun k h1 h2=>by unfold rl;lia)).fr f2 (fun k h1 h2=>by unfold rl;lia) |>.fr f3 (fun k h1 h2=>by unfold rl;lia)) (fun _=>kp2) (fun _=>kp3) fun _=>rfl
 ·have hk11:11≤s0.kind:=by lia
  obtain⟨kn1,kn2,kn3,kn4⟩:=Lq (d:=d) (m:=m) (pr:=pr) hk11 h14 go.wf.rl (by lia)
  refine⟨d,r,p,pr,_,_,_,none,s0,rfl,rep.po,rep.wf,hs,go.wf.rl,by lia,by lia,pw _ _ hs,fun H1 f1 o1=>?_⟩
  refine⟨d,r,p,pr,_,_,_,none,s0,rfl,o1,hs,by unfold JL;rw[length_set];exact go.wf.rl,by lia,?_⟩
  refine Cp o1 f1.wf fun H2 f2 o2=>pX o2 f2.wf fun H3 f3 o3=>?_
  refine out.B r H3 _ left' ta (((f1.mono (ci (by decide))).trans (f2.mono (ci (by decide)))).trans (f3.mono (ci (by decide)))) ⟨?_,?_,?_,f3.wf⟩ hrun Eh (by show m.paid+1+left'=_;lia) go2
  ·show dc T d r H3 p pr (dR d m pr s0).step (m.paid+1) (dR d m pr s0).r none;rw[kn3,kn4];exact o3
  ·refine (((rep.to.fr f1 (by unfold rl;cases d<;>simp) (fun k h1 h2=>by unfold rl;lia)).fr f2 (by unfold rl;cases d<;>simp) (fun k h1 h2=>by unfold rl;lia)).fr f3 (by unfold rl;cases d<;>simp) (fun k h1 h2=>by unfold rl;lia)).cg kn1 kn2
  ·refine lQ.cg ((rep.go.fr f1 (fun k h1 h2=>by unfold rl;lia)).fr f2 (fun k h1 h2=>by unfold rl;lia) |>.fr f3 (fun k h1 h2=>by unfold rl;lia)) (fun _=>kp2) (fun _=>kp3) fun _=>rfl
def Kh(T:Tx K mg)(d:Bool):Sp:=fun vs H Q _=>∃ p g t r pr m ta,∃ (rows:Nat) (en:Option (List Nat)),vs=[.ref p,.ref g,.ref t,.int (rows:Int)]∧BO T d r H p g t pr m ta en∧Hn pr ∧
 (∀ l a,en=some l→H a=some (.lst (iv (QM.nI l)))→r a=0→Q (.ref a) H) ∧
 (en=none→Go pr m∧∀ r' H' a e m' ta',Fr (Rg (rl d 0) (rl d 32)) r H r' H'→H' a=some (.lst (iv (QM.nI (k8 e))))→r' a=0→cP d m rows ta=(e,m',ta')→BO T d r' H' p g t pr m' ta' (G6 e)→Go pr m'→Q (.ref a) H')
theorem mN(T:Tx K mg)(d:Bool):bg P w K mg base 10 "run_program" ["program","ground","tiles","rows"] (Kh T d):=by
 refine bg.of ["limit","answer"] T.xc fun sc H Q E hr h=>?_
 obtain⟨p,g,t,r,pr,m,ta,rows,en,rfl,rep,pw,k1,k2⟩:=h;obtain⟨dx,st,sh,nb,ev,h1,h2,h3,h4,h5,h6,h7⟩:=id rep.po;refine⟨_,(ab (sS 4 sc.nd (aq bn (ah (T.ap) (T.cn) (pv 0)) (pv 3))) (ab (sS 5 sc.nd (ah (T.ap) (T.cM) (pv 0))) (ab (u1 PassesOwn.never (du iO (pv 5) cH (fo _)) (aB (sS 5 sc.nd (aA (tD T d) hr.m (aa (pv 0) (aa (pv 1) (aa (pv 2) (aa (pv 4) ae)))))))) (bu (pv 5))))),?_⟩;walk_at "rd";refine ag h1 rfl ?_
 walk_at "rd";refine ag h1 rfl ?_
 cases en with
 | some l =>
  obtain⟨a,rfl,ha,hra⟩:=h7;refine⟨fun n σ H'=>σ=[some (.ref p),some (.ref g),some (.ref t),some (.int (rows:Int)),some (.int ((m.paid:Int)+(rows:Int))),some (.ref a)]∧H'=H,⟨0,rfl,rfl⟩,?_⟩
  rintro n σ H' ⟨rfl,rfl⟩
  walk_at "rd";rw[if_neg (fun z=>nomatch z)]
  exact k1 l a rfl ha hra
 | none =>
  obtain rfl:ev=.non:=h7;obtain⟨go,k2⟩:=k2 rfl;rw[show (m.paid:Int)+(rows:Int)=((m.paid+rows:Nat):Int) by lia]
  let W:Nat→L2.St→Hp→Prop:=fun n σ H'=>(∃ r' m' left' ta',σ=[some (.ref p),some (.ref g),some (.ref t),some (.int (rows:Int)),some (.int ((m.paid+rows:Nat):Int)),some .non]∧Fr (Rg (rl d 0) (rl d 32)) r H r' H'∧BO T d r' H' p g t pr m' ta' none∧Go pr m'∧cP d m rows ta=cP d m' left' ta'∧m'.paid+left'=m.paid+rows∧n=gh m' left'+1) ∨
   (∃ a,σ=[some (.ref p),some (.ref g),some (.ref t),some (.int (rows:Int)),some (.int ((m.paid+rows:Nat):Int)),some (.ref a)]∧n=0∧Q (.ref a) H')
  refine⟨W,⟨_,.inl ⟨r,m,rows,ta,rfl,Fr.refl rep.wf,rep,go,rfl,rfl,rfl⟩⟩,?_⟩
  rintro n σ H1 (⟨r1,m1,left1,ta1,rfl,f1,rep1,go1,er1,el1,en⟩ | ⟨a,rfl,en,q⟩)
  ·walk_at "rd";refine⟨fun σ' H'=>∃ n',n'<n∧W n' σ' H',fun σ' H' h=>h,?_⟩
   refine⟨p,g,t,r1,pr,m1,ta1,left1,by rw[el1],rep1,go1,pw,fun r2 H2 a e m2 ta2 f2 ha hra hrun rep2 go2=>?_,fun r2 H2 m2 left2 ta2 f2 rep2 hrun hneed hpaid go2=>?_⟩
   ·exact⟨0,by lia,.inr ⟨a,rfl,rfl,k2 r2 H2 a e m2 ta2 (f1.trans f2) ha hra (er1.trans hrun) rep2 go2⟩⟩
   ·exact⟨gh m2 left2+1,by lia,.inl ⟨r2,m2,left2,ta2,rfl,f1.trans f2,rep2,go2,er1.trans hrun,hpaid.trans el1,rfl⟩⟩
  ·walk_at "rd";rw[if_neg (fun z=>nomatch z)]
   exact q
theorem EZ{lo c:Int}{n k:Nat}{te:TE}{vs:List Nat}{σ:L2.St}{Qd:Hp→Prop}(f:Nat→List Int)(hD:H1 D=none)(hn:n<sizeLine)
  (turn:∀ i H (Kt:VK),i<n→ai H1 H→jU H (f i) Kt→bh ((bh σ vs).set k (some (.int (lo+(i:Nat)*c)))) vs=bh σ vs∧te ((bh σ vs).set k (some (.int (lo+(i:Nat)*c)))) H Kt)
  (dO:∀ H' as,(∀ b∈as,H1 b=none∧b≠D)→LL H' as ((List.range n).map f)→H' D=some (.lst (as.map V.ref))→ai H1 H'→Qd H'):BZ (Nz lo c n) (db k) te vs σ H1 D Qd :=
 rf n f hD hn (fun i H hi _=>hi) (fun H _=>Nat.le_refl _) (fun i x H H' Kt hi hs hy hk=>by
  obtain⟨rfl,rfl⟩:=hy;exact turn i _ Kt hi hs hk) dO
def HG(K:PySem.W.Frag):Sp:=fun vs H Q _=>∃ a,∃ (l:List Int) (n k:Nat),vs=[.ref a,.int (k:Int)]∧aL K H a (iv l)∧l.length=k*n∧1≤k∧k≤1000000∧n≤1000000∧oI H (eK l n k) Q
theorem mP(T:Tx K mg):bg P w K mg base 1 "parts_of" ["row","length"] (HG K):=by
 refine bg.of ["q"] T.CZ fun sc H Q E hr h=>?_
 obtain⟨a,l,n,k,rfl,hl,hlen,hk1,hk2,hn,kk⟩:=h;refine⟨_,(bu (dM (own:=[("q",2)]) rfl sc.nd (fT rfl T.dW (aa aj (aa (tW K T.eB (aa (pv 0) ae)) (aa (pv 1) ae)))) (aY (N:=["row","length","q"]) (sc:=aC oN) (by decide +kernel)) (fun _ _ _ _ _=>(gN 2 sc.nd)) (fun _ _ _ _ _=>(bE)) (fun _ _ _ _ _=>(g9 (gX (K:=K)) (pv 0) (dE (pv 2)) (dE (aq bn (pv 2) (pv 1))))))),?_⟩
 walk_at "rd";refine cQ hl ?_
 walk_at "rd";refine⟨n,Co (by lia) (by lia) (by rw[aM,hlen];exact Int.natCast_mul _ _) (by lia),fun D hD=>EZ (fun q=>(l.drop (q*k)).take k) hD (sz hn) (fun i H1 Kt hi hs hk=>?_) fun H1 as h1 h2 h3 h4=>kk D as H1 h4 hD h1 h3 h2⟩
 walk_at "rd";refine sy (hs.seq hl) fun p hp=>hk p _ (ai.new hp) hp ?_
 rw[af]
 have:=rj l (i*k) (i*k+k) (lo:=0+(i:Int)*(k:Int)) (hi:=0+(i:Int)*(k:Int)+(k:Int)) (by rw[Int.natCast_mul];lia) (by rw[Int.natCast_add,Int.natCast_mul];lia)
 rw[this,show i*k+k - i*k=k by lia]
def Mo(K:PySem.W.Frag):Sp:=fun vs H Q _=>∃ a b,∃ l r:List Int,vs=[.ref a,.ref b]∧aL K H a (iv l)∧aL K H b (iv r)∧Q (.bl (decide (¬ (l.length % 5≠0∨r.length % 17≠0∨1024<l.length / 5)))) H
theorem wO(T:Tx K mg):bg P w K mg base 1 "is_program" ["steps","shapes"] (Mo K):=by
 refine bg.of [] T.zF fun sc H Q E hr h=>?_
 obtain⟨a,b,l,r,rfl,hl,hr1,k⟩:=h;refine⟨_,(ab (aU (PW.pt (g7 (gq il (aq eR (tW K T.eB (aa (pv 0) ae)) (am T.jQ)) aj) (fJ (gq mM (tW K T.eB (aa (pv 0) ae)) (aq bq (am T.jQ) (am T.zp)))))) (bu j8) aF) (bu (tU cI (aq eR (tW K T.eB (aa (pv 1) ae)) (am T.eT)) aj))),?_⟩;walk_at "rd";refine cQ hl ?_
 walk_at "rd";rw[aM];refine⟨by decide,?_⟩
 refine aN (fun e=>?_) fun e=>?_
 ·rw[decide_eq_false (by lia)] at k;exact k
 refine cQ hl ?_
 walk_at "rd";rw[aM];refine⟨⟨by decide,by decide⟩,aN (fun e2=>?_) fun e2=>?_⟩
 ·rw[decide_eq_false (by lia)] at k;exact k
 refine cQ hr1 ?_
 walk_at "rd";rw[aM];refine⟨by decide,?_⟩
 rw[show decide ((r.length:Int) % 17=0)=decide (¬ (l.length % 5≠0∨r.length % 17≠0∨1024<l.length / 5)) from decide_eq_decide.2 (by lia)]
 exact k
theorem vw{T:Tx K mg}{d:Bool}{r:Ro}{H:Hp}{pr:Qw.Program}{st sh:Addr}{Q:Addr→Hp→Prop}{E:XK}(wf:Wf r H)(hst:nV T.dP r H st pr.steps.toList)(hsh:ko r H sh pr.shapes)
  (k:∀ r' H' p,ai H H'→kv r H r'→Wf r' H'→H p=none→dc T d r' H' p pr 0 0 (List.replicate 8 0) none→Q p H') :
  ∀ x dx,H x=none→H dx=none→dx≠x→Dz T.aS [.ref x,.ref st,.ref sh] (upd (upd H dx (.own x)) x (.ins T.aS dx [])) (fun v H2=>v=.non∧Q x H2) E:=by
 intro x dx hx hdx ne;refine⟨x,dx,_,_,rfl,af,fun H' nb hnb nx e1 e2 b=>⟨rfl,?_⟩⟩
 have s1:ai H H':=fun c o e=>b c o (by rw[ao (au e hx),ao (au e hdx)];exact e) (au e hx)
 have hnH:H nb=none:=by
  rw[ao nx] at hnb
  by_cases z:nb=dx
  ·rw[z];exact hdx
  ·rwa [ao z] at hnb
 have w1:=wf.same s1;have ro:kv r H (giv (giv r x (rl d 4)) nb (rl d 5)):=(kv.refl.giv hx).giv hnH;have w2:Wf (giv (giv r x (rl d 4)) nb (rl d 5)) H':=Wf.giv (Wf.giv w1 (bB e2)) (bB e1);have f:Fr (fun _=>False) r H (giv (giv r x (rl d 4)) nb (rl d 5)) H':=ro.fr s1 w2
 refine k _ H' x s1 ro w2 hx ⟨dx,st,sh,nb,.non,e2,by rw[gO nx.symm];exact cY,hst.fr f (fun z=>z),hsh.fr f (fun z=>z),by rw[e1,vE];rfl,cY,rfl⟩
theorem kx:∀ (n:Nat) (l:List Nat),Quilt.stepsOf n l=(List.range n).map fun i=>(⟨l.getD (5*i) 0,l.getD (5*i+1) 0,l.getD (5*i+2) 0,l.getD (5*i+3) 0,l.getD (5*i+4) 0⟩:Qw.Step)
 | 0,_=>rfl
 | n+1,l=>by
  have g:∀ i j,(l.drop 5).getD (5*i+j) 0=l.getD (5*(i+1)+j) 0:=fun i j=>by
   rw[getD_eq_getElem?_getD,getD_eq_getElem?_getD,getElem?_drop,show 5+(5*i+j)=5*(i+1)+j by lia]
  rw[Quilt.stepsOf,kx n,range_succ_eq_map,map_cons,map_map]
  congr 1
  apply map_congr_left;intro i _;have g0:=g i 0;rw[Nat.add_zero,Nat.add_zero] at g0;show (⟨_,_,_,_,_⟩:Qw.Step)=⟨_,_,_,_,_⟩;rw[g0,g i 1,g i 2,g i 3,g i 4]
theorem lW:∀ (n:Nat) (l:List Nat),Quilt.shapesOf n l=(List.range n).map fun i=>Qw.shapeOf ((l.drop (17*i)).take 17)
 | 0,_=>rfl
 | n+1,l=>by
  rw[Quilt.shapesOf,lW n,range_succ_eq_map,map_cons,map_map]
  congr 1
  apply map_congr_left;intro i _;show Qw.shapeOf _=Qw.shapeOf _;rw[drop_drop,show 17+17*i=17*(i+1) by lia]
theorem kz(l:List Nat)(h:l.length=17):(Qw.shapeOf l).nums=l∧(Qw.shapeOf l).widths.length=8∧(Qw.shapeOf l).heights.length=8:=by
 match l,h with
 | [_,_,_,_,_,_,_,_,_,_,_,_,_,_,_,_,_],_=>exact⟨rfl,rfl,rfl⟩
def u4(n k:Nat)(l s:List Nat):Qw.Program:=⟨(Quilt.stepsOf n l).toArray,Quilt.shapesOf k s⟩
def Me(T:Tx K mg):Sp:=fun vs H Q _=>∃ a b,∃ (l s:List Nat) (n k:Nat),∃ r,vs=[.ref a,.ref b]∧aL K H a (iv (QM.nI l))∧aL K H b (iv (QM.nI s))∧l.length=5*n∧s.length=17*k∧n≤10000∧k≤10000∧Wf r H ∧
 ∀ r' H' p,ai H H'→kv r H r'→Wf r' H'→H p=none→dc T false r' H' p (u4 n k l s) 0 0 (List.replicate 8 0) none→Q (.ref p) H'
theorem x6(l:List Nat)(n k i:Nat)(hi:i<n):(eK (QM.nI l) n k)[i]?=some (QM.nI ((l.drop (i*k)).take k)):=by
 unfold eK QM.nI;rw[getElem?_map,getElem?_range hi,Option.map_some,←map_drop,←map_take]
theorem j9(l:List Nat)(i k j:Nat)(hj:j<k):((l.drop (i*k)).take k).getD j 0=l.getD (k*i+j) 0:=by
 rw[getD_eq_getElem?_getD,getD_eq_getElem?_getD,getElem?_take,if_pos hj,getElem?_drop,Nat.mul_comm]
theorem wK(T:Tx K mg):bg P w K mg base 3 "program_of" ["steps","shapes"] (Me T):=by
 refine bg.of ["parts","read_steps","part"] T.zz fun sc H Q E hr h=>?_
 obtain⟨a,b,l,s0,n,k,r,rfl,ha,hb,hl,hs,hn,hk,wf,kk⟩:=h;refine⟨_,(ab (sS 2 sc.nd (aA (mP T) hr.m (aa (pv 0) (aa (am T.jQ) ae)))) (ab (mH (i:=3) (own:=[("part",4)]) rfl sc.nd rfl rfl (pp rfl rfl rfl rfl) (bT (K:=K) (pv 2)) (aY (N:=["steps","shapes","parts","read_steps","part"]) (sc:=aC kD) (by decide +kernel)) (fun _ _ _ _ _=>(gN 4 sc.nd)) (fun _ _ _ _ _=>(bE)) (fun _ _ _ _ _=>(fU (cT T) hr.m (aa (xL K (pv 4) aj) (aa (xL K (pv 4) aj) (aa (xL K (pv 4) aj) (aa (xL K (pv 4) aj) (aa (xL K (pv 4) aj) ae)))))))) (bu (fU (iQ T) hr.m (aa (pv 3) (aa (aA (mP T) hr.m (aa (pv 1) (aa (am T.eT) ae))) ae)))))),?_⟩
 walk_at "rd";refine⟨a,_,n,5,rfl,ha,by rw[ak];exact hl,by decide,by decide,by lia,fun p1 as1 H1 s1 np1 na1 hp1 hl1=>?_⟩
 have w1:=wf.same s1;have hlen1:(as1.map V.ref).length=n:=by rw[length_map,hl1.1];unfold eK;rw[length_map,length_range]
 refine⟨p1,rfl,⟨_,aL.of hp1⟩,fun D hD=>?_⟩
 refine K4 (K:=K) 9 r w1 (fun i x r H=>dX T.dP H x ⟨l.getD (5*i) 0,l.getD (5*i+1) 0,l.getD (5*i+2) 0,l.getD (5*i+3) 0,l.getD (5*i+4) 0⟩∧r x=0) hD (aL.of hp1) (by rw[hlen1];exact sz (by lia)) (fun i x r H r' H' h f=>?_) (fun i x H2 r2 Kt hx s2 ro2 w2 rd2 hk=>?_) fun H2 r2 ds l2 s2 ro2 w2 rd2 eD hds=>?_
 ·obtain⟨⟨dx,h1⟩,h2⟩:=h;obtain⟨k1,k2⟩:=f.keep h1 h2 (by lia)
  exact⟨⟨dx,k1⟩,k2⟩
 ·obtain⟨c,hc,rfl⟩:=bR hx;have hi:i<n:=by rw[←hlen1,length_map];exact (List.getElem?_eq_some_iff.mp hc).1
  have hcl:H1 c=some (.lst (iv (QM.nI ((l.drop (i*5)).take 5)))):=hl1.2 i c _ hc (x6 l n 5 i hi);have hc2:=aL.of (K:=K) (s2 _ _ hcl);have hl5:(QM.nI ((l.drop (i*5)).take 5)).length=5:=by rw[ak,length_take,length_drop];lia
  walk_at "rd";refine bj (j:=0) hc2 rfl (by lia) (bj (j:=1) hc2 rfl (by lia) (bj (j:=2) hc2 rfl (by lia) (bj (j:=3) hc2 rfl (by lia) (bj (j:=4) hc2 rfl (by lia) ?_))))
  rw[aQ,aQ,aQ,aQ,aQ,j9 l i 5 0 (by decide),j9 l i 5 1 (by decide),j9 l i 5 2 (by decide),j9 l i 5 3 (by decide),j9 l i 5 4 (by decide)]
  refine MP fun x dx H3 nx s3 e3=>hk x H3 r2 s3 kv.refl (w2.same s3) ⟨⟨dx,e3⟩,w2 x nx⟩
 ·have hb2:=(s1.trans s2).seq hb;refine⟨b,_,k,17,rfl,hb2,by rw[ak];exact hs,by decide,by decide,by lia,fun p3 as3 H3 s3 np3 na3 hp3 hl3=>?_⟩
  have s13:=(s1.trans s2).trans s3;have w3:Wf (giv r2 D 0) H3:=Wf.giv (w2.same s3) (bB (s3 _ _ eD));have ro3:kv r H (giv r2 D 0):=fun c hc=>by
   rw[gO (fun z=>hc (by rw[z];exact s1.free hD))]
   exact ro2 c (by
    cases e:H c with
    | none=>exact absurd e hc
    | some o=>exact bB (s1 _ _ e))
  have nD3:∀ c,H2 c=none→c≠D:=fun c hc z=>by rw[z,eD] at hc;cases hc
  refine vw (pr:=u4 n k l s0) w3 ⟨ds,s3 _ _ eD,cY,?_,fun i c st e1 e2=>?_⟩ ⟨as3,hp3,?_,?_,fun c hc=>?_,fun sh hsh=>?_⟩ fun r' H' p s' ro' w' np po=>kk r' H' p (s13.trans s') (ro3.trans s13 ro') w' (s13.free np) po
  ·show ds.length=(Quilt.stepsOf n l).toArray.toList.length;rw[kx,l2,hlen1];simp
  ·have e2:(Quilt.stepsOf n l)[i]?=some st:=e2;have hi:i<n:=by rw[←hlen1,←l2];exact (List.getElem?_eq_some_iff.mp e1).1
   rw[kx,getElem?_map,getElem?_range hi] at e2;obtain⟨⟨dx,q1⟩,q2⟩:=hds i c e1;rw[←Option.some.inj e2];refine⟨⟨dx,s3 _ _ q1⟩,?_⟩;rw[gO (fun z=>by rw[z,rd2] at q2;cases q2)];exact q2
  ·rw[gO (nD3 _ np3)];exact w2 _ np3
  ·show LL H3 as3 ((Quilt.shapesOf k s0).map fun s=>QM.nI s.nums)
   have:((Quilt.shapesOf k s0).map fun s=>QM.nI s.nums)=eK (QM.nI s0) k 17:=by
    rw[lW,map_map];apply ext_getElem?;intro i
    by_cases hi:i<k
    ·rw[x6 s0 k 17 i hi,getElem?_map,getElem?_range hi];show some (QM.nI (Qw.shapeOf _).nums)=_;rw[(kz _ (by rw[length_take,length_drop];lia)).1,Nat.mul_comm 17 i]
    ·rw[getElem?_eq_none (by simpa using Nat.le_of_not_lt hi),getElem?_eq_none (by unfold eK;simpa using Nat.le_of_not_lt hi)]
   rw[this];exact hl3
  ·rw[gO (nD3 _ (na3 c hc).1)];exact w2 _ (na3 c hc).1
  ·have hsh:sh∈Quilt.shapesOf k s0:=hsh;rw[lW] at hsh;obtain⟨i,hi,rfl⟩:=mem_map.1 hsh;exact (kz _ (by rw[length_take,length_drop];have:=mem_range.1 hi;lia)).2
section
variable{T:Tx K mg}{d:Bool}{r:Ro}{H:Hp}{p:Addr}{pr:Qw.Program}{at_ paid:Nat}{nums:List Nat}{en:Option (List Nat)}
theorem EM(h:dc T d r H p pr at_ paid nums en)(wf:Wf r H)(k:∀ H',Fr (Rg (rl d 4) (rl d 5)) r H r H'→dc T d r H' p pr at_ v nums en→Q H'):Ho T.aS "paid" (.ref p) (.int (v:Int)) H Q:=by
 obtain⟨dx,st,sh,nb,ev,h1,f,o⟩:=uc h wf (at':=at_) (paid':=v);exact bv h1 (by show 6<1000;decide) (k _ f o)
theorem Gb(h:dc T d r H p pr at_ paid nums en)(wf:Wf r H)(he:qJ r H v en')(k:∀ H',Fr (Rg (rl d 4) (rl d 5)) r H r H'→dc T d r H' p pr at_ paid nums en'→Q H'):Ho T.aS "ended" (.ref p) v H Q:=by
 obtain⟨dx,st,sh,nb,ev,h1,h2,h3,h4,h5,h6,h7⟩:=h;have f:=Fr.upd (S:=Rg (rl d 4) (rl d 5)) (o':=.ins T.aS dx (pF (.ref st) (.ref sh) (.int (at_:Int)) (.ref nb) (.int (paid:Int)) v)) wf h1 (by rw[h2];unfold rl;constructor<;>lia)
 have n0:¬ Rg (rl d 4) (rl d 5) 0:=by unfold rl;lia
 have k5:=f.keep h5 h6 (by unfold rl;lia)
 exact bv h1 (by show 6<1000;decide) (k _ f ⟨dx,st,sh,nb,v,af,h2,h3.fr f n0,h4.fr f n0,k5.1,k5.2,he.fr f n0⟩)
theorem Ga(h:dc T d r H p pr at_ paid nums en)(wf:Wf r H)(hl:H l=none)(k:∀ r' H',Fr (Rg (rl d 4) (rl d 5)) r H r' H'→dc T d r' H' p pr at_ paid nums' en→Q H'):Ho T.aS "numbers" (.ref p) (.ref l) (upd H l (.lst (iv (QM.nI nums')))) Q:=by
 have s:=ai.new (o:=.lst (iv (QM.nI nums'))) hl;have e:(upd H l (.lst (iv (QM.nI nums')))) l=some (.lst (iv (QM.nI nums'))):=af;generalize upd H l (.lst (iv (QM.nI nums')))=H1 at *;have w1:Wf (giv r l (rl d 5)) H1:=Wf.giv (wf.same s) (bB e);have f1:∀ S,Fr S r H (giv r l (rl d 5)) H1:=fun S=>(kv.refl.giv hl).fr s w1
 obtain⟨dx,st,sh,nb,ev,h1,h2,h3,h4,h5,h6,h7⟩:=h.fr (f1 fun _=>False) (fun z=>z) (fun z=>z) (fun z=>z)
 have f:=Fr.upd (S:=Rg (rl d 4) (rl d 5)) (o':=.ins T.aS dx (pF (.ref st) (.ref sh) (.int (at_:Int)) (.ref l) (.int (paid:Int)) ev)) w1 h1 (by rw[h2];unfold rl;constructor<;>lia)
 have n0:¬ Rg (rl d 4) (rl d 5) 0:=by unfold rl;lia
 have k5:=f.keep e cY (by unfold rl;lia)
 exact bv h1 (by show 6<1000;decide) (k _ _ ((f1 _).trans f) ⟨dx,st,sh,l,ev,af,h2,h3.fr f n0,h4.fr f n0,k5.1,k5.2,h7.fr f n0⟩)
end
def Kf(T:Tx K mg):Sp:=fun vs H Q _=>∃ p r pr,∃ (at_ paid:Nat) (nums:List Nat) (en:Option (List Nat)),vs=[.ref p]∧dc T false r H p pr at_ paid nums en∧Wf r H ∧
 ∀ r' H' q,Fr (Rg (rl true 0) (rl true 32)) r H r' H'→dc T true r' H' q pr at_ paid nums en→Q (.ref q) H'
theorem tI(T:Tx K mg):de P w K mg base 3 T.aS "twin" ["self"] (Kf T):=by
 refine de.of ["other"] T.wm fun sc H Q E hr h=>?_
 obtain⟨p,r,pr,at_,paid,nums,en,rfl,hp,wf,k⟩:=h;obtain⟨dx,st,sh,nb,ev,h1,h2,h3,h4,h5,h6,h7⟩:=id hp;have sd:∀ {a b},b≤32→∀ k,Rg (rl true a) (rl true b) k→Rg (rl true 0) (rl true 32) k:=fun h=>ci h
 refine⟨_,(ab (sS 1 sc.nd (fU (iQ T) hr.m (aa (ah (T.ap) (T.di) (pv 0)) (aa (ah (T.ap) (T.dI) (pv 0)) ae)))) (ab (aV (T.ap) (T.cC) (pv 1) (ah (T.ap) (T.cC) (pv 0))) (ab (aV (T.ap) (T.cq) (pv 1) (ER zU (by rfl) T.Lx boot_list (aa (ah (T.ap) (T.cq) (pv 0)) ae))) (ab (aV (T.ap) (T.cn) (pv 1) (ah (T.ap) (T.cn) (pv 0))) (ab (aV (T.ap) (T.cM) (pv 1) (ah (T.ap) (T.cM) (pv 0))) (bu (pv 1))))))),?_⟩
 walk_at "rd";refine ag h1 rfl (ag h1 rfl ?_);refine vw (d:=true) wf h3 h4 fun r1 H1 q s1 ro1 w1 nq po=>?_
 have f1:Fr (Rg (rl true 0) (rl true 32)) r H r1 H1:=ro1.fr s1 w1;have g1:Fr (Rg (rl true 4) (rl true 5)) r H r1 H1:=ro1.fr s1 w1;have n0:¬ Rg (rl true 4) (rl true 5) 0:=by unfold rl;simp
 have hp1:=g1.keep h1 h2 (by unfold rl;simp)
 refine ag hp1.1 rfl (Cp po w1 fun H2 f2 o2=>?_)
 have hp2:=f2.keep hp1.1 hp1.2 (by unfold rl;simp)
 have hn2:=f2.keep (g1.keep h5 h6 (by unfold rl;simp)).1 (g1.keep h5 h6 (by unfold rl;simp)).2 (by unfold rl;simp)
 refine ag hp2.1 rfl ?_
 walk_at "rd";refine⟨_,.inl (aL.of hn2.1),fun l nl=>Ga o2 f2.wf nl fun r3 H3 f3 o3=>?_⟩
 have hp3:=f3.keep hp2.1 hp2.2 (by unfold rl;simp)
 refine ag hp3.1 rfl (EM o3 f3.wf fun H4 f4 o4=>?_)
 have hp4:=f4.keep hp3.1 hp3.2 (by unfold rl;simp)
 have he4:=((h7.fr g1 n0).fr f2 n0).fr f3 n0 |>.fr f4 n0;refine ag hp4.1 rfl (Gb o4 f4.wf he4 fun H5 f5 o5=>?_)
 exact k r3 H5 q ((((f1.trans (f2.mono (ci (by decide)))).trans (f3.mono (ci (by decide)))).trans (f4.mono (ci (by decide)))).trans (f5.mono (ci (by decide)))) o5
theorem Iy{C x dx:Addr}{fs:List (Str×V)}{H:Hp}{Q:Addr→Hp→Prop}(h:∀ x dx H2,H x=none→ai H H2→H2 x=some (.ins C dx fs)→Q x H2)(h1:H x=none)(h2:H dx=none)(h3:dx≠x):Q x (upd (upd (upd H dx (.own x)) x (.ins C dx [])) x (.ins C dx fs)):=by
 refine h x dx _ h1 (fun b o e=>?_) af
 rw[ao (au e h1),ao (au e h1),ao (au e h2)];exact e
theorem MR{C:Addr}{fs:List (Str×V)}{H:Hp}{Q:Addr→Hp→Prop}{E:XK}(h:∀ x dx H2,H x=none→ai H H2→H2 x=some (.ins C dx fs)→Q x H2):∀ x dx,H x=none→H dx=none→dx≠x→Ms C fs [.ref x] (upd (upd H dx (.own x)) x (.ins C dx [])) (fun v H2=>v=.non∧Q x H2) E :=
 fun x dx h1 h2 h3=>⟨x,dx,rfl,af,rfl,Iy h h1 h2 h3⟩
theorem DQ{T:Tx K mg}{d:Bool}{r:Ro}{H:Hp}{Q:Addr→Hp→Prop}{E:XK}(wf:Wf r H)(k:∀ r' H' t,Fr (Rg (rl d 6) (rl d 16)) r H r' H'→H t=none→jh T d r' H' t Qw.noShape (zR Qw.noShape)→Q t H') :
  ∀ x dx,H x=none→H dx=none→dx≠x→tZ T d [.ref x] (upd (upd H dx (.own x)) x (.ins (T.dY d) dx [])) (fun v H2=>v=.non∧Q x H2) E:=by
 intro x dx hx hdx ne;have s1:ai H (upd (upd H dx (.own x)) x (.ins (T.dY d) dx [])):=fun b o e=>by rw[ao (au e hx),ao (au e hdx)];exact e
 have w1:Wf (giv r x (rl d 6)) (upd (upd H dx (.own x)) x (.ins (T.dY d) dx [])):=Wf.giv (wf.same s1) (by rw[af];exact fun z=>nomatch z)
 refine⟨x,dx,giv r x (rl d 6),rfl,af,cY,w1,fun r' H' f o=>⟨rfl,k r' H' x (((kv.refl.giv hx).fr s1 w1).trans f) hx o⟩⟩
def Mw(T:Tx K mg):Sp:=fun vs H Q _=>∃ p t r pr,∃ (m:Qw.Mach) (rows:Nat) (en:Option (List Nat)),vs=[.ref p,.ref t,.int (rows:Int)]∧dc T false r H p pr m.step m.paid m.r en∧hZ T false r H t m∧Wf r H∧QM.WF m∧Hn pr∧m.prog=some pr∧(en=none→m.how=1)∧(∀ l,en=some l→l.length≤2) ∧
 ∀ r' H' a l,Fr (Rg (rl true 0) (rl true 32)) r H r' H'→H' a=some (.lst (iv (QM.nI l)))→r' a=0→(∀ l0,en=some l0→l=l0++[m.step,0,0,0]) →
  (en=none→∃ e m' ta',cP true m rows Qw.nothing=(e,m',ta')∧l=k8 e++[m'.step,ta'.rows,Qw.bitsOf ta'.read,Qw.bitsOf ta'.written])→Q (.ref a) H'
theorem FQ(e:Qw.End):(k8 e).length≤3:=by cases e<;>(unfold k8;simp)
theorem Ef{Q:VK}(rep:BO T true r H q g t pr m ta en)(ha:H a=some (.lst (iv (QM.nI l))))(hl:l.length≤3)
  (k:∀ H' b,ai H H'→H b=none→H' b=some (.lst (iv (QM.nI (l++[m.step,ta.rows,Qw.bitsOf ta.read,Qw.bitsOf ta.written]))))→Q (.ref b) H') :
  yE T.aS "at" (.ref q) H fun x H1=>yE T.aZ "moved" (.ref g) H1 fun x_1 H1=>yE T.aZ "pages_read" (.ref g) H1 fun x_2 H1=>yE T.aZ "pages_written" (.ref g) H1 fun x_3 H1=>4≤sizeLine∧∀ p,H1 p=none→HW (.ref a) (.ref p) (upd H1 p (.lst [x,x_1,x_2,x_3])) Q:=by
 obtain⟨dxg,hg,_⟩:=rep.go;refine HS rep.po (ag hg rfl (ag hg rfl (ag hg rfl ⟨by decide,fun p np=>?_⟩)))
 have s1:=ai.new (o:=.lst [.int (m.step:Int),.int (ta.rows:Int),.int (Qw.bitsOf ta.read:Int),.int (Qw.bitsOf ta.written:Int)]) np;refine jI (s1 _ _ ha) af (by rw[aM,ak];exact Nat.le_trans (Nat.add_le_add_right hl 4) (by decide)) fun b nb=>k _ b (s1.trans (ai.new nb)) (s1.free nb) ?_
 rw[af];simp[iv,QM.nI]
theorem CH(T:Tx K mg):bg P w K mg base 11 "dry_run" ["program","tiles","rows"] (Mw T):=by
 refine bg.of ["twin","footprint","dry_tiles","answer"] T.Fj fun sc H Q E hr h=>?_
 obtain⟨p,t,r,pr,m,rows,en,rfl,hp,ht,wf,wfm,pw,hpg,hhow,henl,k⟩:=h;obtain⟨dx,st,sh,nb,ev,h1,h2,_⟩:=id hp;refine⟨_,(ab (sS 3 sc.nd (aO (T.ap) (tI T) hr.m (pv 0))) (ab (sS 4 sc.nd (u7 (qT T) hr.m)) (ab (sS 5 sc.nd (u7 (tu T) hr.m)) (ab (bQ (dv (T.ba true) (d6 T true) hr.m (pv 5) (aa (aO (T.ba false) (sK T false) hr.m (pv 1)) ae))) (ab (sS 6 sc.nd (aA (mN T true) hr.m (aa (pv 3) (aa (pv 4) (aa (pv 5) (aa (pv 2) ae)))))) (bu (aq jL (pv 6) (aJ (aa (ah (T.ap) (T.cC) (pv 3)) (aa (ah (T.bM) (T.eL) (pv 4)) (aa (ah (T.bM) (T.cR) (pv 4)) (aa (ah (T.bM) (T.cr) (pv 4)) ae)))))))))))),?_⟩;walk_at "rd";refine aT h1 rfl ⟨p,r,pr,_,_,_,en,rfl,hp,wf,fun r1 H1 q f1 o1=>?_⟩
 refine MR fun g dxg H2 ng s2 eg=>?_
 have w2:Wf (giv r1 g (rl true 1)) H2:=Wf.giv (f1.wf.same s2) (bB eg);have f2:∀ S,Fr S r1 H1 (giv r1 g (rl true 1)) H2:=fun S=>(kv.refl.giv ng).fr s2 w2
 have go2:lQ T true (giv r1 g (rl true 1)) H2 g m.ground m.pages Qw.nothing:=⟨dxg,eg,cY,List.nodup_nil,List.nodup_nil⟩;refine DQ (T:=T) (d:=true) w2 fun r3 H3 x f3 nx o3=>?_
 obtain⟨dx3,ws3,hs3,rw3,ts3,e3,er3,_⟩:=id o3;have ht3:hZ T false r3 H3 t m:=((ht.fr f1 (by unfold rl;simp) (fun k h1 h2=>by unfold rl;simp;lia)).fr (f2 fun _=>False) (fun z=>z) (fun _ _ _ z=>z)).fr f3 (by unfold rl;simp) (fun k h1 h2=>by unfold rl;simp;lia)
 obtain⟨RR,ho,_⟩:=ht3;obtain⟨dxt,wst,hst,rwt,tst,et,_⟩:=id ho;refine aT e3 rfl (aT et rfl ⟨t,r3,m.shape,RR,rfl,ho,pq wfm,fun a H4 s4 na ea=>?_⟩)
 refine⟨x,a,dx3,_,_,_,_,m.shape,r3,rfl,s4 _ _ e3,er3,f3.wf.same s4,aL.of ea,pq wfm,fun r5 H5 f5 o5=>?_⟩
 have f4:∀ S,Fr S r3 H3 r3 H4:=fun S=>Fr.same f3.wf s4
 have rep:BO T true r5 H5 q g x pr m Qw.nothing en:=by
  refine⟨?_,⟨zR m.shape,o5,fun i hi=>⟨length_replicate,fun l hl=>?_⟩,fun z=>by cases z⟩,?_,f5.wf⟩
  ·exact (((o1.fr (f2 fun _=>False) (fun z=>z) (fun z=>z) (fun z=>z)).fr f3 (by unfold rl;simp) (by unfold rl;simp) (by unfold rl;simp)).fr (f4 fun _=>False) (fun z=>z) (fun z=>z) (fun z=>z)).fr f5 (by unfold rl;simp) (by unfold rl;simp) (by unfold rl;simp)
  ·unfold zR at hl;rw[eq_of_mem_replicate hl,length_replicate]
  ·exact ((go2.fr f3 (fun k h1 h2=>by unfold rl;simp;lia)).fr (f4 fun _=>False) (fun _ _ _ z=>z)).fr f5 (fun k h1 h2=>by unfold rl;simp;lia)
 have fA:Fr (Rg (rl true 0) (rl true 32)) r H r5 H5:=(((f1.trans (f2 _)).trans (f3.mono (ci (by decide)))).trans (f4 _)).trans (f5.mono (ci (by decide)))
 refine⟨q,g,x,r5,pr,m,Qw.nothing,rows,en,rfl,rep,pw,fun l a he ha hra=>?_,fun he=>⟨⟨wfm,hpg,hhow he⟩,fun r6 H6 a e m' ta' f6 ha hra hrun rep6 go6=>?_⟩⟩
 ·refine Ef rep ha (Nat.le_trans (henl l he) (by decide)) fun H' b s nb eb=>k r5 H' b _ (fA.trans (Fr.same f5.wf s)) eb (f5.wf b nb) (fun l0 h0=>?_) (fun hn=>by rw[hn] at he;cases he)
  rw[he] at h0;rw[Option.some.inj h0];rfl
 ·exact Ef rep6 ha (FQ e) fun H' b s nb eb=>k r6 H' b _ ((fA.trans f6).trans (Fr.same f6.wf s)) eb (f6.wf b nb) (fun l0 h0=>by rw[he] at h0;cases h0) fun _=>⟨e,m',ta',hrun,rfl⟩
theorem iP(T:Tx K mg):bg P w K mg base 1 "unit_length" ["kind"] (F1 (fun _=>True) fun i=>.int (if i=4 then 2 else 1)):=by
 refine bg.of [] T.xa fun sc H Q E hr h=>?_
 replace h:=jz h;obtain⟨i,rfl,_,k⟩:=h
 try dsimp only at k
 refine⟨_,(bu (dw (gq cI (pv 0) (am T.fi)) aj aj)),?_⟩;walk_at "rd";refine aN (fun e=>?_) fun e=>?_
 ·rw[if_pos e] at k;exact k
 ·rw[if_neg e] at k;exact k
theorem gS(T:Tx K mg):bg P w K mg base 2 "group_rows" ["kind"] (F1 (fun _=>True) fun i=>.int (if i=4 then 2 else 4)):=by
 refine bg.of [] T.zI fun sc H Q E hr h=>?_
 replace h:=jz h;obtain⟨i,rfl,_,k⟩:=h
 try dsimp only at k
 refine⟨_,(bu (aq gd (am T.i6) (aA (iP T) hr.m (aa (pv 0) ae)))),?_⟩;walk_at "rd"
 by_cases e:i=4
 ·rw[if_pos e] at k;simp only[if_pos e]
  exact⟨⟨by decide,by decide⟩,k⟩
 ·rw[if_neg e] at k;simp only[if_neg e]
  exact⟨⟨by decide,by decide⟩,k⟩
theorem Ac(kind:Nat):(if (kind:Int)=4 then (2:Int) else 1)=((Qw.unitOf kind:Nat):Int):=by
 unfold Qw.unitOf
 by_cases h:kind=4
 ·rw[if_pos (by lia),if_pos h];rfl
 ·rw[if_neg (by lia),if_neg h];rfl
theorem nS(kind:Nat):(if (kind:Int)=4 then (2:Int) else 4)=((Qw.groupOf kind:Nat):Int):=by
 unfold Qw.groupOf
 by_cases h:kind=4
 ·rw[if_pos (by lia),if_pos h];rfl
 ·rw[if_neg (by lia),if_neg h];rfl
def Mr(C:Addr)(f:V→V→V→List (Str×V)):Sp:=fun vs H Q _=>∃ x dx a b c,vs=[.ref x,a,b,c]∧H x=some (.ins C dx [])∧Q .non (upd H x (.ins C dx (f a b c)))
theorem MQ{C:Addr}{f:V→V→V→List (Str×V)}{a b c:V}{H:Hp}{Q:Addr→Hp→Prop}{E:XK}(h:∀ x dx H2,H x=none→ai H H2→H2 x=some (.ins C dx (f a b c))→Q x H2):∀ x dx,H x=none→H dx=none→dx≠x→Mr C f [.ref x,a,b,c] (upd (upd H dx (.own x)) x (.ins C dx [])) (fun v H2=>v=.non∧Q x H2) E :=
 fun x dx h1 h2 h3=>⟨x,dx,a,b,c,rfl,af,rfl,Iy h h1 h2 h3⟩
theorem yY(T:Tx K mg):qL P w K mg base 1 "Cloth" T.jf ["self","kind","rows","cols"] (Mr T.jf cF):=by
 refine qL.of [] T.Bi T.IF fun sc H Q E hr h=>?_
 obtain⟨x,dx,a,b,c,rfl,hx,k⟩:=h;refine⟨_,(ab (aV (T.bK) (T.ff) (pv 0) (pv 1)) (ab (aV (T.bK) (T.fe) (pv 0) (pv 2)) (aB (aV (T.bK) (T.fg) (pv 0) (pv 3))))),?_⟩;walk_at "rd";refine bv hx (by show 0<1000;decide) (bv af (by show 1<1000;decide) (bv af (by show 2<1000;decide) ?_))
 simp only[upd_upd];exact k
def k0(C:Addr)(H:Hp)(a:Addr)(kind rows cols:Nat):Prop:=∃ dx,H a=some (.ins C dx (cF (.int (kind:Int)) (.int (rows:Int)) (.int (cols:Int))))
def Ks(C:Addr)(cond:Nat→Nat→Nat→Prop)(g:Nat→Nat→Nat→V):Sp:=fun vs H Q _=>∃ a kind rows cols,vs=[.ref a]∧k0 C H a kind rows cols∧cond kind rows cols∧Q (g kind rows cols) H
theorem iT(T:Tx K mg):de P w K mg base 1 T.jf "has_sizes" ["self"] (Ks T.jf (fun _ _ _=>True) fun k r c=>.bl (Quilt.weaveOk k r c)):=by
 refine de.of [] T.qz fun sc H Q E hr h=>?_
 obtain⟨a,kind,rows,cols,rfl,⟨dx,ha⟩,_,k⟩:=h
 try dsimp only at k
 refine⟨_,(bu (kH (tU gz (ah (T.bK) (T.ff) (pv 0)) (am T.fi)) (kH (iN gz gz aj (ah (T.bK) (T.fe) (pv 0)) (am T.oe)) (jK (iN gz gz aj (ah (T.bK) (T.fg) (pv 0)) (am T.kR)))))),?_⟩;walk_at "rd";have ek:Quilt.weaveOk kind rows cols=decide (kind≤4∧1≤rows∧rows≤64∧1≤cols∧cols≤64):=by
  unfold Quilt.weaveOk Qw.MOST;simp only[Bool.decide_and]
 rw[ek] at k;refine ag ha rfl ?_
 walk_at "rd";refine aN (fun e=>?_) fun e=>?_
 ·refine ag ha rfl ?_
  walk_at "rd";refine aN (fun e2=>?_) fun e2=>?_
  ·refine aN (fun e3=>?_) fun e3=>?_
   ·refine ag ha rfl ?_
    walk_at "rd";refine aN (fun e4=>?_) fun e4=>?_
    ·rw[show decide ((cols:Int)≤64)=decide (kind≤4∧1≤rows∧rows≤64∧1≤cols∧cols≤64) from decide_eq_decide.2 (by lia)];exact k
    ·rw[decide_eq_false (by lia)] at k;exact k
   ·rw[decide_eq_false (by lia)] at k;exact k
  ·rw[decide_eq_false (by lia)] at k;exact k
 ·rw[decide_eq_false (by lia)] at k;exact k
theorem fW(T:Tx K mg):de P w K mg base 2 T.jf "unwoven_length" ["self"] (Ks T.jf (fun _ r c=>r≤64∧c≤64) fun k r c=>.int ((r*c*Qw.unitOf k:Nat):Int)):=by
 refine de.of [] T.kS fun sc H Q E hr h=>?_
 obtain⟨a,kind,rows,cols,rfl,⟨dx,ha⟩,⟨h1,h2⟩,k⟩:=h
 try dsimp only at k
 refine⟨_,(bu (aq bq (aq bq (ah (T.bK) (T.fe) (pv 0)) (ah (T.bK) (T.fg) (pv 0))) (aA (iP T) hr.m (aa (ah (T.bK) (T.ff) (pv 0)) ae)))),?_⟩;walk_at "rd";refine ag ha rfl (ag ha rfl ?_);walk_at "rd";have hb:rows*cols≤64*64:=Nat.mul_le_mul h1 h2;refine⟨⟨by lia,by lia⟩,ag ha rfl ?_⟩
 walk_at "rd";have hu:Qw.unitOf kind≤2:=by unfold Qw.unitOf;split<;>decide
 rw[Ac,←Int.natCast_mul];refine⟨⟨by lia,by lia⟩,?_⟩
 rw[←Int.natCast_mul];exact k
theorem lF(T:Tx K mg):de P w K mg base 3 T.jf "woven_length" ["self"] (Ks T.jf (fun _ r c=>r≤64∧c≤64) fun k r c=>.int ((Qw.wovenRows k r*c*4:Nat):Int)):=by
 refine de.of ["groups"] T.nh fun sc H Q E hr h=>?_
 obtain⟨a,kind,rows,cols,rfl,⟨dx,ha⟩,⟨h1,h2⟩,k⟩:=h
 try dsimp only at k
 refine⟨_,(ab (sS 1 sc.nd (Az uq (aq gd (Az uq (ah (T.bK) (T.fe) (pv 0))) (aA (gS T) hr.m (aa (ah (T.bK) (T.ff) (pv 0)) ae))))) (bu (aq bq (aq bq (pv 1) (ah (T.bK) (T.fg) (pv 0))) (am T.i6)))),?_⟩;walk_at "rd";refine ag ha rfl ?_
 walk_at "rd";refine ag ha rfl ?_
 walk_at "rd";have hg:2≤Qw.groupOf kind∧Qw.groupOf kind≤4:=by unfold Qw.groupOf;split<;>decide
 rw[nS];have eg:-(-(rows:Int) / ((Qw.groupOf kind:Nat):Int))=((Qw.wovenRows kind rows:Nat):Int):=by
  unfold Qw.wovenRows;unfold Qw.groupOf at *
  split<;>lia
 refine⟨⟨by lia,by lia⟩,ag ha rfl ?_⟩
 rw[eg];have hw:Qw.wovenRows kind rows≤64:=by
  unfold Qw.wovenRows;unfold Qw.groupOf at *
  split<;>lia
 walk_at "rd";have hb:Qw.wovenRows kind rows*cols≤64*64:=Nat.mul_le_mul hw h2;rw[←Int.natCast_mul];refine⟨⟨by lia,by lia⟩,⟨by lia,by decide⟩,?_⟩
 rw[Int.natCast_mul] at k;exact k
theorem IR{lo c:Int}{n k:Nat}{tb:TS}{D:om}(Pv:Nat→L2.St→Hp→Prop)(h0:Pv 0 σ H1)
  (turn:∀ i σ H,i<n→Pv i σ H→tb { D with nx:=Pv (i+1),ct:=Pv (i+1),bk:=D.nx } (σ.set k (some (.int (lo+(i:Nat)*c)))) H) (dO:∀ σ H,Pv n σ H→D.nx σ H):Dp (Nz lo c n) (db k) tb D σ H1:=by
 refine⟨fun i m σ H=>m+i=n∧Pv i σ H,⟨n,by lia,h0⟩,?_⟩
 rintro i m σ H ⟨em,hp⟩
 by_cases hi:i=n
 ·subst hi;exact .inl ⟨Nat.le_refl _,dO σ H hp⟩
 ·refine .inr ⟨(by lia:i<n),Pv (i+1),fun σ' H' h=>⟨m - 1,by lia,by lia,h⟩,fun x H' hy=>?_⟩
  obtain⟨rfl,rfl⟩:=hy;exact turn i σ _ (by lia) hp
def Ic(kind rows cols i j q:Nat):Option Nat:=if Qw.groupOf kind*i+q / Qw.unitOf kind<rows then some (((Qw.groupOf kind*i+q / Qw.unitOf kind)*cols+j)*Qw.unitOf kind+q % Qw.unitOf kind) else none
def Ib(kind rows cols i j:Nat):List (Option Nat):=(List.range 4).map (Ic kind rows cols i j)
def JI(kind rows cols i:Nat):List (Option Nat):=(List.range cols).flatMap (Ib kind rows cols i)
theorem gP{α:Type}(f:Nat→List α)(n:Nat):(List.range (n+1)).flatMap f=(List.range n).flatMap f++f n:=by rw[range_succ,flatMap_append];simp
theorem Ia(kind rows cols i j:Nat):(Ib kind rows cols i j).length=4:=by unfold Ib;simp
theorem rB(kind rows cols i:Nat):∀ n,((List.range n).flatMap (Ib kind rows cols i)).length=4*n
 | 0=>rfl
 | n+1=>by rw[gP,length_append,rB kind rows cols i n,Ia];lia
theorem yp(kind rows cols:Nat):∀ n,((List.range n).flatMap (JI kind rows cols)).length=(4*cols)*n
 | 0=>rfl
 | n+1=>by rw[gP,length_append,yp kind rows cols n];unfold JI;rw[rB,Nat.mul_succ]
structure sZ(kind rows cols:Nat):Prop where
 k:kind≤4
 r1:1≤rows
 r2:rows≤64
 c1:1≤cols
 c2:cols≤64
theorem sZ.of(h:Quilt.weaveOk kind rows cols=true):sZ kind rows cols:=by
 unfold Quilt.weaveOk Qw.MOST at h;simp only[Bool.and_eq_true,decide_eq_true_eq] at h
 exact⟨h.1,h.2.1,h.2.2.1,h.2.2.2.1,h.2.2.2.2⟩
theorem sZ.wr(h:sZ kind rows cols):Qw.wovenRows kind rows≤64:=by
 have:=h.r2
 unfold Qw.wovenRows Qw.groupOf
 split<;>lia
def Mg(T:Tx K mg):Sp:=fun vs H Q _=>∃ a kind rows cols,vs=[.ref a]∧k0 T.jf H a kind rows cols∧sZ kind rows cols∧∀ p H',ai H H'→H p=none→H' p=some (.lst ((bd kind rows cols).map AA))→Q (.ref p) H'
theorem F6(kind rows:Nat)(h:rows≤64):Np 0 (rows:Int) ((Qw.groupOf kind:Nat):Int) (Qw.wovenRows kind rows):=by
 have hs:Builtin.Range.rangeSize 0 (rows:Int) ((Qw.groupOf kind:Nat):Int)=Qw.wovenRows kind rows:=by
  unfold Builtin.Range.rangeSize;have hg:(0:Int)<((Qw.groupOf kind:Nat):Int):=by unfold Qw.groupOf;split<;>decide
  rw[if_pos hg];unfold Qw.wovenRows;unfold Qw.groupOf
  split<;>(split<;>lia)
 have hg:Qw.groupOf kind≤4∧2≤Qw.groupOf kind:=by unfold Qw.groupOf;split<;>decide
 have hw:Qw.wovenRows kind rows≤64:=by
  unfold Qw.wovenRows Qw.groupOf
  split<;>lia
 have fl:∀ x:Int,-9223372036854775808≤x→x<9223372036854775808→Builtin.Range.rangeFitsLong x=true:=by
  intro x h1 h2;unfold Builtin.Range.rangeFitsLong;rw[decide_eq_true (show -(2 ^ 63)≤x from h1),decide_eq_true (show x<2 ^ 63 from h2)];rfl
 refine⟨by lia,by lia,?_,hs⟩
 unfold Builtin.Range.small;rw[hs,fl 0 (by decide) (by decide),fl (rows:Int) (by lia) (by lia),fl ((Qw.groupOf kind:Nat):Int) (by lia) (by lia),fl ((Qw.wovenRows kind rows:Nat):Int) (by lia) (by lia),if_pos (by lia),fl ((rows:Int)+(((Qw.groupOf kind:Nat):Int) - 1)) (by lia) (by lia)]
 simp
theorem fz.nat{a b:Nat}(h1:a<2 ^ 256)(h2:b<2 ^ 256):fz (a:Int) (b:Int):=⟨by rw[Int.natAbs_natCast];exact h1,by rw[Int.natAbs_natCast];exact h2⟩
theorem jr(T:Tx K mg):bg P w K mg base 3 "unwoven_places" ["cloth"] (Mg T):=by
 refine bg.of ["unit","places","first","j","q","row","place"] T.rD fun sc H Q E hr h=>?_
 obtain⟨a,kind,rows,cols,rfl,⟨dx,ha⟩,hsz,k⟩:=h;have hw:=hsz.wr;refine⟨_,(ab (sS 1 sc.nd (aA (iP T) hr.m (aa (ah (T.bK) (T.ff) (pv 0)) ae))) (ab (sS 2 sc.nd (aJ ae)) (ab (dS PassesOwn.never rfl (fT rfl T.dW (aa aj (aa (ah (T.bK) (T.fe) (pv 0)) (aa (aA (gS T) hr.m (aa (ah (T.bK) (T.ff) (pv 0)) ae)) ae)))) (gN 3 sc.nd) (aB (dS PassesOwn.never rfl (gL rfl T.dW (aa (ah (T.bK) (T.fg) (pv 0)) ae)) (gN 4 sc.nd) (aB (dS PassesOwn.never rfl (gL rfl T.dW (aa (am T.i6) ae)) (gN 5 sc.nd) (ab (sS 6 sc.nd (aq bn (pv 3) (aq gd (pv 5) (pv 1)))) (ab (sS 7 sc.nd (aq bn (aq bq (aq bn (aq bq (pv 6) (ah (T.bK) (T.fg) (pv 0))) (pv 4)) (pv 1)) (aq eR (pv 5) (pv 1)))) (aB (bQ (JW (pv 2) (aa (dw (gq kb (pv 6) (ah (T.bK) (T.fe) (pv 0))) (pv 7) cH) ae))))))))))) (bu (pv 2))))),?_⟩;walk_at "rd";refine ag ha rfl ?_
 walk_at "rd";rw[Ac];refine⟨by decide,fun D hD=>?_⟩
 have sD:=ai.new (o:=.lst []) hD;have eD:(upd H D (.lst [])) D=some (.lst []):=af;generalize upd H D (.lst [])=H1 at *;have hg:2≤Qw.groupOf kind∧Qw.groupOf kind≤4:=by unfold Qw.groupOf;split<;>decide
 have hu:1≤Qw.unitOf kind∧Qw.unitOf kind≤2:=by unfold Qw.unitOf;split<;>decide
 have hr2:=hsz.r2;have hc2:=hsz.c2;refine ag (sD _ _ ha) rfl (ag (sD _ _ ha) rfl ?_);walk_at "rd";rw[nS];refine⟨_,F6 kind rows hsz.r2,?_⟩;refine IR (fun i σ H'=>∃ v3 v4 v5 v6 v7,σ=[some (.ref a),some (.int ((Qw.unitOf kind:Nat):Int)),some (.ref D),v3,v4,v5,v6,v7]∧H' D=some (.lst (((List.range i).flatMap (JI kind rows cols)).map AA))∧ai H H') ⟨_,_,_,_,_,rfl,eD,sD⟩ ?_ ?_
 ·rintro i σ H2 hi ⟨v3,v4,v5,v6,v7,rfl,e2,s2⟩
  walk_at "rd";refine ag (s2 _ _ ha) rfl ?_
  walk_at "rd";refine⟨by lia,by lia,?_⟩
  rw[Int.toNat_natCast];refine IQ (fun j σ H'=>∃ v4 v5 v6 v7,σ=[some (.ref a),some (.int ((Qw.unitOf kind:Nat):Int)),some (.ref D),some (.int (0+(i:Int)*((Qw.groupOf kind:Nat):Int))),v4,v5,v6,v7]∧H' D=some (.lst (((List.range i).flatMap (JI kind rows cols)++(List.range j).flatMap (Ib kind rows cols i)).map AA))∧ai H H') ⟨_,_,_,_,rfl,by rw[e2];simp,s2⟩ ?_ ?_
  ·rintro j σ H3 hj ⟨v4,v5,v6,v7,rfl,e3,s3⟩
   walk_at "rd";refine⟨by decide,by decide,?_⟩
   refine IQ (fun q σ H'=>∃ v5 v6 v7,σ=[some (.ref a),some (.int ((Qw.unitOf kind:Nat):Int)),some (.ref D),some (.int (0+(i:Int)*((Qw.groupOf kind:Nat):Int))),some (.int (0+(j:Int))),v5,v6,v7]∧H' D=some (.lst (((List.range i).flatMap (JI kind rows cols)++(List.range j).flatMap (Ib kind rows cols i)++(List.range q).map (Ic kind rows cols i j)).map AA))∧ai H H') ⟨_,_,_,rfl,by rw[e3];simp,s3⟩ ?_ ?_
   ·rintro q σ H4 hq ⟨v5,v6,v7,rfl,e4,s4⟩
    have hq:q<4:=hq;walk_at "rd";have eq0:(0:Int)+(q:Int)=(q:Int):=Int.zero_add _;have erow:(0:Int)+(i:Int)*((Qw.groupOf kind:Nat):Int)+(0+(q:Int)) / ((Qw.unitOf kind:Nat):Int)=((Qw.groupOf kind*i+q / Qw.unitOf kind:Nat):Int):=by
     rw[Int.natCast_add,Int.natCast_mul,Int.natCast_ediv,eq0,Int.zero_add,Int.mul_comm]
    rw[erow];have hrow:Qw.groupOf kind*i+q / Qw.unitOf kind≤1000:=by
     have h1:Qw.groupOf kind*i≤4*64:=Nat.mul_le_mul hg.2 (by lia)
     have h2:q / Qw.unitOf kind≤q:=Nat.div_le_self _ _;lia
    have epl:(((Qw.groupOf kind*i+q / Qw.unitOf kind:Nat):Int)*(cols:Int)+(0+(j:Int)))*((Qw.unitOf kind:Nat):Int)+(0+(q:Int)) % ((Qw.unitOf kind:Nat):Int)=((((Qw.groupOf kind*i+q / Qw.unitOf kind)*cols+j)*Qw.unitOf kind+q % Qw.unitOf kind:Nat):Int):=by
     rw[eq0,Int.zero_add,←Int.natCast_mul,←Int.natCast_add,←Int.natCast_mul,←Int.natCast_emod,←Int.natCast_add]
    have hb:(Qw.groupOf kind*i+q / Qw.unitOf kind)*cols≤1000*64:=Nat.mul_le_mul hrow hc2;refine⟨⟨by lia,by lia⟩,ag (s4 _ _ ha) rfl ?_⟩
    walk_at "rd";refine⟨fz.nat (by lia) (by lia),⟨by rw[←Int.natCast_mul];lia,by lia⟩,by lia,eU e4,ag (s4 _ _ ha) rfl ?_⟩
    rw[epl];walk_at "rd";have hlen:((((List.range i).flatMap (JI kind rows cols)++(List.range j).flatMap (Ib kind rows cols i)++(List.range q).map (Ic kind rows cols i j)).map AA)).length<sizeLine:=by
     rw[length_map,length_append,length_append,yp,rB,length_map,length_range]
     have:4*cols*i≤256*64:=Nat.mul_le_mul (by lia) (by lia)
     exact sz (by lia)
    have esucc:∀ o,o=Ic kind rows cols i j q→((List.range i).flatMap (JI kind rows cols)++(List.range j).flatMap (Ib kind rows cols i)++(List.range q).map (Ic kind rows cols i j)).map AA++[AA o]=((List.range i).flatMap (JI kind rows cols)++(List.range j).flatMap (Ib kind rows cols i)++(List.range (q+1)).map (Ic kind rows cols i j)).map AA:=fun o eo=>by
     rw[eo,range_succ,map_append (f:=Ic kind rows cols i j)]
     simp
    refine aN (fun e=>?_) fun e=>?_
    ·refine mC e4 hlen ⟨?_,fun c o e=>?_⟩
     ·rw[af];refine congrArg (fun z=>some (HO.lst z)) (esucc (some _) ?_)
      unfold Ic;rw[if_pos (by lia)]
     ·rw[ao (au e hD)];exact s4 _ _ e
    ·refine mC e4 hlen ⟨?_,fun c o e=>?_⟩
     ·rw[af];refine congrArg (fun z=>some (HO.lst z)) (esucc none ?_)
      unfold Ic;rw[if_neg (by lia)]
     ·rw[ao (au e hD)];exact s4 _ _ e
   ·rintro σ H4 ⟨v5,v6,v7,rfl,e4,s4⟩
    refine⟨_,_,_,_,rfl,?_,s4⟩;rw[e4,gP,←append_assoc];rfl
  ·rintro σ H3 ⟨v4,v5,v6,v7,rfl,e3,s3⟩
   refine⟨_,_,_,_,_,rfl,?_,s3⟩;rw[e3,gP];rfl
 ·rintro σ H2 ⟨v3,v4,v5,v6,v7,rfl,e2,s2⟩
  walk_at "rd";exact k D H2 s2 hD e2
def L7(T:Tx K mg)(C:Nat→Nat→Nat→List Nat→Prop)(g:Nat→Nat→Nat→List Nat→List Int):Sp:=fun vs H Q _=>∃ a b,∃ (kind rows cols:Nat) (l:List Nat),vs=[.ref a,.ref b]∧k0 T.jf H a kind rows cols∧aL K H b (iv (QM.nI l))∧sZ kind rows cols∧C kind rows cols l∧jU H (g kind rows cols l) Q
def LO(l:List Nat)(o:Option Nat):Int:=match o with
 | none=>0
 | some p=>((l.getD p 0:Nat):Int)
theorem Gw(T:Tx K mg):bg P w K mg base 4 "weave" ["cloth","data"] (L7 T (fun kind rows cols l=>l.length=rows*cols*Qw.unitOf kind) fun kind rows cols l=>(bd kind rows cols).map (LO l)):=by
 refine bg.of ["place"] T.IU fun sc H Q E hr h=>?_
 obtain⟨a,b,kind,rows,cols,l,rfl,hcl,hb,hsz,hl,k⟩:=h;dsimp only at hl k;refine⟨_,(bu (dM (own:=[("place",2)]) rfl sc.nd (bT (K:=K) (aA (jr T) hr.m (aa (pv 0) ae))) (aY (N:=["cloth","data","place"]) (sc:=aC yL) (by decide +kernel)) (fun _ _ _ _ _=>(gN 2 sc.nd)) (fun _ _ _ _ _=>(bE)) (fun _ _ _ _ _=>(dw (du iO (pv 2) cH (fo _)) aj (xL K (pv 1) (pv 2)))))),?_⟩
 walk_at "rd";refine⟨a,kind,rows,cols,rfl,hcl,hsz,fun p H1 s1 np e1=>?_⟩
 have hlen:(bd kind rows cols).length≤100000:=by
  rw[kF];have h1:cols*4≤64*4:=Nat.mul_le_mul hsz.c2 (by decide)
  have:Qw.wovenRows kind rows*(cols*4)≤64*(64*4):=Nat.mul_le_mul hsz.wr h1
  lia
 refine⟨p,rfl,⟨_,aL.of e1⟩,fun D hD=>iZ (fun i=>.int (LO l ((bd kind rows cols).getD i none))) hD (aL.of e1) (by rw[length_map];exact sz (by lia)) (fun i x H2 Kt hi s2 hk=>?_) fun H2 h2 s2=>k D H2 (s1.trans s2) (s1.free hD) ?_⟩
 ·rw[getElem?_map] at hi
  cases ho:(bd kind rows cols)[i]? with
  | none=>rw[ho] at hi;cases hi
  | some o =>
   rw[ho] at hi;obtain rfl:=(Option.some.inj hi).symm;have eo:(bd kind rows cols).getD i none=o:=by rw[getD_eq_getElem?_getD,ho];rfl
   rw[eo] at hk;walk_at "rd"
   cases o with
   | none =>
    refine aN (fun _=>hk _ ai.refl) fun e=>absurd rfl e
   | some q =>
    refine aN (fun e=>nomatch e) fun e=>?_
    have hq:=sA kind rows cols q (mem_of_getElem? ho);refine bj (j:=q) ((s1.trans s2).seq hb) rfl (by rw[ak,hl];exact hq) ?_
    rw[aQ];exact hk _ ai.refl
 ·rw[h2,length_map]
  have:(List.range (bd kind rows cols).length).map (fun i=>V.int (LO l ((bd kind rows cols).getD i none)))=iv ((bd kind rows cols).map (LO l)):=by
   apply ext_getElem (by simp)
   intro i h1 h2;have hi:i<(bd kind rows cols).length:=by simpa using h1
   simp only[getElem_map,getElem_range];rw[getD_eq_getElem?_getD,getElem?_eq_getElem hi];rfl
  rw[this]
def uz(l:List Int)(x:Option Nat×Int):List Int:=match x.1 with
 | none=>l
 | some k=>l.set k x.2
theorem pk(kind rows cols:Nat)(l:List Int):j5 kind rows cols l=((bd kind rows cols).zip l).foldl uz (List.replicate (rows*cols*Qw.unitOf kind) 0):=rfl
theorem xK(z:List (Option Nat×Int)):∀ l,(z.foldl uz l).length=l.length:=by
 induction z with
 | nil=>intro l;rfl
 | cons x z ih =>
  intro l;rw[foldl_cons,ih];unfold uz
  split
  ·rfl
  ·rw[length_set]
theorem CB(T:Tx K mg):bg P w K mg base 4 "unweave" ["cloth","data"] (L7 T (fun kind rows cols l=>l.length=(bd kind rows cols).length) fun kind rows cols l=>j5 kind rows cols (QM.nI l)):=by
 refine bg.of ["unwoven","place","value"] T.Fd fun sc H Q E hr h=>?_
 obtain⟨a,b,kind,rows,cols,l,rfl,hcl,hb,hsz,hl,k⟩:=h;obtain⟨dxa,ha⟩:=id hcl;dsimp only at hl k;refine⟨_,(ab (sS 2 sc.nd (aq mL (aJ (aa aj ae)) (aO (T.bK) (fW T) hr.m (pv 0)))) (ab (dS PassesOwn.never rfl (iu (K:=K) T.qG (aa (aA (jr T) hr.m (aa (pv 0) ae)) (aa (pv 1) ae))) (gc (K:=K) (n:=2) (bO (gN 3 sc.nd) (bO (gN 4 sc.nd) f9))) (aB (aU (du yU (pv 3) cH (fo _)) (aB (fK (pv 4) (fL (pv 2) (pv 3) cW))) aF))) (bu (pv 2)))),?_⟩;walk_at "rd";have hn:rows*cols*Qw.unitOf kind≤64*64*2:=Nat.mul_le_mul (Nat.mul_le_mul hsz.r2 hsz.c2) (by unfold Qw.unitOf;split<;>decide)
 refine⟨by decide,fun p0 np0=>?_⟩
 have s0:=ai.new (o:=.lst [V.int 0]) np0;refine aT (s0 _ _ ha) rfl ⟨a,kind,rows,cols,rfl,⟨dxa,s0 _ _ ha⟩,⟨hsz.r2,hsz.c2⟩,?_⟩;refine mB (n:=rows*cols*Qw.unitOf kind) af rfl (by lia) fun D hD=>?_
 have sD:=s0.trans (ai.new (o:=.lst (List.replicate (rows*cols*Qw.unitOf kind) (V.int 0))) hD);have eD:(upd (upd H p0 (.lst [V.int 0])) D (.lst (List.replicate (rows*cols*Qw.unitOf kind) (V.int 0)))) D=some (.lst (List.replicate (rows*cols*Qw.unitOf kind) (V.int 0))):=af;have hDH:=s0.free hD;generalize upd (upd H p0 (.lst [V.int 0])) D (.lst (List.replicate (rows*cols*Qw.unitOf kind) (V.int 0)))=H1 at *;refine⟨a,kind,rows,cols,rfl,⟨dxa,sD _ _ ha⟩,hsz,fun p H2 s2 np e2=>?_⟩
 have s12:=sD.trans s2;refine⟨p,rfl,_,aL.of e2,_,s12.seq hb,?_⟩;have npD:p≠D:=fun z=>by rw[z,eD] at np;cases np
 have hmin:l.length=min ((bd kind rows cols).map AA).length (iv (QM.nI l)).length:=by
  rw[length_map,aM,ak];lia
 refine IP (n:=l.length) (xs:=(bd kind rows cols).map AA) (ys:=iv (QM.nI l)) (fun i σ H'=>∃ v3 v4:Option V,σ=[some (.ref a),some (.ref b),some (.ref D),v3,v4]∧H' D=some (.lst (iv ((((bd kind rows cols).zip (QM.nI l)).take i).foldl uz (List.replicate (rows*cols*Qw.unitOf kind) 0))))∧ai H H'∧H' p=some (.lst ((bd kind rows cols).map AA))) hmin ⟨_,_,rfl,by rw[s2 _ _ eD,kN];rfl,s12,e2⟩ (fun i σ H' ⟨_,_,_,_,s,e⟩=>⟨aL.of e,s.seq hb⟩) ?_ ?_
 ·rintro i x y σ H3 H4 hx hy ⟨v3,v4,rfl,e3,s3,ep3⟩ s4
  rw[getElem?_map] at hx
  cases ho:(bd kind rows cols)[i]? with
  | none=>rw[ho] at hx;cases hx
  | some o =>
   rw[ho] at hx;obtain rfl:=(Option.some.inj hx).symm;obtain⟨n,hn1,rfl⟩:=fq hy;have hz:((bd kind rows cols).zip (QM.nI l))[i]?=some (o,n):=getElem?_zip_eq_some.2 ⟨ho,hn1⟩;have etk:(((bd kind rows cols).zip (QM.nI l)).take (i+1)).foldl uz (List.replicate (rows*cols*Qw.unitOf kind) 0)=uz ((((bd kind rows cols).zip (QM.nI l)).take i).foldl uz (List.replicate (rows*cols*Qw.unitOf kind) 0)) (o,n):=by
    rw[take_add_one,hz,foldl_append];rfl
   walk_at "rd"
   cases o with
   | none =>
    refine aN (fun e=>absurd rfl e) fun _=>⟨?_,s3.trans s4,s4 _ _ ep3⟩
    rw[s4 _ _ e3,etk];rfl
   | some q =>
    have hq:=sA kind rows cols q (mem_of_getElem? ho);refine aN (fun _=>?_) fun e=>absurd (fun z=>nomatch z) e
    refine jH (j:=q) (s4 _ _ e3) rfl (by rw[aM,xK,length_replicate];exact hq) ⟨?_,fun c o e=>?_,?_⟩
    ·rw[af,etk];unfold iv;rw[←map_set];rfl
    ·rw[ao (au e hDH)];exact s4 _ _ (s3 _ _ e)
    ·rw[ao npD];exact s4 _ _ ep3
 ·rintro σ H3 ⟨v3,v4,rfl,e3,s3,ep3⟩
  walk_at "rd";refine k D H3 s3 hDH ?_
  rw[e3,pk,take_of_length_le (by rw[length_zip,ak];lia)]
def Mq(C:Addr)(f:V→V→V→V→List (Str×V)):Sp:=fun vs H Q _=>∃ x dx a b c d,vs=[.ref x,a,b,c,d]∧H x=some (.ins C dx [])∧Q .non (upd H x (.ins C dx (f a b c d)))
theorem Gc{C:Addr}{f:V→V→V→V→List (Str×V)}{a b c d:V}{H:Hp}{Q:Addr→Hp→Prop}{E:XK}(h:∀ x dx H2,H x=none→ai H H2→H2 x=some (.ins C dx (f a b c d))→Q x H2):∀ x dx,H x=none→H dx=none→dx≠x→Mq C f [.ref x,a,b,c,d] (upd (upd H dx (.own x)) x (.ins C dx [])) (fun v H2=>v=.non∧Q x H2) E :=
 fun x dx h1 h2 h3=>⟨x,dx,a,b,c,d,rfl,af,rfl,Iy h h1 h2 h3⟩
theorem jM(T:Tx K mg):qL P w K mg base 1 "Matrix" T.eO ["self","place","stride","height","width"] (Mq T.eO xF):=by
 refine qL.of [] T.zB T.GK fun sc H Q E hr h=>?_
 obtain⟨x,dx,a,b,c,d,rfl,hx,k⟩:=h;refine⟨_,(ab (aV (T.bb) (T.gm) (pv 0) (pv 1)) (ab (aV (T.bb) (T.dn) (pv 0) (pv 2)) (ab (aV (T.bb) (T.lu) (pv 0) (pv 3)) (aB (aV (T.bb) (T.gl) (pv 0) (pv 4)))))),?_⟩;walk_at "rd";refine bv hx (by show 0<1000;decide) (bv af (by show 1<1000;decide) (bv af (by show 2<1000;decide) (bv af (by show 3<1000;decide) ?_)))
 simp only[upd_upd];exact k
def kZ(C:Addr)(H:Hp)(x:Addr)(p s h w:Nat):Prop:=(∃ dx,H x=some (.ins C dx (xF (.int (p:Int)) (.int (s:Int)) (.int (h:Int)) (.int (w:Int)))))∧s<2 ^ 64
theorem kZ.same{C:Addr}{H H':Hp}{x:Addr}{p s h w:Nat}(m:kZ C H x p s h w)(e:ai H H'):kZ C H' x p s h w:=let ⟨⟨dx,h1⟩,h2⟩:=m;⟨⟨dx,e _ _ h1⟩,h2⟩
def Mf(C:Addr):Sp:=fun vs H Q _=>∃ x,∃ p s h w i:Nat,vs=[.ref x,.int (i:Int)]∧kZ C H x p s h w∧i<2 ^ 64∧Q (.int ((p+i*s:Nat):Int)) H
theorem cj(T:Tx K mg):de P w K mg base 1 T.eO "place_of_row" ["self","i"] (Mf T.eO):=by
 refine de.of [] T.lJ fun sc H Q E hr h=>?_
 obtain⟨x,p,s0,h,w',i,rfl,⟨⟨dx,hx⟩,hs⟩,hi,k⟩:=h;refine⟨_,(bu (aq bn (ah (T.bb) (T.gm) (pv 0)) (aq bq (pv 1) (ah (T.bb) (T.dn) (pv 0))))),?_⟩;walk_at "rd";refine ag hx rfl (ag hx rfl ?_);walk_at "rd";refine⟨fz.nat (by lia) (by lia),?_⟩
 rw[←Int.natCast_mul,←Int.natCast_add];exact k
def Mh(C:Addr):Sp:=fun vs H Q _=>∃ x,∃ p s h w:Nat,vs=[.ref x]∧kZ C H x p s h w∧1≤h∧h≤1000∧Q (.int ((fh p s h w:Nat):Int)) H
theorem dU(T:Tx K mg):de P w K mg base 2 T.eO "place_behind" ["self"] (Mh T.eO):=by
 refine de.of [] T.lK fun sc H Q E hr h=>?_
 obtain⟨x,p,s0,h,w',rfl,hm,h1,h2,k⟩:=h;obtain⟨⟨dx,hx⟩,hs⟩:=id hm;refine⟨_,(bu (aq bn (dv (T.bb) (cj T) hr.m (pv 0) (aa (aq ig (ah (T.bb) (T.lu) (pv 0)) aj) ae)) (ah (T.bb) (T.gl) (pv 0)))),?_⟩;walk_at "rd";refine aT hx rfl (ag hx rfl ?_);walk_at "rd";refine⟨x,p,s0,h,w',h - 1,by rw[show ((h - 1:Nat):Int)=(h:Int) - 1 by lia],hm,by lia,ag hx rfl ?_⟩
 walk_at "rd";rw[←Int.natCast_add];exact k
def L9(C:Addr):Sp:=fun vs H Q _=>∃ x y,∃ p s h w p' s' h' w':Nat,vs=[.ref x,.ref y]∧kZ C H x p s h w∧kZ C H y p' s' h' w'∧(1≤h∧h≤1000)∧(1≤h'∧h'≤1000)∧Q (.bl (decide (p<fh p' s' h' w'∧p'<fh p s h w))) H
theorem gg(T:Tx K mg):de P w K mg base 3 T.eO "shares_bytes" ["self","other"] (L9 T.eO):=by
 refine de.of [] T.lI fun sc H Q E hr h=>?_
 obtain⟨x,y,p,s0,h,w',p',s',h',w'',rfl,hm,hm',⟨h1,h2⟩,⟨h3,h4⟩,k⟩:=h;obtain⟨⟨dx,hx⟩,hs⟩:=id hm;obtain⟨⟨dy,hy⟩,hs'⟩:=id hm';refine⟨_,(bu (kH (tU kb (ah (T.bb) (T.gm) (pv 0)) (aO (T.bb) (dU T) hr.m (pv 1))) (jK (tU kb (ah (T.bb) (T.gm) (pv 1)) (aO (T.bb) (dU T) hr.m (pv 0)))))),?_⟩;walk_at "rd";refine ag hx rfl (aT hy rfl ⟨y,p',s',h',w'',rfl,hm',h3,h4,?_⟩);walk_at "rd";refine aN (fun e=>?_) fun e=>?_
 ·refine ag hy rfl (aT hx rfl ⟨x,p,s0,h,w',rfl,hm,h1,h2,?_⟩);walk_at "rd";rw[show decide ((p':Int)<((fh p s0 h w':Nat):Int))=decide (p<fh p' s' h' w''∧p'<fh p s0 h w') from decide_eq_decide.2 (by lia)];exact k
 ·rw[decide_eq_false (by lia)] at k;exact k
def je(T:Tx K mg)(H:Hp)(x:Addr)(j:Qw.Job):Prop:=∃ dx a b c,H x=some (.ins T.Jl dx (jF (.int (j.kind:Int)) (.int (j.m:Int)) (.int (j.n:Int)) (.int (j.k:Int)) (.int (QM.jd j:Int)) (.ref a) (.ref b) (.ref c)))∧kZ T.eO H a j.a j.as_ j.m (4*QM.jd j)∧kZ T.eO H b j.b j.bs (QM.jd j) (4*j.n)∧kZ T.eO H c j.c j.cs j.m (4*j.n)
theorem je.same(h:je T H x j)(s:ai H H'):je T H' x j:=let ⟨dx,a,b,c,h1,h2,h3,h4⟩:=h;⟨dx,a,b,c,s _ _ h1,h2.same s,h3.same s,h4.same s⟩
def FX(T:Tx K mg):Sp:=fun vs H Q _=>∃ x dx l,∃ ns:List Nat,vs=[.ref x,.ref l]∧H x=some (.ins T.Jl dx [])∧aL K H l (iv (QM.nI ns))∧ns.length=10∧(∀ v∈ns,v<2 ^ 64)∧∀ H',ul x H H'→je T H' x (tL ns)→Q .non H'
theorem mX(hb:ul x H H1)(h1:H1 x=some (.ins C dx fs))(hl:fs.length<1000)(k:∀ H2,ul x H H2→ul x H1 H2→H2 x=some (.ins C dx (be f v fs))→Q H2):Ho C f (.ref x) v H1 Q :=
 bv h1 hl (k _ (fun b o e nb=>by rw[ao nb];exact hb b o e nb) (fun b o e nb=>by rw[ao nb];exact e) af)
theorem ul.same(b:ul x H H1)(s:ai H1 H2):ul x H H2:=fun c o e n=>s _ _ (b c o e n)
theorem kZ.but{C x:Addr}{H H':Hp}{y:Addr}{p s h w:Nat}(m:kZ C H y p s h w)(b:ul x H H')(n:y≠x):kZ C H' y p s h w:=let ⟨⟨dx,h1⟩,h2⟩:=m;⟨⟨dx,b _ _ h1 n⟩,h2⟩
theorem CD(T:Tx K mg):qL P w K mg base 3 "Job" T.Jl ["self","numbers"] (FX T):=by
 refine qL.of [] T.Fg T.M6 fun sc H Q E hr h=>?_
 obtain⟨x,dx,l,ns,rfl,hx,hl,h10,hv,k⟩:=h;have hb:∀ i,ns.getD i 0<2 ^ 64:=fun i=>by
  rw[getD_eq_getElem?_getD]
  cases e:ns[i]? with
  | none=>decide
  | some v=>exact hv v (mem_of_getElem? e)
 have hlen:(QM.nI ns).length=10:=by rw[ak,h10]
 refine⟨_,(ab (aV (T.aR) (T.gM) (pv 0) (xL K (pv 1) aj)) (ab (aV (T.aR) (T.js) (pv 0) (xL K (pv 1) aj)) (ab (aV (T.aR) (T.nM) (pv 0) (xL K (pv 1) aj)) (ab (aV (T.aR) (T.uf) (pv 0) (xL K (pv 1) aj)) (ab (aV (T.aR) (T.dN) (pv 0) (aq gd (ah (T.aR) (T.uf) (pv 0)) (aA (gS T) hr.m (aa (ah (T.aR) (T.gM) (pv 0)) ae)))) (ab (aV (T.aR) (T.nP) (pv 0) (fU (jM T) hr.m (aa (xL K (pv 1) aj) (aa (xL K (pv 1) aj) (aa (ah (T.aR) (T.js) (pv 0)) (aa (aq bq aj (ah (T.aR) (T.dN) (pv 0))) ae)))))) (ab (aV (T.aR) (T.nN) (pv 0) (fU (jM T) hr.m (aa (xL K (pv 1) aj) (aa (xL K (pv 1) aj) (aa (ah (T.aR) (T.dN) (pv 0)) (aa (aq bq aj (ah (T.aR) (T.nM) (pv 0))) ae)))))) (aB (aV (T.aR) (T.iz) (pv 0) (fU (jM T) hr.m (aa (xL K (pv 1) aj) (aa (xL K (pv 1) aj) (aa (ah (T.aR) (T.js) (pv 0)) (aa (aq bq aj (ah (T.aR) (T.nM) (pv 0))) ae)))))))))))))),?_⟩;walk_at "rd";have ix:∀ (i:Nat) (H':Hp) (Q:VK),i<10→ul x H H'→Q (.int ((ns.getD i 0:Nat):Int)) H'→Ct K (.ref l) (.int (i:Int)) H' Q:=fun i H' Q hi b q=>bj (j:=i) (ul.seq hx b hl) rfl (by lia) (by rw[aQ];exact q)
 have b0:ul x H H:=fun _ _ e _=>e
 refine ix 0 H _ (by decide) b0 (mX b0 hx (by show 0<1000;decide) fun H1 b1 _ e1=>?_)
 refine ix 1 H1 _ (by decide) b1 (mX b1 e1 (by show 1<1000;decide) fun H2 b2 _ e2=>?_)
 refine ix 2 H2 _ (by decide) b2 (mX b2 e2 (by show 2<1000;decide) fun H3 b3 _ e3=>?_)
 refine ix 3 H3 _ (by decide) b3 (mX b3 e3 (by show 3<1000;decide) fun H4 b4 _ e4=>?_)
 refine ag e4 rfl (ag e4 rfl ?_);walk_at "rd";rw[nS,←Int.natCast_ediv];have hg:2≤Qw.groupOf (ns.getD 0 0)∧Qw.groupOf (ns.getD 0 0)≤4:=by unfold Qw.groupOf;split<;>decide
 have ejd:ns.getD 3 0 / Qw.groupOf (ns.getD 0 0)=QM.jd (tL ns):=rfl;rw[ejd];have hjd:QM.jd (tL ns)<2 ^ 64:=by rw[←ejd];exact Nat.lt_of_le_of_lt (Nat.div_le_self _ _) (hb 3)
 refine⟨⟨by lia,by lia⟩,mX b4 e4 (by show 4<1000;decide) fun H5 b5 _ e5=>?_⟩
 refine ix 4 H5 _ (by decide) b5 (ix 7 H5 _ (by decide) b5 (ag e5 rfl (ag e5 rfl ?_)))
 walk_at "rd";refine⟨fz.nat (a:=4) (by decide) (by lia),Gc fun ma dma H6 na s6 ea=>?_⟩
 have b6:=b5.same s6;have e6:=s6 _ _ e5;have nxa:ma≠x:=fun z=>by rw[z,e5] at na;cases na
 refine mX b6 e6 (by show 5<1000;decide) fun H7 b7 c7 e7=>?_
 have ma7:kZ T.eO H7 ma (ns.getD 4 0) (ns.getD 7 0) (ns.getD 1 0) (4*QM.jd (tL ns)):=by
  refine⟨⟨dma,?_⟩,hb 7⟩;rw[c7 _ _ ea nxa,Int.natCast_mul];rfl
 refine ix 5 H7 _ (by decide) b7 (ix 8 H7 _ (by decide) b7 (ag e7 rfl (ag e7 rfl ?_)))
 walk_at "rd";have hn2:=hb 2;refine⟨fz.nat (a:=4) (by decide) (by lia),Gc fun mb dmb H8 nb s8 eb=>?_⟩
 have b8:=b7.same s8;have e8:=s8 _ _ e7;have nxb:mb≠x:=fun z=>by rw[z,e7] at nb;cases nb
 refine mX b8 e8 (by show 6<1000;decide) fun H9 b9 c9 e9=>?_
 have ma9:=(ma7.same s8).but c9 nxa;have mb9:kZ T.eO H9 mb (ns.getD 5 0) (ns.getD 8 0) (QM.jd (tL ns)) (4*ns.getD 2 0):=by
  refine⟨⟨dmb,?_⟩,hb 8⟩;rw[c9 _ _ eb nxb,Int.natCast_mul];rfl
 refine ix 6 H9 _ (by decide) b9 (ix 9 H9 _ (by decide) b9 (ag e9 rfl (ag e9 rfl ?_)))
 walk_at "rd";refine⟨fz.nat (a:=4) (by decide) (by lia),Gc fun mc dmc H10 nc s10 ec=>?_⟩
 have b10:=b9.same s10;have e10:=s10 _ _ e9;have nxc:mc≠x:=fun z=>by rw[z,e9] at nc;cases nc
 refine mX b10 e10 (by show 7<1000;decide) fun H11 b11 c11 e11=>?_
 refine k H11 b11 ⟨dx,ma,mb,mc,e11,(ma9.same s10).but c11 nxa,(mb9.same s10).but c11 nxb,⟨dmc,?_⟩,hb 9⟩;rw[c11 _ _ ec nxc,Int.natCast_mul];rfl
def Mt(T:Tx K mg):Sp:=fun vs H Q _=>∃ x j,vs=[.ref x]∧je T H x j∧(dJ j→Q (.bl true) H)∧(¬ dJ j→Q (.bl false) H)
theorem qV(T:Tx K mg):bg P w K mg base 3 "has_job_sizes" ["job"] (Mt T):=by
 refine bg.of [] T.tP fun sc H Q E hr h=>?_
 obtain⟨x,j,rfl,⟨dx,a,b,c,hx,_⟩,k1,k2⟩:=h;refine⟨_,(ab (aU (PW.pt (g7 (gq mM (ah (T.aR) (T.gM) (pv 0)) (am T.fi)) (fJ (gq il (aq eR (ah (T.aR) (T.uf) (pv 0)) (aA (gS T) hr.m (aa (ah (T.aR) (T.gM) (pv 0)) ae))) aj)))) (bu j8) aF) (bu (kH (iN gz gz aj (ah (T.aR) (T.js) (pv 0)) (am T.rm)) (kH (iN gz gz aj (ah (T.aR) (T.nM) (pv 0)) (am T.og)) (jK (iN gz gz aj (ah (T.aR) (T.uf) (pv 0)) (am T.GV))))))),?_⟩;walk_at "rd";refine ag hx rfl ?_
 walk_at "rd";refine aN (fun e=>k2 fun z=>by have:=z.kd;lia) fun e1=>?_
 refine ag hx rfl (ag hx rfl ?_);walk_at "rd";rw[nS,←Int.natCast_emod];have hg:2≤Qw.groupOf j.kind∧Qw.groupOf j.kind≤4:=by unfold Qw.groupOf;split<;>decide
 refine⟨by lia,?_⟩
 refine aN (fun e=>k2 fun z=>by have:=z.kg;lia) fun e2=>?_
 refine ag hx rfl ?_
 walk_at "rd";refine aN (fun e3=>?_) fun e3=>k2 fun z=>by have:=z.m1;lia
 refine aN (fun e4=>?_) fun e4=>k2 fun z=>by have:=z.m2;lia
 refine ag hx rfl ?_
 walk_at "rd";refine aN (fun e5=>?_) fun e5=>k2 fun z=>by have:=z.n1;lia
 refine aN (fun e6=>?_) fun e6=>k2 fun z=>by have:=z.n2;lia
 refine ag hx rfl ?_
 walk_at "rd";refine aN (fun e7=>?_) fun e7=>k2 fun z=>by have:=z.k1;lia
 by_cases e8:j.k≤256
 ·rw[decide_eq_true (by lia)]
  exact k1 ⟨by lia,by lia,by lia,by lia,by lia,by lia,by lia,e8⟩
 ·rw[decide_eq_false (by lia)]
  exact k2 fun z=>e8 z.k2
theorem GF{a:Addr}{xs:List V}{k:Nat}{te:TE}{vs:List Nat}{σ:L2.St}{H1:Hp}{D:Addr}{Qd:Hp→Prop}(f:Nat→V)(hD:H1 D=none)(hx:H1 a=some (.tup xs))(hn:xs.length<sizeLine)
  (turn:∀ i x H (Kt:VK),xs[i]?=some x→ai H1 H→(∀ H4,ai H H4→Kt (f i) H4)→bh ((bh σ vs).set k (some x)) vs=bh σ vs∧te ((bh σ vs).set k (some x)) H Kt)
  (dO:∀ H',H' D=some (.lst ((List.range xs.length).map f))→ai H1 H'→Qd H'):BZ (LH K a) (db k) te vs σ H1 D Qd :=
 qk xs.length f hD hn (fun i H hi hs=>⟨xs,xs[i],lP.of (hs _ _ hx),getElem?_eq_getElem hi⟩) (fun H hs=>⟨xs,lP.of (hs _ _ hx),Nat.le_refl _⟩) (fun i x H H' Kt hi hs hy hk=>by
  obtain⟨rfl,hy⟩:=hy;exact turn i x _ Kt (hy xs (lP.of (hs _ _ hx))) hs hk) dO
def Mm(T:Tx K mg):Sp:=fun vs H Q _=>∃ x j,vs=[.ref x]∧je T H x j∧dJ j∧(BQ j→nv H (.bl true) Q)∧(¬ BQ j→nv H (.bl false) Q)
theorem KH{H:Hp}{Q:VK}{a:Addr}{bs:List Bool}(hs:aL K H a (bs.map V.bl))(q:Q (.bl (bs.any id)) H):KJ K [.ref a] H Q:=⟨a,bs,rfl,hs,q⟩
theorem y4(T:Tx K mg):bg P w K mg base 4 "lies_well" ["job"] (Mm T):=by
 refine bg.of ["matrix"] T.Bm fun sc H Q E hr h=>?_
 obtain⟨x,j,rfl,⟨dx,a,b,c,hx,ma,mb,mc⟩,hs,k1,k2⟩:=h;have hd1:=hs.d1;have hd2:=hs.d2;have hm1:=hs.m1;have hm2:=hs.m2;refine⟨_,(ab (aU (cf (dZ (Jb (K:=K)) (by rfl) T.Nm boot_any (aa (dM (own:=[("matrix",1)]) rfl sc.nd (yT (K:=K) (jJ (aa (ah (T.aR) (T.nP) (pv 0)) (aa (ah (T.aR) (T.nN) (pv 0)) (aa (ah (T.aR) (T.iz) (pv 0)) ae))))) (aY (N:=["job","matrix"]) (sc:=aC me) (by decide +kernel)) (fun _ _ _ _ _=>(gN 1 sc.nd)) (fun _ _ _ _ _=>(bE)) (fun _ _ _ _ _=>(tU mM (aO (T.bb) (dU T) hr.m (pv 1)) (am T.jS)))) ae))) (bu j8) aF) (ab (aU (PW.pt (qS (gq il (ah (T.aR) (T.js) (pv 0)) aj) (nL (gq kb (ah (T.bb) (T.dn) (ah (T.aR) (T.iz) (pv 0))) (ah (T.bb) (T.gl) (ah (T.aR) (T.iz) (pv 0))))))) (bu j8) aF) (bu (kH (Gk (dv (T.bb) (gg T) hr.m (ah (T.aR) (T.iz) (pv 0)) (aa (ah (T.aR) (T.nP) (pv 0)) ae))) (jK (Gk (dv (T.bb) (gg T) hr.m (ah (T.aR) (T.iz) (pv 0)) (aa (ah (T.aR) (T.nN) (pv 0)) ae)))))))),?_⟩
 walk_at "rd";refine ag hx rfl (ag hx rfl (ag hx rfl ⟨by decide,fun tp ntp=>?_⟩))
 have s1:=ai.new (o:=.tup [V.ref a,V.ref b,V.ref c]) ntp;have et:(upd H tp (.tup [V.ref a,V.ref b,V.ref c])) tp=some (.tup [V.ref a,V.ref b,V.ref c]):=af;generalize upd H tp (.tup [V.ref a,V.ref b,V.ref c])=H1 at *;obtain⟨⟨dma,hma⟩,_⟩:=id ma;obtain⟨⟨dmb,hmb⟩,_⟩:=id mb;obtain⟨⟨dmc,hmc⟩,_⟩:=id mc;refine⟨⟨_,lP.of et⟩,fun D hD=>GF (fun i=>.bl (decide (16384<[fh j.a j.as_ j.m (4*QM.jd j),fh j.b j.bs (QM.jd j) (4*j.n),fh j.c j.cs j.m (4*j.n)].getD i 0))) hD et (by show 3<sizeLine;decide) (fun i y H2 Kt hi s2 hk=>?_) fun H2 h2 s2=>?_⟩
 ·have s12:=s1.trans s2;have dd:∀ n:Nat,decide ((16384:Int)<(n:Int))=decide (16384<n):=fun n=>decide_eq_decide.2 (by lia)
  match i,hi with
  | 0,hi =>
   have ey:y=.ref a:=(Option.some.inj hi).symm;subst ey;walk_at "rd";refine aT (s12 _ _ hma) rfl ⟨a,_,_,_,_,rfl,ma.same s12,by lia,by lia,?_⟩
   walk_at "rd";rw[dd];exact hk H2 ai.refl
  | 1,hi =>
   have ey:y=.ref b:=(Option.some.inj hi).symm;subst ey;walk_at "rd";refine aT (s12 _ _ hmb) rfl ⟨b,_,_,_,_,rfl,mb.same s12,by lia,by lia,?_⟩
   walk_at "rd";rw[dd];exact hk H2 ai.refl
  | 2,hi =>
   have ey:y=.ref c:=(Option.some.inj hi).symm;subst ey;walk_at "rd";refine aT (s12 _ _ hmc) rfl ⟨c,_,_,_,_,rfl,mc.same s12,by lia,by lia,?_⟩
   walk_at "rd";rw[dd];exact hk H2 ai.refl
  | i+3,hi=>simp at hi
 have s2:=s1.trans s2;refine KH (bs:=[decide (16384<fh j.a j.as_ j.m (4*QM.jd j)),decide (16384<fh j.b j.bs (QM.jd j) (4*j.n)),decide (16384<fh j.c j.cs j.m (4*j.n))]) (aL.of h2) (aN (fun e=>?_) fun e=>?_)
 ·refine k2 (fun z=>?_) H2 s2
  have z1:=z.a;have z2:=z.b;have z3:=z.c;simp only[any_cons,List.any_nil,id,Bool.or_eq_true,decide_eq_true_eq,Bool.false_eq_true,or_false] at e;lia
 simp only[any_cons,List.any_nil,id,Bool.or_eq_true,decide_eq_true_eq,Bool.false_eq_true,or_false] at e;refine ag (s2 _ _ hx) rfl ?_
 walk_at "rd";refine aN (fun e3=>?_) fun e3=>?_
 ·refine ag (s2 _ _ hx) rfl (ag (s2 _ _ hmc) rfl (ag (s2 _ _ hx) rfl (ag (s2 _ _ hmc) rfl ?_)));walk_at "rd";refine aN (fun e4=>k2 (fun z=>by have:=z.s;lia) H2 s2) fun e4=>?_
  refine ag (s2 _ _ hx) rfl (aT (s2 _ _ hmc) rfl (ag (s2 _ _ hx) rfl ⟨c,a,_,_,_,_,_,_,_,_,rfl,mc.same s2,ma.same s2,⟨by lia,by lia⟩,⟨by lia,by lia⟩,ob (aN (fun e5=>?_) fun e5=>?_)⟩))
  ·have e5:=of_decide_eq_false e5;refine ag (s2 _ _ hx) rfl (aT (s2 _ _ hmc) rfl (ag (s2 _ _ hx) rfl ⟨c,b,_,_,_,_,_,_,_,_,rfl,mc.same s2,mb.same s2,⟨by lia,by lia⟩,⟨by lia,by lia⟩,ob ?_⟩))
   by_cases e6:(j.c<fh j.b j.bs (QM.jd j) (4*j.n)∧j.b<fh j.c j.cs j.m (4*j.n))
   ·rw[decide_eq_true e6];exact k2 (fun z=>z.cb e6) H2 s2
   ·rw[decide_eq_false e6];exact k1 ⟨by lia,by lia,by lia,by lia,e5,e6⟩ H2 s2
  ·have e5:(j.c<fh j.a j.as_ j.m (4*QM.jd j)∧j.a<fh j.c j.cs j.m (4*j.n)):=by simpa using e5
   exact k2 (fun z=>z.ca e5) H2 s2
 ·refine ag (s2 _ _ hx) rfl (aT (s2 _ _ hmc) rfl (ag (s2 _ _ hx) rfl ⟨c,a,_,_,_,_,_,_,_,_,rfl,mc.same s2,ma.same s2,⟨by lia,by lia⟩,⟨by lia,by lia⟩,ob (aN (fun e5=>?_) fun e5=>?_)⟩))
  ·have e5:=of_decide_eq_false e5;refine ag (s2 _ _ hx) rfl (aT (s2 _ _ hmc) rfl (ag (s2 _ _ hx) rfl ⟨c,b,_,_,_,_,_,_,_,_,rfl,mc.same s2,mb.same s2,⟨by lia,by lia⟩,⟨by lia,by lia⟩,ob ?_⟩))
   by_cases e6:(j.c<fh j.b j.bs (QM.jd j) (4*j.n)∧j.b<fh j.c j.cs j.m (4*j.n))
   ·rw[decide_eq_true e6];exact k2 (fun z=>z.cb e6) H2 s2
   ·rw[decide_eq_false e6];exact k1 ⟨by lia,by lia,by lia,by lia,e5,e6⟩ H2 s2
  ·have e5:(j.c<fh j.a j.as_ j.m (4*QM.jd j)∧j.a<fh j.c j.cs j.m (4*j.n)):=by simpa using e5
   exact k2 (fun z=>z.ca e5) H2 s2
def HJ(T:Tx K mg):Sp:=fun vs H Q _=>∃ l,∃ ns:List Nat,vs=[.ref l]∧aL K H l (iv (QM.nI ns))∧(∀ v∈ns,v<2 ^ 64)∧(Quilt.jobOf ns=none→nv H .non Q)∧∀ j,Quilt.jobOf ns=some j→∀ x H',ai H H'→H x=none→je T H' x j→Q (.ref x) H'
theorem x9(T:Tx K mg):bg P w K mg base 5 "job_of" ["numbers"] (HJ T):=by
 refine bg.of ["job"] T.G2 fun sc H Q E hr h=>?_
 obtain⟨l,ns,rfl,hl,hv,k1,k2⟩:=h;refine⟨_,(ab (aU (gq il (tW K T.eB (aa (pv 0) ae)) (am T.zr)) (bu cH) aF) (ab (sS 1 sc.nd (fU (CD T) hr.m (aa (pv 0) ae))) (bu (dw (PW.pt (qS (cf (aA (qV T) hr.m (aa (pv 1) ae))) (nL (cf (aA (y4 T) hr.m (aa (pv 1) ae)))))) (pv 1) cH)))),?_⟩;walk_at "rd";refine cQ hl ?_
 walk_at "rd";rw[aM,ak];refine aN (fun e=>?_) fun e=>?_
 ·exact k1 (vC ns (by lia)) H ai.refl
 have h10:ns.length=10:=by lia
 rw[vD ns h10] at k1 k2;intro x dx hx hdx ne;have s1:ai H (upd (upd H dx (.own x)) x (.ins T.Jl dx [])):=fun b o e=>by rw[ao (au e hx),ao (au e hdx)];exact e
 refine⟨x,dx,l,ns,rfl,af,s1.seq hl,h10,hv,fun H1 b1 hj=>⟨rfl,?_⟩⟩
 have s2:ai H H1:=fun b o e=>b1 b o (s1 _ _ e) (au e hx)
 have hok:=QM.ok_iff (tL ns);refine⟨x,tL ns,rfl,hj,fun hs=>ob ?_,fun hs=>ob ?_⟩
 ·rw[if_pos rfl];refine⟨x,tL ns,rfl,hj,hs,fun hlw H2 s3=>ob ?_,fun hlw H2 s3=>ob ?_⟩
  ·rw[if_pos rfl];exact k2 _ (if_pos (hok.2 ⟨hs,hlw⟩)) x H2 (s2.trans s3) hx (hj.same s3)
  ·rw[if_neg (by decide)]
   exact k1 (if_neg fun z=>hlw (hok.1 z).2) H2 (s2.trans s3)
 ·rw[if_neg (by decide)]
  exact k1 (if_neg fun z=>hs (hok.1 z).1) H1 s2
def Fv(jx:Addr)(j:Qw.Job)(row col:Nat):List (Str×V):=bF (.ref jx) (.int (row:Int)) (.int (col:Int)) (.int ((min 16 (j.m - row):Nat):Int)) (.int ((4*min 16 (j.n - col):Nat):Int))
def kt(T:Tx K mg)(H:Hp)(x:Addr)(j:Qw.Job)(row col:Nat):Prop:=∃ dx jx,H x=some (.ins T.ij dx (Fv jx j row col))∧je T H jx j
theorem kt.same(h:kt T H x j row col)(s:ai H H'):kt T H' x j row col:=let ⟨dx,jx,h1,h2⟩:=h;⟨dx,jx,s _ _ h1,h2.same s⟩
theorem kZ.ext{C D:Addr}{H H':Hp}{x:Addr}{p s h w:Nat}{xs:List V}(m:kZ C H x p s h w)(hD:H D=some (.lst xs))(e:xD D H H'):kZ C H' x p s h w:=let ⟨⟨dx,h1⟩,h2⟩:=m;⟨⟨dx,e _ _ h1 (mT h1 hD (fun z=>nomatch z))⟩,h2⟩
theorem je.ext(h:je T H x j)(hD:H D=some (.lst xs))(e:xD D H H'):je T H' x j:=let ⟨dx,a,b,c,h1,h2,h3,h4⟩:=h;⟨dx,a,b,c,e _ _ h1 (mT h1 hD (fun z=>nomatch z)),h2.ext hD e,h3.ext hD e,h4.ext hD e⟩
theorem kt.ext(h:kt T H x j row col)(hD:H D=some (.lst xs))(e:xD D H H'):kt T H' x j row col:=let ⟨dx,jx,h1,h2⟩:=h;⟨dx,jx,e _ _ h1 (mT h1 hD (fun z=>nomatch z)),h2.ext hD e⟩
def F0(T:Tx K mg):Sp:=fun vs H Q _=>∃ x dx jx,∃ (j:Qw.Job) (row col:Nat),vs=[.ref x,.ref jx,.int (row:Int),.int (col:Int)]∧H x=some (.ins T.ij dx [])∧je T H jx j∧row<j.m∧col<j.n∧j.n≤64∧Q .non (upd H x (.ins T.ij dx (Fv jx j row col)))
theorem DU(a b:Nat):(if (b:Int)<(a:Int) then (b:Int) else (a:Int))=((min a b:Nat):Int):=by split<;>lia
theorem yZ(T:Tx K mg):qL P w K mg base 1 "Block" T.ij ["self","job","row","column"] (F0 T):=by
 refine qL.of [] T.Bj T.IG fun sc H Q E hr h=>?_
 obtain⟨x,dx,jx,j,row,col,rfl,hx,⟨dj,a,b,c,hj,_⟩,hr1,hc1,hn,k⟩:=h;have njx:jx≠x:=mT hj hx (fun z=>by injection z with z1 z2 z3;exact List.cons_ne_nil _ _ z3)
 refine⟨_,(ab (aV (T.bZ) (T.fX) (pv 0) (pv 1)) (ab (aV (T.bZ) (T.mU) (pv 0) (pv 2)) (ab (aV (T.bZ) (T.iY) (pv 0) (pv 3)) (ab (aV (T.bZ) (T.gn) (pv 0) (dZ (yt rfl) (by rfl) T.JY boot_min (aa (am T.qr) (aa (aq ig (ah (T.aR) (T.js) (pv 1)) (pv 2)) ae)))) (aB (aV (T.bZ) (T.gV) (pv 0) (aq bq aj (dZ (yt rfl) (by rfl) T.JY boot_min (aa (am T.lA) (aa (aq ig (ah (T.aR) (T.nM) (pv 1)) (pv 3)) ae)))))))))),?_⟩
 walk_at "rd";refine bv hx (by show 0<1000;decide) (bv af (by show 1<1000;decide) (bv af (by show 2<1000;decide) ?_))
 simp only[upd_upd];refine ag (by rw[ao njx];exact hj) rfl ?_
 walk_at "rd";rw[show (j.m:Int) - (row:Int)=((j.m - row:Nat):Int) by lia,show (16:Int)=((16:Nat):Int) from rfl,DU]
 refine bv af (by show 3<1000;decide) ?_
 simp only[upd_upd];refine ag (by rw[ao njx];exact hj) rfl ?_
 walk_at "rd";rw[show (j.n:Int) - (col:Int)=((j.n - col:Nat):Int) by lia,DU]
 refine⟨fz.nat (a:=4) (by decide) (by lia),bv af (by show 4<1000;decide) ?_⟩
 simp only[upd_upd];rw[show (4:Int)*((min 16 (j.n - col):Nat):Int)=((4*min 16 (j.n - col):Nat):Int) by lia]
 exact k
theorem F7(m:Nat)(h:m≤1000):Np 0 (m:Int) 16 ((m+15) / 16):=by
 have hs:Builtin.Range.rangeSize 0 (m:Int) 16=(((m+15) / 16:Nat):Int):=by
  unfold Builtin.Range.rangeSize;rw[if_pos (by decide)]
  split<;>lia
 have fl:∀ x:Int,-9223372036854775808≤x→x<9223372036854775808→Builtin.Range.rangeFitsLong x=true:=by
  intro x h1 h2;unfold Builtin.Range.rangeFitsLong;rw[decide_eq_true (show -(2 ^ 63)≤x from h1),decide_eq_true (show x<2 ^ 63 from h2)];rfl
 refine⟨by decide,by decide,?_,hs⟩
 unfold Builtin.Range.small;rw[hs,fl 0 (by decide) (by decide),fl (m:Int) (by lia) (by lia),fl 16 (by decide) (by decide),fl (((m+15) / 16:Nat):Int) (by lia) (by lia),if_pos (by decide),fl ((m:Int)+(16 - 1)) (by lia) (by lia)]
 simp
def kU(j:Qw.Job):List (Nat×Nat):=(bJ j).map fun z=>(z.1.1,z.2.1)
theorem En(j:Qw.Job):kU j=(List.range ((j.m+15) / 16)).flatMap fun b=>(List.range ((j.n+15) / 16)).map fun c=>(16*b,16*c):=by
 unfold kU bJ Qw.sixteens;rw[map_flatMap,flatMap_map];apply fQ;intro b _;rw[map_map,map_map];rfl
def qK(T:Tx K mg)(H:Hp)(as:List Addr)(j:Qw.Job)(ps:List (Nat×Nat)):Prop:=as.length=ps.length∧∀ (i:Nat) (a:Addr) (z:Nat×Nat),as[i]?=some a→ps[i]?=some z→kt T H a j z.1 z.2
theorem qK.same(h:qK T H as j ps)(s:ai H H'):qK T H' as j ps:=⟨h.1,fun i a z e1 e2=>(h.2 i a z e1 e2).same s⟩
theorem qK.snoc(h:qK T H as j ps)(ha:kt T H a j z.1 z.2):qK T H (as++[a]) j (ps++[z]):=by
 refine⟨by rw[length_append,length_append,h.1];rfl,fun i b y e1 e2=>?_⟩
 rcases Nat.lt_or_ge i as.length with hi | hi
 ·rw[getElem?_append_left hi] at e1;rw[getElem?_append_left (by rw[←h.1];exact hi)] at e2
  exact h.2 i b y e1 e2
 ·rw[getElem?_append_right hi] at e1;rw[getElem?_append_right (by rw[←h.1];exact hi),←h.1] at e2
  have hj0:i - as.length=0:=by
   rcases Nat.eq_zero_or_pos (i - as.length) with hz | hz
   ·exact hz
   ·rw[getElem?_eq_none (by show 1≤_;exact hz)] at e1;cases e1
  rw[hj0] at e1 e2;obtain rfl:=Option.some.inj e1;obtain rfl:=Option.some.inj e2;exact ha
def Ku(T:Tx K mg):Sp:=fun vs H Q _=>∃ jx j,vs=[.ref jx]∧je T H jx j∧dJ j∧∀ p as H',ai H H'→H p=none→H' p=some (.lst (as.map V.ref))→qK T H' as j (kU j)→Q (.ref p) H'
theorem zc(T:Tx K mg):bg P w K mg base 3 "blocks_of" ["job"] (Ku T):=by
 refine bg.of ["blocks","row","column"] T.Bt fun sc H Q E hr h=>?_
 obtain⟨jx,j,rfl,hj,hs,k⟩:=h;obtain⟨dj,a,b,c,hj1,_⟩:=id hj;have hm:=hs.m2;have hn:=hs.n2;refine⟨_,(ab (sS 1 sc.nd (aJ ae)) (ab (dS PassesOwn.never rfl (fT rfl T.dW (aa aj (aa (ah (T.aR) (T.js) (pv 0)) (aa (am T.qr) ae)))) (gN 2 sc.nd) (aB (dS PassesOwn.never rfl (fT rfl T.dW (aa aj (aa (ah (T.aR) (T.nM) (pv 0)) (aa (am T.lA) ae)))) (gN 3 sc.nd) (aB (bQ (JW (pv 1) (aa (fU (yZ T) hr.m (aa (pv 0) (aa (pv 2) (aa (pv 3) ae)))) ae))))))) (bu (pv 1)))),?_⟩;refine zS fun D hD=>?_
 have sD:=ai.new (o:=.lst []) hD;have eD:(upd H D (.lst [])) D=some (.lst []):=af;generalize upd H D (.lst [])=H1 at *;walk_at "rd";refine ag (sD _ _ hj1) rfl ?_
 walk_at "rd";refine⟨_,F7 j.m (by lia),?_⟩
 refine IR (fun i σ H'=>∃ v2 v3,∃ as:List Addr,σ=[some (.ref jx),some (.ref D),v2,v3]∧H' D=some (.lst (as.map V.ref))∧ai H H'∧qK T H' as j ((List.range i).flatMap fun b=>(List.range ((j.n+15) / 16)).map fun c=>(16*b,16*c))) ⟨_,_,[],rfl,eD,sD,rfl,fun i a z e=>by simp at e⟩ ?_ ?_
 ·rintro i σ H2 hi ⟨v2,v3,as,rfl,e2,s2,l2⟩
  walk_at "rd";refine ag (s2 _ _ hj1) rfl ?_
  walk_at "rd";refine⟨_,F7 j.n (by lia),?_⟩
  refine IR (fun c σ H'=>∃ v3,∃ as:List Addr,σ=[some (.ref jx),some (.ref D),some (.int (0+(i:Int)*16)),v3]∧H' D=some (.lst (as.map V.ref))∧ai H H'∧qK T H' as j (((List.range i).flatMap fun b=>(List.range ((j.n+15) / 16)).map fun c=>(16*b,16*c))++(List.range c).map fun c=>(16*i,16*c))) ⟨_,as,rfl,e2,s2,by simpa using l2⟩ ?_ ?_
  ·rintro c σ H3 hc ⟨v3,as,rfl,e3,s3,l3⟩
   walk_at "rd";have hri:16*i<j.m:=by lia
   have hci:16*c<j.n:=by lia
   refine⟨eU e3,fun x dx hx hdx ne=>?_⟩
   have s4:ai H3 (upd (upd H3 dx (.own x)) x (.ins T.ij dx [])):=fun b o e=>by rw[ao (au e hx),ao (au e hdx)];exact e
   refine⟨x,dx,jx,j,16*i,16*c,by rw[show ((16*i:Nat):Int)=0+(i:Int)*16 by lia,show ((16*c:Nat):Int)=0+(c:Int)*16 by lia],af,(hj.same s3).same s4,hri,hci,hn,rfl,?_⟩
   have s5:ai H3 (upd (upd (upd H3 dx (.own x)) x (.ins T.ij dx [])) x (.ins T.ij dx (Fv jx j (16*i) (16*c)))):=fun b o e=>by rw[ao (au e hx)];exact s4 _ _ e
   have e5:(upd (upd (upd H3 dx (.own x)) x (.ins T.ij dx [])) x (.ins T.ij dx (Fv jx j (16*i) (16*c)))) x=some (.ins T.ij dx (Fv jx j (16*i) (16*c))):=af;generalize upd (upd (upd H3 dx (.own x)) x (.ins T.ij dx [])) x (.ins T.ij dx (Fv jx j (16*i) (16*c)))=H5 at *;have hlen:as.length<1000:=by
    rw[l3.1,length_append,length_map,length_range];have h2:∀ n,(((List.range n).flatMap fun b=>(List.range ((j.n+15) / 16)).map fun c=>(16*b,16*c))).length=n*((j.n+15) / 16):=fun n=>by
     rw[fN (fun b c=>(16*b,16*c))];simp
    rw[h2]
    have:i*((j.n+15) / 16)≤4*4:=Nat.mul_le_mul (by lia) (by lia)
    lia
   have eD5:=s5 _ _ e3;have ext:xD D H5 (upd H5 D (.lst (as.map V.ref++[.ref x]))):=fun b o e nb=>by rw[ao nb];exact e
   refine mC eD5 (by rw[length_map];exact sz (by lia)) ⟨as++[x],by rw[af,map_append];rfl,fun b o e=>?_,?_⟩
   ·rw[ao (au e hD)];exact s5 _ _ (s3 _ _ e)
   ·rw[range_succ,map_append,←append_assoc];have l5:=(l3.same s5).snoc (a:=x) (z:=(16*i,16*c)) ⟨dx,jx,e5,(hj.same s3).same s5⟩
    exact⟨l5.1,fun i a z h1 h2=>(l5.2 i a z h1 h2).ext eD5 ext⟩
  ·rintro σ H3 ⟨v3,as,rfl,e3,s3,l3⟩
   exact⟨_,_,rfl,as,e3,s3,by rw[gP];exact l3⟩
 ·rintro σ H2 ⟨v2,v3,as,rfl,e2,s2,l2⟩
  walk_at "rd";exact k D as H2 s2 hD e2 (by rw[En];exact l2)
def ia(C:Addr)(H:Hp)(as:List Addr)(ss:List Qw.Step):Prop:=as.length=ss.length∧∀ (i:Nat) (a:Addr) (s:Qw.Step),as[i]?=some a→ss[i]?=some s→dX C H a s
theorem _root_.QB.dX.same{C:Addr}{H H':Hp}{a:Addr}{s:Qw.Step}(h:dX C H a s)(e:ai H H'):dX C H' a s:=let ⟨dx,h1⟩:=h;⟨dx,e _ _ h1⟩
theorem _root_.QB.dX.ext(h:dX C H a s)(hD:H D=some (.lst xs))(e:xD D H H'):dX C H' a s:=let ⟨dx,h1⟩:=h;⟨dx,e _ _ h1 (mT h1 hD (fun z=>nomatch z))⟩
theorem ia.same{C:Addr}{H H':Hp}{as:List Addr}{ss:List Qw.Step}(h:ia C H as ss)(e:ai H H'):ia C H' as ss:=⟨h.1,fun i a s e1 e2=>(h.2 i a s e1 e2).same e⟩
theorem ia.ext(h:ia C H as ss)(hD:H D=some (.lst xs))(e:xD D H H'):ia C H' as ss:=⟨h.1,fun i a s e1 e2=>(h.2 i a s e1 e2).ext hD e⟩
theorem ia.append(h1:ia C H as ss)(h2:ia C H bs tt):ia C H (as++bs) (ss++tt):=by
 refine⟨by rw[length_append,length_append,h1.1,h2.1],fun i b l e1 e2=>?_⟩
 rcases Nat.lt_or_ge i as.length with h | h
 ·rw[getElem?_append_left h] at e1;rw[getElem?_append_left (by rw[←h1.1];exact h)] at e2
  exact h1.2 i b l e1 e2
 ·rw[getElem?_append_right h] at e1;rw[getElem?_append_right (by rw[←h1.1];exact h),←h1.1] at e2
  exact h2.2 _ b l e1 e2
theorem ia.one(h:dX C H a s):ia C H [a] [s]:=⟨rfl,fun i b t e1 e2=>by
 match i,e1,e2 with
 | 0,e1,e2=>obtain rfl:=Option.some.inj e1;obtain rfl:=Option.some.inj e2;exact h
 | i+1,e1,e2=>simp at e1⟩
def J1(C:Addr)(H:Hp)(ss:List Qw.Step)(Q:VK):Prop:=∀ p as H',ai H H'→H p=none→(∀ a∈as,H a=none)→H' p=some (.lst (as.map V.ref))→ia C H' as ss→Q (.ref p) H'
def Nq(C:Addr)(H:Hp)(s:Qw.Step)(Q:VK):Prop:=∀ p H',ai H H'→H p=none→dX C H' p s→Q (.ref p) H'
theorem iq{C:Addr}{H:Hp}{Q:Addr→Hp→Prop}{E:XK}{s:Qw.Step}{a b c d e:V}(ea:a=.int (s.kind:Int))(eb:b=.int (s.x:Int))(ec:c=.int (s.y:Int))(ed:d=.int (s.z:Int))(ee:e=.int (s.v:Int))(h:∀ p H',ai H H'→H p=none→dX C H' p s→Q p H') :
  ∀ x dx,H x=none→H dx=none→dx≠x→Km C sF [.ref x,a,b,c,d,e] (upd (upd H dx (.own x)) x (.ins C dx [])) (fun v H2=>v=.non∧Q x H2) E:=by
 subst ea eb ec ed ee;exact fun x dx h1 h2 h3=>⟨x,dx,_,_,_,_,_,rfl,af,rfl,Iy (fun x dx H2 n s e=>h x H2 s n ⟨dx,e⟩) h1 h2 h3⟩
def Hc(j:Qw.Job)(row col:Nat):Nat:=j.c+row*j.cs+4*col
def Jz(T:Tx K mg):Sp:=fun vs H Q _=>∃ x j,∃ row col kind:Nat,vs=[.ref x,.int (kind:Int)]∧kt T H x j row col∧row<1000∧col<1000∧Nq T.dP H ⟨kind,0,0,3,Hc j row col⟩ Q
theorem qa(T:Tx K mg):bg P w K mg base 3 "move_of_c" ["block","kind"] (Jz T):=by
 refine bg.of ["place"] T.Bl fun sc H Q E hr h=>?_
 obtain⟨x,j,row,col,kind,rfl,⟨dx,jx,hx,⟨dj,a,b,c,hj,ma,mb,mc⟩⟩,hr1,hc1,k⟩:=h;obtain⟨⟨dmc,hmc⟩,_⟩:=id mc;refine⟨_,(ab (sS 2 sc.nd (aq bn (dv (T.bb) (cj T) hr.m (ah (T.aR) (T.iz) (ah (T.bZ) (T.fX) (pv 0))) (aa (ah (T.bZ) (T.mU) (pv 0)) ae)) (aq bq aj (ah (T.bZ) (T.iY) (pv 0))))) (bu (fU (cT T) hr.m (aa (pv 1) (aa (am T.vM) (aa (am T.jP) (aa (am T.vP) (aa (pv 2) ae)))))))),?_⟩;walk_at "rd";refine ag hx rfl (ag hj rfl (aT hmc rfl (ag hx rfl ⟨c,_,_,_,_,row,rfl,mc,by lia,ag hx rfl ?_⟩)))
 walk_at "rd";refine⟨fz.nat (a:=4) (by decide) (by lia),?_⟩
 refine iq (s:=⟨kind,0,0,3,Hc j row col⟩) rfl rfl rfl rfl ?_ fun p H' s n st=>k p H' s n st
 unfold Hc;rw[show ((j.c+row*j.cs:Nat):Int)+4*(col:Int)=((j.c+row*j.cs+4*col:Nat):Int) by lia]
def wq(j:Qw.Job)(row col turn ta tb:Nat):List Qw.Step:=[⟨4,ta,0,1,j.a+row*j.as_+64*turn⟩,⟨4,tb,0,2,j.b+16*turn*j.bs+4*col⟩,⟨6+j.kind,0,ta,tb,0⟩]
def Mv(T:Tx K mg):Sp:=fun vs H Q _=>∃ x j,∃ row col turn ta tb:Nat,vs=[.ref x,.int (turn:Int),.int (ta:Int),.int (tb:Int)]∧kt T H x j row col∧row<1000∧col<1000∧turn<1000∧J1 T.dP H (wq j row col turn ta tb) Q
theorem qc(T:Tx K mg):bg P w K mg base 3 "dot_steps" ["block","turn","a_tile","b_tile"] (Mv T):=by
 refine bg.of ["job","first"] T.Bo fun sc H Q E hr h=>?_
 obtain⟨x,j,row,col,turn,ta,tb,rfl,⟨dx,jx,hx,⟨dj,a,b,c,hj,ma,mb,mc⟩⟩,hr1,hc1,ht1,k⟩:=h;obtain⟨⟨dma,hma⟩,_⟩:=id ma;obtain⟨⟨dmb,hmb⟩,_⟩:=id mb;refine⟨_,(ab (sS 4 sc.nd (ah (T.bZ) (T.fX) (pv 0))) (ab (sS 5 sc.nd (aq bq (am T.dB) (pv 1))) (bu (aJ (aa (fU (cT T) hr.m (aa (am T.zq) (aa (pv 2) (aa (am T.jP) (aa (am T.vR) (aa (aq bn (dv (T.bb) (cj T) hr.m (ah (T.aR) (T.nP) (pv 4)) (aa (ah (T.bZ) (T.mU) (pv 0)) ae)) (aq bq aj (pv 5))) ae)))))) (aa (fU (cT T) hr.m (aa (am T.zq) (aa (pv 3) (aa (am T.jP) (aa (am T.vQ) (aa (aq bn (dv (T.bb) (cj T) hr.m (ah (T.aR) (T.nN) (pv 4)) (aa (pv 5) ae)) (aq bq aj (ah (T.bZ) (T.iY) (pv 0)))) ae)))))) (aa (fU (cT T) hr.m (aa (aq bn (am T.mZ) (ah (T.aR) (T.gM) (pv 4))) (aa (am T.vM) (aa (pv 2) (aa (pv 3) (aa aj ae)))))) ae))))))),?_⟩;walk_at "rd";refine ag hx rfl ?_
 rw[show (16:Int)*(turn:Int)=((16*turn:Nat):Int) by lia]
 refine⟨fz.nat (a:=16) (by decide) (by lia),?_⟩
 refine ag hj rfl (aT hma rfl (ag hx rfl ⟨a,_,_,_,_,row,rfl,ma,by lia,?_⟩))
 walk_at "rd";refine⟨fz.nat (a:=4) (by decide) (by lia),iq (s:=⟨4,ta,0,1,j.a+row*j.as_+64*turn⟩) rfl rfl rfl rfl (by rw[show ((j.a+row*j.as_:Nat):Int)+4*((16*turn:Nat):Int)=((j.a+row*j.as_+64*turn:Nat):Int) by lia]) fun p1 H1 s1 n1 HA=>?_⟩
 refine ag (s1 _ _ hj) rfl (aT (s1 _ _ hmb) rfl ⟨b,_,_,_,_,16*turn,rfl,mb.same s1,by lia,ag (s1 _ _ hx) rfl ?_⟩)
 walk_at "rd";refine⟨fz.nat (a:=4) (by decide) (by lia),iq (s:=⟨4,tb,0,2,j.b+16*turn*j.bs+4*col⟩) rfl rfl rfl rfl (by rw[show ((j.b+16*turn*j.bs:Nat):Int)+4*(col:Int)=((j.b+16*turn*j.bs+4*col:Nat):Int) by lia]) fun p2 H2 s2 n2 FH=>?_⟩
 have s12:=s1.trans s2;refine ag (s12 _ _ hj) rfl ?_
 walk_at "rd";refine iq (s:=⟨6+j.kind,0,ta,tb,0⟩) (by rw[show (6:Int)+(j.kind:Int)=((6+j.kind:Nat):Int) by lia]) rfl rfl rfl rfl fun p3 H3 s3 n3 FV=>?_
 have s13:=s12.trans s3;refine⟨by decide,fun p np=>k p [p1,p2,p3] _ (s13.trans (ai.new np)) (s13.free np) (fun c hc=>?_) af ?_⟩
 ·rcases mem_cons.1 hc with rfl | hc
  ·exact n1
  rcases mem_cons.1 hc with rfl | hc
  ·exact s1.free n2
  ·rw[mem_singleton.1 hc];exact s12.free n3
 ·have sp:=ai.new (o:=.lst [V.ref p1,V.ref p2,V.ref p3]) np;exact (ia.one (((HA.same s2).same s3).same sp)).append ((ia.one ((FH.same s3).same sp)).append (ia.one (FV.same sp)))
def z8(C:Addr)(H H':Hp)(D:Addr)(ss:List Qw.Step):Prop:=∃ as:List Addr,H' D=some (.lst (as.map V.ref))∧ai H H'∧(∀ a∈as,H a=none)∧ia C H' as ss
theorem z8.same(h:z8 C H H1 D ss)(s:ai H1 H2):z8 C H H2 D ss:=let ⟨as,h1,h2,h3,h4⟩:=h;⟨as,s _ _ h1,h2.trans s,h3,h4.same s⟩
theorem z8.put(h1:H1 D=some (.lst (as.map V.ref)))(s1:ai H H1)(n1:∀ a∈as,H a=none)(l1:ia C H1 as ss)(hD:H D=none)(s2:ai H1 H2)(nb:∀ b∈bs,H1 b=none)(l2:ia C H2 bs tt) :
  z8 C H (upd H2 D (.lst (as.map V.ref++bs.map V.ref))) D (ss++tt):=by
 have hD2:=s2 _ _ h1;have ext:xD D H2 (upd H2 D (.lst (as.map V.ref++bs.map V.ref))):=fun b o e nb=>by rw[ao nb];exact e
 refine⟨as++bs,by rw[af,map_append],fun b o e=>?_,fun a ha=>?_,((l1.same s2).append l2).ext hD2 ext⟩
 ·rw[ao (au e hD)];exact s2 _ _ (s1 _ _ e)
 ·rcases mem_append.1 ha with ha | ha
  ·exact n1 a ha
  ·exact s1.free (nb a ha)
theorem yO(h:z8 C H H1 D ss)(hD:H D=none)(s2:ai H1 H2)(nb:∀ b∈bs,H1 b=none)(hp:H2 p=some (.lst (bs.map V.ref)))(l2:ia C H2 bs tt)(hl:ss.length+tt.length≤100000)(k:∀ H3,z8 C H H3 D (ss++tt)→Q .non H3):ua (.ref D) [.ref p] H2 Q:=by
 obtain⟨as,h1,s1,n1,l1⟩:=h;refine uW (s2 _ _ h1) hp ?_ (k _ (z8.put h1 s1 n1 l1 hD s2 nb l2));rw[length_map,length_map,l1.1,l2.1];exact Nat.le_trans hl (by decide)
theorem DI(h:z8 C H H1 D ss)(hD:H D=none)(s2:ai H1 H2)(np:H1 p=none)(l2:dX C H2 p t)(hl:ss.length≤100000)(k:∀ H3,z8 C H H3 D (ss++[t])→Q .non H3):pY (.ref D) [.ref p] H2 Q:=by
 obtain⟨as,h1,s1,n1,l1⟩:=h;refine mC (s2 _ _ h1) ?_ (k _ (z8.put (bs:=[p]) h1 s1 n1 l1 hD s2 (fun b hb=>by rw[mem_singleton.1 hb];exact np) (ia.one l2)))
 rw[length_map,l1.1];exact sz (by lia)
def MC(T:Tx K mg):Sp:=fun vs H Q _=>∃ x,∃ (j:Qw.Job) (row col number:Nat),vs=[.ref x,.int (number:Int)]∧kt T H x j row col∧row<1000∧col<1000∧dJ j∧J1 T.dP H (j.block row col number) Q
def jy(j:Qw.Job)(row col n:Nat):List Qw.Step:=(List.range n).flatMap fun b=>wq j row col b 1 2
theorem gA(j:Qw.Job)(row col:Nat):∀ n,(jy j row col n).length=3*n
 | 0=>rfl
 | n+1=>by
  have e:jy j row col (n+1)=jy j row col n++wq j row col n 1 2:=gP _ _;rw[e,length_append,gA j row col n];rfl
theorem BD(j:Qw.Job)(row col number:Nat):j.block row col number=[⟨1,0,0,0,number⟩,⟨4,0,0,3,Hc j row col⟩]++jy j row col (QM.jd j / 16)++(if QM.jd j % 16=0 then [] else wq j row col (QM.jd j / 16) 3 4)++[⟨5,0,0,3,Hc j row col⟩]:=by
 unfold Qw.Job.block jy wq Hc;rw[nR];simp only[append_assoc]
theorem vk(T:Tx K mg):bg P w K mg base 4 "block_steps" ["block","number"] (MC T):=by
 refine bg.of ["steps","whole","turn"] T.xo fun sc H Q E hr h=>?_
 obtain⟨x,j,row,col,number,rfl,hb,hr1,hc1,hs,k⟩:=h;obtain⟨dx,jx,hx,⟨dj,a,b,c,hj,_⟩⟩:=id hb;have hd2:=hs.d2;rw[BD] at k;refine⟨_,(ab (sS 2 sc.nd (aJ (aa (fU (cT T) hr.m (aa (am T.uh) (aa aj (aa aj (aa aj (aa (pv 1) ae)))))) (aa (aA (qa T) hr.m (aa (pv 0) (aa (am T.zq) ae))) ae)))) (ab (sS 3 sc.nd (aq gd (ah (T.aR) (T.dN) (ah (T.bZ) (T.fX) (pv 0))) (am T.dB))) (ab (dS PassesOwn.never rfl (gL rfl T.dW (aa (pv 3) ae)) (gN 4 sc.nd) (aB (bQ (Lo (pv 2) (aa (aA (qc T) hr.m (aa (pv 0) (aa (pv 4) (aa (am T.ym) (aa (am T.yk) ae))))) ae))))) (ab (aU (gq il (aq eR (ah (T.aR) (T.dN) (ah (T.bZ) (T.fX) (pv 0))) (am T.dB)) aj) (aB (bQ (Lo (pv 2) (aa (aA (qc T) hr.m (aa (pv 0) (aa (pv 3) (aa (am T.A9) (aa (am T.A8) ae))))) ae)))) aF) (ab (bQ (JW (pv 2) (aa (aA (qa T) hr.m (aa (pv 0) (aa (am T.zn) ae))) ae))) (bu (pv 2))))))),?_⟩;walk_at "rd";refine iq (s:=⟨1,0,0,0,number⟩) rfl rfl rfl rfl rfl fun p1 H1 s1 n1 HA=>?_
 refine⟨x,j,row,col,4,rfl,hb.same s1,hr1,hc1,fun p2 H2 s2 n2 FH=>⟨by decide,fun D nD=>?_⟩⟩
 have s12:=s1.trans s2;have hD:=s12.free nD;have sn:=ai.new (o:=.lst [V.ref p1,V.ref p2]) nD;have hst:z8 T.dP H (upd H2 D (.lst [V.ref p1,V.ref p2])) D [⟨1,0,0,0,number⟩,⟨4,0,0,3,Hc j row col⟩]:=⟨[p1,p2],af,s12.trans sn,fun c hc=>by
  rcases mem_cons.1 hc with rfl | hc
  ·exact n1
  ·rw[mem_singleton.1 hc];exact s1.free n2,(ia.one ((HA.same s2).same sn)).append (ia.one (FH.same sn))⟩
 have s3:=s12.trans sn;generalize upd H2 D (.lst [V.ref p1,V.ref p2])=H3 at *;refine ag (s3 _ _ hx) rfl (ag (s3 _ _ hj) rfl ?_);walk_at "rd";rw[show (QM.jd j:Int) / 16=((QM.jd j / 16:Nat):Int) by lia]
 refine⟨⟨by decide,by decide⟩,by lia,by lia,?_⟩
 rw[Int.toNat_natCast];refine IQ (fun i σ H'=>∃ v4,σ=[some (.ref x),some (.int (number:Int)),some (.ref D),some (.int ((QM.jd j / 16:Nat):Int)),v4]∧z8 T.dP H H' D ([⟨1,0,0,0,number⟩,⟨4,0,0,3,Hc j row col⟩]++jy j row col i)) ⟨_,rfl,by simpa[jy] using hst⟩ ?_ ?_
 ·rintro i σ H4 hi ⟨v4,rfl,FG⟩
  obtain⟨as4,e4,s4,n4,l4⟩:=id FG;walk_at "rd";refine⟨eU e4,x,j,row,col,i,1,2,by rw[Int.zero_add];rfl,hb.same s4,hr1,hc1,by lia,fun q bs H5 s5 nq nbs eq l5=>?_⟩
  refine yO FG hD s5 nbs eq l5 (by rw[length_append,gA];show 2+_+3≤_;lia) fun H6 EC=>?_
  have e:jy j row col (i+1)=jy j row col i++wq j row col i 1 2:=gP _ _;rw[e];exact EC
 ·rintro σ H4 ⟨v4,rfl,FG⟩
  obtain⟨as4,e4,s4,n4,l4⟩:=id FG;walk_at "rd";refine ag (s4 _ _ hx) rfl (ag (s4 _ _ hj) rfl ?_);walk_at "rd";refine⟨by decide,?_⟩
  have last:∀ (ss:List Qw.Step) (H5:Hp),z8 T.dP H H5 D ss→ss.length≤1000→ss++[⟨5,0,0,3,Hc j row col⟩]=[⟨1,0,0,0,number⟩,⟨4,0,0,3,Hc j row col⟩]++jy j row col (QM.jd j / 16)++(if QM.jd j % 16=0 then [] else wq j row col (QM.jd j / 16) 3 4)++[⟨5,0,0,3,Hc j row col⟩] →
    J2 K "list" (.ref D) H5∧Jz T [.ref x,.int 5] H5 (fun x_1 H1=>pY (.ref D) [x_1] H1 fun x H1=>Q (.ref D) H1) E0:=fun ss H5 FF hl5 e5=>by
   obtain⟨as5,d5,s5,n5,l5⟩:=id FF;refine⟨eU d5,x,j,row,col,5,rfl,hb.same s5,hr1,hc1,fun q H6 s6 nq EC=>DI FF hD s6 nq EC (by lia) fun H7 FE=>?_⟩
   obtain⟨as7,d7,s7,n7,l7⟩:=FE;rw[e5] at l7;exact k D as7 H7 s7 hD n7 d7 l7
  refine aN (fun e=>?_) fun e=>?_
  ·refine⟨eU e4,x,j,row,col,QM.jd j / 16,3,4,rfl,hb.same s4,hr1,hc1,by lia,fun q bs H5 s5 nq nbs eq l5=>?_⟩
   refine yO FG hD s5 nbs eq l5 (by rw[length_append,gA];show 2+_+3≤_;lia) fun H6 EC=>?_
   refine last _ H6 EC (by rw[length_append,length_append,gA];show 2+_+3≤_;lia) ?_
   rw[if_neg (by lia)]
  ·refine last _ H4 FG (by rw[length_append,gA];show 2+_≤_;lia) ?_
   rw[if_pos (by lia),append_nil]
def NV(H H':Hp)(D:Addr)(zs:List (Nat×Nat)):Prop:=∃ as:List Addr,H' D=some (.lst (as.map V.ref))∧ai H H'∧as.length=zs.length∧∀ (i:Nat) (a:Addr) (z:Nat×Nat),as[i]?=some a→zs[i]?=some z→H' a=some (.tup [.int (z.1:Int),.int (z.2:Int)])
theorem iM(h:NV H H1 D zs)(hD:H D=none)(hi:i<zs.length)(ek:k=(i:Int))(nt:H1 t=none)(kk:∀ H3,NV H H3 D (zs.set i (x,y))→Q H3):Au (.ref D) (.int k) (.ref t) (upd H1 t (.tup [.int (x:Int),.int (y:Int)])) Q:=by
 obtain⟨as,h1,s1,l1,e1⟩:=h;have s2:=ai.new (o:=.tup [.int (x:Int),.int (y:Int)]) nt;have et:(upd H1 t (.tup [.int (x:Int),.int (y:Int)])) t=some (.tup [.int (x:Int),.int (y:Int)]):=af;generalize upd H1 t (.tup [.int (x:Int),.int (y:Int)])=H2 at *;have hD2:=s2 _ _ h1;refine jH (j:=i) hD2 ek (by rw[length_map];lia) (kk _ ⟨as.set i t,by rw[af,map_set],fun b o e=>?_,by rw[length_set,length_set];exact l1,fun n a z h1 h2=>?_⟩)
 ·rw[ao (au e hD)];exact s2 _ _ (s1 _ _ e)
 ·by_cases en:n=i
  ·subst en;rw[getElem?_set_self (by lia)] at h1
   rw[getElem?_set_self hi] at h2;obtain rfl:=Option.some.inj h1;obtain rfl:=Option.some.inj h2;rw[ao (mT et hD2 (fun z=>nomatch z))];exact et
  ·rw[getElem?_set_ne (Ne.symm en)] at h1 h2
   have:=s2 _ _ (e1 n a z h1 h2)
   rw[ao (mT this hD2 (fun z=>nomatch z))];exact this
def nX(j:Qw.Job)(row col:Nat):List (Nat×Nat) :=
 let W:=4*min 16 (j.n - col)
 let h:=min 16 (j.m - row)
 let d:=QM.jd j
 let z1:=(List.replicate 8 (0,0)).set 0 (W,h)
 let z2:=if 16≤d then (z1.set 1 (64,h)).set 2 (W,16) else z1
 if d % 16≠0 then (z2.set 3 (4*(d % 16),h)).set 4 (W,d % 16) else z2
theorem FS(j:Qw.Job)(row col:Nat):(0::((nX j row col).map (·.1)++(nX j row col).map (·.2)))=(j.shape (min 16 (j.m - row)) (min 16 (j.n - col))).nums:=by
 unfold nX Qw.Job.shape Qw.Shape.nums;rw[nR];dsimp only;generalize QM.jd j=d;generalize min 16 (j.m - row)=h;generalize min 16 (j.n - col)=ww
 by_cases h1:16≤d
 ·have hf:¬ d / 16=0:=by lia
  rw[if_pos h1]
  by_cases h2:d % 16=0
  ·rw[if_neg (fun z=>z h2)]
   simp only[hf,h2,if_true,if_false];rfl
  ·rw[if_pos h2];simp only[hf,h2,if_false];rfl
 ·have hf:d / 16=0:=by lia
  rw[if_neg h1]
  by_cases h2:d % 16=0
  ·rw[if_neg (fun z=>z h2)]
   simp only[hf,h2,if_true,if_false];rfl
  ·rw[if_pos h2];simp only[hf,h2,if_true,if_false];rfl
def MB(T:Tx K mg):Sp:=fun vs H Q _=>∃ x j,∃ row col:Nat,vs=[.ref x]∧kt T H x j row col∧∀ p H',H p=none→NV H H' p (nX j row col)→Q (.ref p) H'
theorem vm(T:Tx K mg):bg P w K mg base 1 "block_sizes" ["block"] (MB T):=by
 refine bg.of ["depth","left","sizes"] T.xp fun sc H Q E hr h=>?_
 obtain⟨x,j,row,col,rfl,⟨dx,jx,hx,⟨dj,a,b,c,hj,_⟩⟩,k⟩:=h;unfold nX at k;dsimp only at k;refine⟨_,(ab (sS 1 sc.nd (ah (T.aR) (T.dN) (ah (T.bZ) (T.fX) (pv 0)))) (ab (sS 2 sc.nd (aq eR (pv 1) (am T.dB))) (ab (sS 3 sc.nd (aq mL (aJ (aa (jJ (aa aj (aa aj ae))) ae)) (am T.ug))) (ab (fK (jJ (aa (ah (T.bZ) (T.gV) (pv 0)) (aa (ah (T.bZ) (T.gn) (pv 0)) ae))) (fL (pv 3) (am T.vM) cW)) (ab (aU (gq AB (pv 1) (am T.dB)) (ab (fK (jJ (aa (aq bq aj (am T.dB)) (aa (ah (T.bZ) (T.gn) (pv 0)) ae))) (fL (pv 3) (am T.ym) cW)) (aB (fK (jJ (aa (ah (T.bZ) (T.gV) (pv 0)) (aa (am T.dB) ae))) (fL (pv 3) (am T.yk) cW)))) aF) (ab (aU (gq il (pv 2) aj) (ab (fK (jJ (aa (aq bq aj (pv 2)) (aa (ah (T.bZ) (T.gn) (pv 0)) ae))) (fL (pv 3) (am T.A9) cW)) (aB (fK (jJ (aa (ah (T.bZ) (T.gV) (pv 0)) (aa (pv 2) ae))) (fL (pv 3) (am T.A8) cW)))) aF) (bu (pv 3)))))))),?_⟩;walk_at "rd";refine ag hx rfl (ag hj rfl ?_);walk_at "rd";rw[show (QM.jd j:Int) % 16=((QM.jd j % 16:Nat):Int) by lia]
 refine⟨by decide,by decide,fun t0 n0=>⟨by decide,fun p0 np0=>mB (n:=8) af rfl (by decide) fun D nD=>?_⟩⟩
 have s1:=ai.new (o:=.tup [V.int 0,V.int 0]) n0;have s2:=s1.trans (ai.new (o:=.lst [V.ref t0]) np0);have hD:=s2.free nD;have sD:=s2.trans (ai.new (o:=.lst (List.replicate 8 (V.ref t0))) nD);have z0:NV H (upd (upd (upd H t0 (.tup [V.int 0,V.int 0])) p0 (.lst [V.ref t0])) D (.lst (List.replicate 8 (V.ref t0)))) D (List.replicate 8 (0,0)):=by
  have et0:(upd (upd (upd H t0 (.tup [V.int 0,V.int 0])) p0 (.lst [V.ref t0])) D (.lst (List.replicate 8 (V.ref t0)))) t0=some (.tup [V.int 0,V.int 0]):=ai.new nD _ _ (ai.new np0 _ _ af);refine⟨List.replicate 8 t0,by rw[af,map_replicate],sD,by simp,fun i a z h1 h2=>?_⟩
  have ha:=eq_of_mem_replicate (mem_of_getElem? h1);have hz:=eq_of_mem_replicate (mem_of_getElem? h2);rw[ha,hz];exact et0
 generalize upd (upd (upd H t0 (.tup [V.int 0,V.int 0])) p0 (.lst [V.ref t0])) D (.lst (List.replicate 8 (V.ref t0)))=H1 at *;refine ag (sD _ _ hx) rfl (ag (sD _ _ hx) rfl ⟨by decide,fun t1 n1=>iM (i:=0) z0 hD (by simp) rfl n1 fun H2 z2=>?_⟩)
 refine aN (fun e1=>?_) fun e1=>?_
 ·rw[if_pos (show 16≤QM.jd j by lia)] at k
  obtain⟨_,_,s3,_⟩:=id z2;refine⟨⟨by decide,by decide⟩,ag (s3 _ _ hx) rfl ⟨by decide,fun t2 n2=>iM (i:=1) z2 hD (by simp) rfl n2 fun H3 z3=>?_⟩⟩
  obtain⟨_,_,s4,_⟩:=id z3;refine ag (s4 _ _ hx) rfl ⟨by decide,fun t5 n5=>iM (i:=2) z3 hD (by simp) rfl n5 fun H4 Z=>?_⟩
  refine aN (fun e2=>?_) fun e2=>?_
  ·rw[if_pos (show QM.jd j % 16≠0 by lia)] at k
   obtain⟨_,_,s3,_⟩:=id Z;refine⟨fz.nat (a:=4) (by decide) (by lia),ag (s3 _ _ hx) rfl ⟨by decide,fun t3 n3=>?_⟩⟩
   rw[show (4:Int)*((QM.jd j % 16:Nat):Int)=((4*(QM.jd j % 16):Nat):Int) by lia]
   refine iM (i:=3) Z hD (by simp) rfl n3 fun H6 z6=>?_
   obtain⟨_,_,s6,_⟩:=id z6;refine ag (s6 _ _ hx) rfl ⟨by decide,fun t4 n4=>iM (i:=4) z6 hD (by simp) rfl n4 fun H7 z7=>k D H7 hD z7⟩
  ·rw[if_neg (show ¬ QM.jd j % 16≠0 by lia)] at k
   exact k D _ hD Z
 ·rw[if_neg (show ¬ 16≤QM.jd j by lia)] at k
  have Z:=z2;refine aN (fun e2=>?_) fun e2=>?_
  ·rw[if_pos (show QM.jd j % 16≠0 by lia)] at k
   obtain⟨_,_,s3,_⟩:=id Z;refine⟨fz.nat (a:=4) (by decide) (by lia),ag (s3 _ _ hx) rfl ⟨by decide,fun t3 n3=>?_⟩⟩
   rw[show (4:Int)*((QM.jd j % 16:Nat):Int)=((4*(QM.jd j % 16):Nat):Int) by lia]
   refine iM (i:=3) Z hD (by simp) rfl n3 fun H6 z6=>?_
   obtain⟨_,_,s6,_⟩:=id z6;refine ag (s6 _ _ hx) rfl ⟨by decide,fun t4 n4=>iM (i:=4) z6 hD (by simp) rfl n4 fun H7 z7=>k D H7 hD z7⟩
  ·rw[if_neg (show ¬ QM.jd j % 16≠0 by lia)] at k
   exact k D _ hD Z
theorem HV{a:Addr}{xs:List V}{v:V}{z:Int}{i:Nat}{H:Hp}{Q:VK}(h:H a=some (.tup xs))(ez:z=(i:Int))(hi:xs[i]?=some v)(q:Q v H):EN K (.ref a) (.int z) H Q:=⟨a,xs,z,v,rfl,rfl,lP.of h,Eo ez hi,q⟩
def MD(T:Tx K mg):Sp:=fun vs H Q _=>∃ x,∃ (j:Qw.Job) (row col:Nat),vs=[.ref x]∧kt T H x j row col∧jU H (QM.nI (j.shape (min 16 (j.m - row)) (min 16 (j.n - col))).nums) Q
theorem lU(j:Qw.Job)(row col:Nat):(nX j row col).length=8:=by
 unfold nX;dsimp only
 split<;>(split<;>simp)
theorem vn(T:Tx K mg):bg P w K mg base 2 "block_shape" ["block"] (MD T):=by
 refine bg.of ["sizes","size"] T.xq fun sc H Q E hr h=>?_
 obtain⟨x,j,row,col,rfl,hb,k⟩:=h;rw[←FS] at k;refine⟨_,(ab (sS 1 sc.nd (aA (vm T) hr.m (aa (pv 0) ae))) (bu (aq jL (aq jL (aJ (aa aj ae)) (dM (own:=[("size",2)]) rfl sc.nd (bT (K:=K) (pv 1)) (aY (N:=["block","sizes","size"]) (sc:=aC gQ) (by decide +kernel)) (fun _ _ _ _ _=>(gN 2 sc.nd)) (fun _ _ _ _ _=>(bE)) (fun _ _ _ _ _=>(xT K (pv 2) aj)))) (dM (own:=[("size",2)]) rfl sc.nd (bT (K:=K) (pv 1)) (aY (N:=["block","sizes","size"]) (sc:=aC gQ) (by decide +kernel)) (fun _ _ _ _ _=>(gN 2 sc.nd)) (fun _ _ _ _ _=>(bE)) (fun _ _ _ _ _=>(xT K (pv 2) aj)))))),?_⟩
 walk_at "rd";refine⟨x,j,row,col,rfl,hb,fun p H1 np hz=>?_⟩
 obtain⟨as,e1,s1,l1,t1⟩:=hz;rw[lU] at l1;have hg:∀ i,i<8→∃ a z,as[i]?=some a∧(nX j row col)[i]?=some z∧H1 a=some (.tup [.int (z.1:Int),.int (z.2:Int)]):=fun i hi=>by
  have h1:as[i]?=some (as[i]'(by lia)):=getElem?_eq_getElem _
  have h2:(nX j row col)[i]?=some ((nX j row col)[i]'(by rw[lU];exact hi)):=getElem?_eq_getElem _
  exact⟨_,_,h1,h2,t1 i _ _ h1 h2⟩
 have comp:∀ (g:Nat×Nat→Nat) (n:Nat) (H2:Hp) (D:Addr) (Qd:Hp→Prop),(∀ z:Nat×Nat,[V.int (z.1:Int),V.int (z.2:Int)][n]?=some (.int ((g z:Nat):Int)))→ai H1 H2→H2 D=none→(∀ H3,H3 D=some (.lst (iv (QM.nI ((nX j row col).map g))))→ai H2 H3→Qd H3) →
   BZ (FJ K p) (db 2) (Hm (EN K) (EA 2) (tC (V.int (n:Int)))) [2] [some (V.ref x),some (V.ref p),none] H2 D Qd:=fun g n H2 D Qd hgn s2 hD dO=>by
  refine iZ (xs:=as.map V.ref) (fun i=>.int ((g ((nX j row col).getD i (0,0)):Nat):Int)) hD (aL.of (s2 _ _ e1)) (by rw[length_map,l1];decide) (fun i y H3 Kt hi s3 hk=>?_) fun H3 h3 s3=>dO H3 ?_ s3
  ·obtain⟨a,ha,rfl⟩:=bR hi;have hi8:i<8:=by rw[←l1];exact (List.getElem?_eq_some_iff.mp ha).1
   obtain⟨a',z,h1,h2,h3⟩:=hg i hi8;rw[ha] at h1;obtain rfl:=Option.some.inj h1;have ez:(nX j row col).getD i (0,0)=z:=by rw[getD_eq_getElem?_getD,h2];rfl
   rw[ez] at hk;walk_at "rd";exact HV ((s2.trans s3) _ _ h3) rfl (hgn z) (hk _ ai.refl)
  ·rw[h3,length_map,l1];refine congrArg (fun z=>some (HO.lst z)) ?_
   apply ext_getElem (by simp[iv,QM.nI,lU])
   intro i q1 q2;have hi8:i<(nX j row col).length:=by rw[lU];simpa using q1
   simp only[iv,QM.nI,getElem_map,getElem_range];rw[getD_eq_getElem?_getD,getElem?_eq_getElem hi8];rfl
 refine⟨by decide,fun p1 np1=>⟨p,rfl,⟨_,aL.of (ai.new np1 _ _ e1)⟩,fun D hD=>?_⟩⟩
 have s2:=ai.new (o:=.lst [V.int 0]) np1;have ep1:(upd H1 p1 (.lst [V.int 0])) p1=some (.lst [V.int 0]):=af;generalize upd H1 p1 (.lst [V.int 0])=H2 at *;refine comp (·.1) 0 H2 D _ (fun z=>rfl) s2 hD fun H3 h3 s3=>?_
 have lm:∀ g:Nat×Nat→Nat,(iv (QM.nI ((nX j row col).map g))).length=8:=fun g=>by rw[aM,ak,length_map,lU]
 refine jI (s3 _ _ ep1) h3 (by rw[lm];show 1+8≤sizeLine;decide) fun q nq=>?_
 have s4:=ai.new (o:=.lst ([V.int 0]++iv (QM.nI ((nX j row col).map (·.1))))) nq;have s14:=(s2.trans s3).trans s4;refine⟨p,rfl,⟨_,aL.of (s14 _ _ e1)⟩,fun D2 hD2=>comp (·.2) 1 _ D2 _ (fun z=>rfl) s14 hD2 fun H5 h5 s5=>?_⟩
 refine jI (s5 _ _ af) h5 (by rw[length_append,lm,lm];show 1+8+8≤sizeLine;decide) fun q2 nq2=>k q2 _ ((s1.trans s14).trans (s5.trans (ai.new nq2))) ((s1.trans s14).free (s5.free nq2)) ?_
 rw[af];simp[iv,QM.nI]
theorem yu(j:Qw.Job)(hs:dJ j)(row col number:Nat):(j.block row col number).length≤30:=by
 have:=hs.d2
 rw[BD,length_append,length_append,length_append,gA]
 split
 ·show 2+3*(QM.jd j / 16)+0+1≤30;lia
 ·show 2+3*(QM.jd j / 16)+3+1≤30;lia
def yS(j:Qw.Job)(i:Nat):List Qw.Step:=((bJ j).zipIdx.take i).flatMap fun z=>j.block z.1.1.1 z.1.2.1 z.2
theorem x4(j:Qw.Job){i:Nat}{z:(Nat×Nat)×(Nat×Nat)}(h:(bJ j)[i]?=some z):yS j (i+1)=yS j i++j.block z.1.1 z.2.1 i:=by
 unfold yS
 have:(bJ j).zipIdx[i]?=some (z,i):=by rw[List.getElem?_zipIdx,h];simp
 rw[take_add_one,this,flatMap_append];simp
theorem u5(j:Qw.Job)(hs:dJ j):∀ i,i≤(bJ j).length→(yS j i).length≤30*i
 | 0,_=>by simp[yS]
 | i+1,h=>by
  have e:(bJ j)[i]?=some ((bJ j)[i]'(by lia)):=getElem?_eq_getElem _
  rw[x4 j e,length_append]
  have:=u5 j hs i (by lia)
  have:=yu j hs ((bJ j)[i]'(by lia)).1.1 ((bJ j)[i]'(by lia)).2.1 i
  lia
theorem sO(j:Qw.Job)(hs:dJ j):(bJ j).length≤16:=by
 have h1:(bJ j).length=(kU j).length:=by unfold kU;rw[length_map]
 rw[h1,En,fN (fun b c=>(16*b,16*c)),length_map,length_range]
 have:=hs.m2
 have:=hs.n2
 exact Nat.le_trans (Nat.mul_le_mul (show (j.m+15) / 16≤4 by lia) (show (j.n+15) / 16≤4 by lia)) (by decide)
theorem wE(j:Qw.Job)(hs:dJ j){i:Nat}{z:(Nat×Nat)×(Nat×Nat)}(h:(bJ j)[i]?=some z):z.1.1<1000∧z.2.1<1000∧z.1.2=min 16 (j.m - z.1.1)∧z.2.2=min 16 (j.n - z.2.1):=by
 have hm:=mem_of_getElem? h;unfold bJ Qw.sixteens at hm;obtain⟨y,hy,hm⟩:=mem_flatMap.1 hm;obtain⟨x,hx,rfl⟩:=mem_map.1 hm;obtain⟨b,hb,rfl⟩:=mem_map.1 hy;obtain⟨c,hc,rfl⟩:=mem_map.1 hx
 have:=mem_range.1 hb
 have:=mem_range.1 hc
 have:=hs.m2
 have:=hs.n2
 exact⟨by show 16*b<1000;lia,by show 16*c<1000;lia,rfl,rfl⟩
def Kj(T:Tx K mg):Sp:=fun vs H Q _=>∃ jx,∃ j:Qw.Job,∃ r,vs=[.ref jx]∧je T H jx j∧dJ j∧Wf r H∧∀ r' H' p,ai H H'→kv r H r'→Wf r' H'→H p=none→dc T false r' H' p j.plan 0 0 (List.replicate 8 0) none→Q (.ref p) H'
theorem z8.steps{C:Addr}{r:Ro}{H H':Hp}{D:Addr}{ss:List Qw.Step}(h:z8 C H H' D ss)(hD:H D=none)(wf:Wf r H):nV C r H' D ss:=by
 obtain⟨as,h1,s,n,l⟩:=h
 exact⟨as,h1,wf D hD,l.1,fun i a t e1 e2=>⟨l.2 i a t e1 e2,wf a (n a (mem_of_getElem? e1))⟩⟩
theorem CC(T:Tx K mg):bg P w K mg base 5 "planned" ["job"] (Kj T):=by
 refine bg.of ["blocks","steps","number","block"] T.Ff fun sc H Q E hr h=>?_
 obtain⟨jx,j,r,rfl,hj,hs,wf,k⟩:=h;refine⟨_,(ab (sS 1 sc.nd (aA (zc T) hr.m (aa (pv 0) ae))) (ab (sS 2 sc.nd (aJ (aa (fU (cT T) hr.m (aa (am T.A4) (aa (am T.vR) (aa aj (aa aj (aa (ah (T.bb) (T.dn) (ah (T.aR) (T.nP) (pv 0))) ae)))))) (aa (fU (cT T) hr.m (aa (am T.A4) (aa (am T.vQ) (aa aj (aa aj (aa (ah (T.bb) (T.dn) (ah (T.aR) (T.nN) (pv 0))) ae)))))) (aa (fU (cT T) hr.m (aa (am T.A4) (aa (am T.vP) (aa aj (aa aj (aa (ah (T.bb) (T.dn) (ah (T.aR) (T.iz) (pv 0))) ae)))))) ae))))) (ab (dS PassesOwn.never rfl (Ay (K:=K) T.sX (aa (pv 1) ae)) (gc (K:=K) (n:=2) (bO (gN 3 sc.nd) (bO (gN 4 sc.nd) f9))) (aB (bQ (Lo (pv 2) (aa (aA (vk T) hr.m (aa (pv 4) (aa (pv 3) ae))) ae))))) (ab (bQ (JW (pv 2) (aa (fU (cT T) hr.m (aa (am T.JU) (aa aj (aa aj (aa aj (aa aj ae)))))) ae))) (bu (fU (iQ T) hr.m (aa (pv 2) (aa (dM (own:=[("block",4)]) rfl sc.nd (bT (K:=K) (pv 1)) (aY (N:=["job","blocks","steps","number","block"]) (sc:=aC qP) (by decide +kernel)) (fun _ _ _ _ _=>(gN 4 sc.nd)) (fun _ _ _ _ _=>(bE)) (fun _ _ _ _ _=>(aA (vn T) hr.m (aa (pv 4) ae)))) ae)))))))),?_⟩
 walk_at "rd";refine⟨jx,j,rfl,hj,hs,fun bl as H1 s1 nbl ebl lbl=>?_⟩
 have hj1:=hj.same s1;obtain⟨dj,a,b,c,hjj,ma,mb,mc⟩:=id hj1;obtain⟨⟨dma,hma⟩,_⟩:=id ma;obtain⟨⟨dmb,hmb⟩,_⟩:=id mb;obtain⟨⟨dmc,hmc⟩,_⟩:=id mc;have w1:=wf.same s1;refine ag hjj rfl (ag hma rfl (iq (s:=⟨11,1,0,0,j.as_⟩) rfl rfl rfl rfl rfl fun p1 H2 s2 n2 HA=>?_))
 refine ag (s2 _ _ hjj) rfl (ag (s2 _ _ hmb) rfl (iq (s:=⟨11,2,0,0,j.bs⟩) rfl rfl rfl rfl rfl fun p2 H3 s3 n3 FH=>?_))
 have pT:=s2.trans s3;refine ag (pT _ _ hjj) rfl (ag (pT _ _ hmc) rfl (iq (s:=⟨11,3,0,0,j.cs⟩) rfl rfl rfl rfl rfl fun p3 H4 s4 n4 FV=>⟨by decide,fun D nD=>?_⟩))
 have s24:=pT.trans s4;have hD:=s24.free nD;have sn:=ai.new (o:=.lst [V.ref p1,V.ref p2,V.ref p3]) nD;have hst:z8 T.dP H1 (upd H4 D (.lst [V.ref p1,V.ref p2,V.ref p3])) D [⟨11,1,0,0,j.as_⟩,⟨11,2,0,0,j.bs⟩,⟨11,3,0,0,j.cs⟩]:=⟨[p1,p2,p3],af,s24.trans sn,fun c hc=>by
  rcases mem_cons.1 hc with rfl | hc
  ·exact n2
  rcases mem_cons.1 hc with rfl | hc
  ·exact s2.free n3
  ·rw[mem_singleton.1 hc];exact pT.free n4,(ia.one (((HA.same s3).same s4).same sn)).append ((ia.one ((FH.same s4).same sn)).append (ia.one (FV.same sn)))⟩
 generalize upd H4 D (.lst [V.ref p1,V.ref p2,V.ref p3])=H5 at *;have hlen:as.length=(bJ j).length:=by rw[lbl.1];unfold kU;rw[length_map]
 have h16:=sO j hs;obtain⟨_,_,s5,_⟩:=id hst;refine⟨bl,rfl,_,aL.of (s5 _ _ ebl),?_⟩;refine Nf (xs:=as.map V.ref) (fun i σ H'=>∃ v3 v4,σ=[some (.ref jx),some (.ref bl),some (.ref D),v3,v4]∧z8 T.dP H1 H' D ([⟨11,1,0,0,j.as_⟩,⟨11,2,0,0,j.bs⟩,⟨11,3,0,0,j.cs⟩]++yS j i)) ⟨_,_,rfl,by simpa[yS] using hst⟩ (fun i σ H' ⟨_,_,_,_,_,s,_⟩=>aL.of (s _ _ ebl)) ?_ ?_
 ·rintro i y σ H6 H7 hi ⟨v3,v4,rfl,EC⟩ s7
  obtain⟨x,hx,rfl⟩:=bR hi;have hi2:i<(bJ j).length:=by rw[←hlen];exact (List.getElem?_eq_some_iff.mp hx).1
  have ez:(bJ j)[i]?=some ((bJ j)[i]):=getElem?_eq_getElem hi2;generalize (bJ j)[i]=z at ez;have hbp:(kU j)[i]?=some (z.1.1,z.2.1):=by unfold kU;rw[getElem?_map,ez];rfl
  have hbl:=lbl.2 i x _ hx hbp;obtain⟨hp1,hp2,_⟩:=wE j hs ez;have FE:=EC.same s7;obtain⟨as7,e7,s17,n7,l7⟩:=id FE;have hpl:=u5 j hs i (by lia)
  walk_at "rd";refine⟨eU e7,x,j,z.1.1,z.2.1,i,rfl,hbl.same s17,hp1,hp2,hs,fun q bs H8 s8 nq nbs eq l8=>?_⟩
  have hbl30:=yu j hs z.1.1 z.2.1 i;refine yO FE hD s8 nbs eq l8 (by rw[length_append];show 3+_+_≤_;lia) fun H9 L6=>?_
  rw[x4 j ez];exact L6
 ·rintro σ H6 ⟨v3,v4,rfl,EC⟩
  obtain⟨as6,e6,s16,n6,l6⟩:=id EC;rw[length_map,hlen] at EC;have hpl:=u5 j hs _ (Nat.le_refl _);walk_at "rd";refine⟨eU e6,iq (s:=⟨0,0,0,0,0⟩) rfl rfl rfl rfl rfl fun p7 H7 s7 n7 FE=>?_⟩
  refine DI EC hD s7 n7 FE (by rw[length_append];show 3+_≤_;lia) fun H8 NK=>?_
  obtain⟨as8,e8,s18,n8,l8⟩:=id NK;have s08:=s1.trans s18;refine⟨⟨_,aL.of (s18 _ _ ebl)⟩,fun D2 hD2=>?_⟩
  refine yf (xs:=as.map V.ref) (fun i=>QM.nI (j.shape (min 16 (j.m - ((kU j).getD i (0,0)).1)) (min 16 (j.n - ((kU j).getD i (0,0)).2))).nums) hD2 (aL.of (s18 _ _ ebl)) (by rw[length_map,hlen];exact sz (by lia)) (fun i y H9 Kt hi s9 hk=>?_) fun H9 cs n9 l9 e9 s9=>?_
  ·obtain⟨x,hx,rfl⟩:=bR hi;have hi2:i<(kU j).length:=by rw[←lbl.1];exact (List.getElem?_eq_some_iff.mp hx).1
   have ez:(kU j)[i]?=some ((kU j)[i]):=getElem?_eq_getElem hi2;have eg:(kU j).getD i (0,0)=(kU j)[i]:=by rw[getD_eq_getElem?_getD,ez];rfl
   rw[eg] at hk;walk_at "rd"
   exact⟨x,j,_,_,rfl,(lbl.2 i x _ hx ez).same (s18.trans s9),hk⟩
  ·have s09:=s08.trans s9;have w9:=wf.same s09;refine vw (pr:=j.plan) w9 ?_ ⟨cs,e9,wf D2 (s08.free hD2),?_,fun c hc=>wf c (s08.free (n9 c hc).1),fun sh hsh=>?_⟩ fun r' H' p s' ro' w' np po=>k r' H' p (s09.trans s') (fun c hc=>ro' c (by
     cases e:H c with
     | none=>exact absurd e hc
     | some o=>exact bB (s09 _ _ e))) w' (s09.free np) po
   ·have L6:=(NK.same s9).steps hD w1;have ep:j.plan.steps.toList=[⟨11,1,0,0,j.as_⟩,⟨11,2,0,0,j.bs⟩,⟨11,3,0,0,j.cs⟩]++yS j (bJ j).length++[⟨0,0,0,0,0⟩]:=by
     rw[ue];unfold yS;rw[take_of_length_le (by rw[List.length_zipIdx];exact Nat.le_refl _),append_assoc]
    rw[ep];exact L6
   ·have es:(j.plan.shapes.map fun s=>QM.nI s.nums)=(List.range (as.map V.ref).length).map fun i=>QM.nI (j.shape (min 16 (j.m - ((kU j).getD i (0,0)).1)) (min 16 (j.n - ((kU j).getD i (0,0)).2))).nums:=by
     rw[ue,map_map,length_map,hlen];apply ext_getElem (by simp)
     intro i q1 q2;have hi:i<(bJ j).length:=by simpa using q1
     have ez:(bJ j)[i]?=some ((bJ j)[i]):=getElem?_eq_getElem hi;obtain⟨_,_,g3,g4⟩:=wE j hs ez;have eb:(kU j).getD i (0,0)=((bJ j)[i].1.1,(bJ j)[i].2.1):=by
      unfold kU;rw[getD_eq_getElem?_getD,getElem?_map,ez];rfl
     simp only[getElem_map,getElem_range,Function.comp];rw[eb,←g3,←g4]
    rw[es];exact l9
   ·rw[ue] at hsh;obtain⟨z,_,rfl⟩:=mem_map.1 hsh
    exact⟨rfl,rfl⟩
def Mp(K:PySem.W.Frag):Sp:=fun vs H Q _=>∃ kind rows:Nat,∃ c a b,∃ cl al bl:List Int,vs=[.int (kind:Int),.int (rows:Int),.ref c,.ref a,.ref b]∧aL K H c (iv cl)∧aL K H a (iv al)∧aL K H b (iv bl) ∧
 Q (.bl (decide (¬ (4<kind∨rows=0∨16<rows∨cl.length≠16∨al.length≠4*rows∨bl.length≠64*rows)))) H
theorem wN(T:Tx K mg):bg P w K mg base 1 "is_row_dot" ["kind","rows","c","a","b"] (Mp K):=by
 refine bg.of [] T.zE fun sc H Q E hr h=>?_
 obtain⟨kind,rows,c,a,b,cl,al,bl,rfl,hc,ha,hb,k⟩:=h;refine⟨_,(ab (aU (PW.pt (g7 (gq mM (pv 0) (am T.fi)) (fJ (dF (Gh gz gz aj (pv 1) (am T.rn)))))) (bu j8) aF) (bu (kH (tU cI (tW K T.eB (aa (pv 2) ae)) (am T.wY)) (kH (tU cI (tW K T.eB (aa (pv 3) ae)) (aq bq aj (pv 1))) (jK (tU cI (tW K T.eB (aa (pv 4) ae)) (aq bq (am T.qo) (pv 1)))))))),?_⟩;walk_at "rd";refine aN (fun e=>by rw[decide_eq_false (by lia)] at k;exact k) fun e1=>?_
 refine aN (fun e2=>?_) fun e2=>by rw[decide_eq_false (by lia)] at k;exact k
 refine aN (fun e3=>by rw[decide_eq_false (by lia)] at k;exact k) fun e3=>?_
 refine cQ hc ?_
 walk_at "rd";rw[aM];refine aN (fun e4=>?_) fun e4=>by rw[decide_eq_false (by lia)] at k;exact k
 refine cQ ha ?_
 walk_at "rd";rw[aM];refine⟨fz.nat (a:=4) (by decide) (by lia),aN (fun e5=>?_) fun e5=>by rw[decide_eq_false (by lia)] at k;exact k⟩
 refine cQ hb ?_
 walk_at "rd";rw[aM];refine⟨fz.nat (a:=64) (by decide) (by lia),?_⟩
 rw[show decide ((bl.length:Int)=64*(rows:Int))=decide (¬ (4<kind∨rows=0∨16<rows∨cl.length≠16∨al.length≠4*rows∨bl.length≠64*rows)) from decide_eq_decide.2 (by lia)]
 exact k
structure OB(ws y:List Int)(zs:List (List Int)):Prop where
 wl:ws.length≤1000
 yb:y.length≤1000∧∀ v∈y,0≤v∧v<256
 y2:y.length % 2=0
 zb:∀ l∈zs,l.length≤1000∧∀ v∈l,0≤v∧v<256
 z4:∀ l∈zs,l.length=(zs.headD []).length∧l.length % 4=0
 z0:0<zs.length
 z16:zs.length≤16
def Ko(K:PySem.W.Frag):Sp:=fun vs H Q _=>∃ kind:Nat,∃ x y z,∃ (ws yl:List Int) (zs:List (List Int)),vs=[.int (kind:Int),.ref x,.ref y,.ref z]∧H x=some (.lst (iv ws))∧H y=some (.lst (iv yl))∧Aa H z zs∧OB ws yl zs ∧
 (fw kind ws yl zs=none→nv H .non Q)∧∀ l,fw kind ws yl zs=some l→jU H l Q
theorem LL.one(h:H a=some (.lst (iv l))):LL H [a] [l]:=⟨rfl,fun i b t e1 e2=>by
 match i,e1,e2 with
 | 0,e1,e2=>obtain rfl:=Option.some.inj e1;obtain rfl:=Option.some.inj e2;exact h
 | i+1,e1,e2=>simp at e1⟩
theorem vi(T:Tx K mg):bg P w K mg base 6 "dot_row" ["kind","words","y_row","z_rows"] (Ko K):=by
 refine bg.of [] T.Fk fun sc H Q E hr h=>?_
 obtain⟨kind,x,y,z,ws,yl,zs,rfl,hx,hy,hz,hc,k1,k2⟩:=h;have pin:LG [ws] [yl] zs:=⟨fun l hl=>by
  rcases mem_append.1 hl with hl | hl
  ·rw[mem_singleton.1 hl];exact⟨hc.y2,by have:=hc.yb.1;lia,nk hc.yb.2⟩
  ·exact⟨by have:=(hc.z4 l hl).2;lia,by have:=(hc.zb l hl).1;lia,nk (hc.zb l hl).2⟩,fun l hl=>by rw[mem_singleton.1 hl];have:=hc.wl;lia,by show 1≤1000;decide,by have:=hc.z16;show 1+_≤1000;lia⟩
 have din:BU [ws] [yl] zs:=⟨fun l hl=>by rw[mem_singleton.1 hl];exact hc.yb,hc.zb,by show 1≤1000;decide,by have:=hc.z16;lia,hc.z0,by show 1≤1000;decide,fun l hl=>by rw[mem_singleton.1 hl];exact hc.wl⟩
 unfold fw at k1 k2;refine⟨_,(ab (aU (dF (cf (aA (lp T) hr.m (aa (pv 0) (aa (aJ (aa (pv 1) ae)) (aa (aJ (aa (pv 2) ae)) (aa (pv 3) ae))))))) (bu cH) aF) (bu (xL K (aA (Gx T) hr.m (aa (pv 0) (aa (aJ (aa (pv 1) ae)) (aa (aJ (aa (pv 2) ae)) (aa (pv 3) ae))))) aj))),?_⟩;walk_at "rd";refine⟨by decide,fun p1 n1=>⟨by decide,fun p2 n2=>?_⟩⟩
 have s1:=ai.new (o:=.lst [V.ref x]) n1;have s2:=s1.trans (ai.new (o:=.lst [V.ref y]) n2);have two:∀ {H0:Hp}{q1 q2:Addr},ai H H0→H0 q1=none→(upd H0 q1 (.lst [V.ref x])) q2=none→ai H (upd (upd H0 q1 (.lst [V.ref x])) q2 (.lst [V.ref y]))∧Aa (upd (upd H0 q1 (.lst [V.ref x])) q2 (.lst [V.ref y])) q1 [ws]∧Aa (upd (upd H0 q1 (.lst [V.ref x])) q2 (.lst [V.ref y])) q2 [yl]∧Aa (upd (upd H0 q1 (.lst [V.ref x])) q2 (.lst [V.ref y])) z zs:=fun {H0 q1 q2} s0 e1 e2=>by
  have t1:=s0.trans (ai.new (o:=.lst [V.ref x]) e1);have t2:=t1.trans (ai.new (o:=.lst [V.ref y]) e2);have eq1:(upd (upd H0 q1 (.lst [V.ref x])) q2 (.lst [V.ref y])) q1=some (.lst [V.ref x]):=ai.new e2 _ _ af
  exact⟨t2,⟨[x],eq1,LL.one (t2 _ _ hx)⟩,⟨[y],af,LL.one (t2 _ _ hy)⟩,hz.same t2⟩
 obtain⟨t2,i1,i2,i3⟩:=two ai.refl n1 n2;refine⟨kind,p1,p2,z,[ws],[yl],zs,rfl,Aa.rows i1,i2,i3,pin,fun H1 s3=>aN (fun e=>?_) fun e=>?_⟩
 ·refine k1 ?_ H1 (t2.trans s3);rw[Bool.or_eq_false_iff] at e;exact if_pos ⟨by simpa using e.1,e.2⟩
 ·rw[Bool.not_eq_false,Bool.or_eq_true] at e;have hn:¬ (kind=4∧bH [ws] [yl] zs=false):=fun q=>by
   rcases e with e | e
   ·rw[q.1] at e;cases e
   ·rw[q.2] at e;cases e
  have k2:=k2 _ (if_neg hn);refine⟨by decide,fun q1 m1=>⟨by decide,fun q2 m2=>?_⟩⟩
  obtain⟨t5,j1,j2,j3⟩:=two (t2.trans s3) m1 m2;refine⟨kind,q1,q2,z,[ws],[yl],zs,rfl,Aa.rows j1,Aa.rows j2,Aa.rows j3,⟨din,fun e4=>⟨din,hc.z16,fun l hl=>by rw[mem_singleton.1 hl];exact hc.y2,hc.z4,?_⟩⟩,fun p as H6 s6 np na hp hl=>?_⟩
  ·cases eo:bH [ws] [yl] zs with
   | true=>rfl
   | false=>exact absurd ⟨e4,eo⟩ hn
  ·have h1:(ik kind [ws] [yl] zs).length=1:=by
    unfold ik eE eF
    split
    ·rfl
    ·dsimp only;rw[length_map,length_zip]
     split<;>simp
   obtain⟨row,er⟩:∃ row,ik kind [ws] [yl] zs=[row]:=by
    match hd:ik kind [ws] [yl] zs,h1 with
    | [row],_=>exact⟨row,rfl⟩
   rw[er] at hl k2;obtain⟨b,hb1,hb2⟩:=hl.at' (i:=0) (l:=row) rfl;exact fH (aL.of hp) rfl hb1 (k2 b H6 (t5.trans s6) (t5.free (na b (mem_of_getElem? hb1)).1) hb2)
def Ml(T:Tx K mg):Sp:=fun vs H Q _=>∃ x g c pg,∃ (p s h wd i:Nat) (m:Qw.Mach),vs=[.ref x,.ref g,.int (i:Int)]∧kZ T.eO H x p s h wd∧Do T.cK H g c pg∧H c=some (.lst (iv (QM.nI m.ground.toList)))∧m.ground.size=16384∧i<1000∧p+i*s+wd≤16384∧jU H (cS m.ground (p+i*s) wd) Q
theorem jN(T:Tx K mg):bg P w K mg base 2 "matrix_row" ["matrix","ground","i"] (Ml T):=by
 refine bg.of [] T.zD fun sc H Q E hr h=>?_
 obtain⟨x,g,c,pg,p,s0,h,wd,i,m,rfl,hm,hg,hc,hsz,hi,hin,k⟩:=h;obtain⟨⟨dx,hx⟩,_⟩:=id hm;obtain⟨dg,hg1⟩:=id hg;refine⟨_,(bu (dv (T.eI) (iS T) hr.m (pv 1) (aa (dv (T.bb) (cj T) hr.m (pv 0) (aa (pv 2) ae)) (aa (ah (T.bb) (T.gl) (pv 0)) ae)))),?_⟩;walk_at "rd";refine aT hg1 rfl (aT hx rfl ⟨x,p,s0,h,wd,i,rfl,hm,by lia,ag hx rfl ?_⟩)
 refine⟨g,c,pg,_,p+i*s0,wd,rfl,hg,hc,?_⟩;rw[←wA m (p+i*s0) wd (by rw[hsz];exact hin),←IM]
 exact k
def Md(T:Tx K mg):Sp:=fun vs H Q _=>∃ jx g c pg,∃ (j:Qw.Job) (i:Nat) (m:Qw.Mach),vs=[.ref jx,.ref g,.int (i:Int)]∧je T H jx j∧dJ j∧BQ j∧i<j.m∧Do T.cK H g c pg∧H c=some (.lst (iv (QM.nI m.ground.toList)))∧QM.WF m ∧
 (fm j m.ground i j.blocks=none→nv H .non Q)∧∀ l,fm j m.ground i j.blocks=some l→jU H l Q
theorem zu{g:Array Nat}(hg:∀ p,g.getD p 0<256)(p n:Nat):∀ v∈cS g p n,0≤v∧v<256:=by
 intro v hv;obtain⟨c,_,rfl⟩:=mem_map.1 hv
 have:=hg (p+c)
 lia
theorem GW(g:Array Nat)(p n a k:Nat)(h:a≤n):((cS g p n).drop a).take k=cS g (p+a) (min k (n - a)):=by
 unfold cS;rw[←map_drop,←map_take];apply ext_getElem
 ·simp
 intro i h1 h2;simp only[getElem_map,getElem_take,getElem_drop,getElem_range];rw[Nat.add_assoc]
theorem Ov{as:List Addr}(i j:Nat){lo hi:Int}(h1:lo=(i:Int))(h2:hi=(j:Int)):wu (as.map V.ref) (some lo) (some hi)=((as.drop i).take (j - i)).map V.ref:=by
 subst h1 h2;rw[wt,←map_drop,←map_take]
theorem LL.cut(h:LL H as ll)(i n:Nat):LL H ((as.drop i).take n) ((ll.drop i).take n):=by
 refine⟨by rw[length_take,length_take,length_drop,length_drop,h.1],fun k b l e1 e2=>?_⟩
 rw[getElem?_take] at e1 e2
 split at e1
 ·rename_i hk
  rw[if_pos hk,getElem?_drop] at e2;rw[getElem?_drop] at e1;exact h.2 _ b l e1 e2
 ·cases e1
theorem xZ(h:fm j g i n=none):∀ k,fm j g i (n+k)=none
 | 0=>h
 | k+1=>by rw[←Nat.add_assoc,fm,xZ h k]
theorem vg(T:Tx K mg):bg P w K mg base 7 "product_row" ["job","ground","i"] (Md T):=by
 refine bg.of ["words","a_row","b_rows","first","behind","k"] T.xg fun sc H Q E hr h=>?_
 obtain⟨jx,g,c,pg,j,i,m,rfl,hj,hs,hl,hi,hg,hc,wf,k1,k2⟩:=h;obtain⟨dj,a,b,cc,hjj,ma,mb,mc⟩:=id hj;obtain⟨dg,hg1⟩:=id hg;have hm2:=hs.m2;have hn2:=hs.n2;have hn1:=hs.n1;have hd1:=hs.d1;have hd2:=hs.d2;have hmul:∀ s k h:Nat,k<h→k*s≤(h - 1)*s:=fun s k h hk=>Nat.mul_le_mul_right _ (by lia)
 have hcI:j.c+i*j.cs+4*j.n≤16384:=by have:=hl.c;have:=hmul j.cs i j.m hi;unfold fh at *;lia
 have haI:j.a+i*j.as_+4*QM.jd j≤16384:=by have:=hl.a;have:=hmul j.as_ i j.m hi;unfold fh at *;lia
 have hbI:∀ k,k<QM.jd j→j.b+k*j.bs+4*j.n≤16384:=fun k hk=>by have:=hl.b;have:=hmul j.bs k (QM.jd j) hk;unfold fh at *;lia
 have eblk:j.blocks=(QM.jd j+15) / 16:=by unfold Qw.Job.blocks;rw[nR]
 refine⟨_,(ab (sS 3 sc.nd (aA (sG T) hr.m (aa (aA (jN T) hr.m (aa (ah (T.aR) (T.iz) (pv 0)) (aa (pv 1) (aa (pv 2) ae)))) ae))) (ab (sS 4 sc.nd (aA (jN T) hr.m (aa (ah (T.aR) (T.nP) (pv 0)) (aa (pv 1) (aa (pv 2) ae))))) (ab (mH (i:=5) (own:=[("k",8)]) rfl sc.nd rfl rfl (pp rfl rfl rfl rfl) (gL rfl T.dW (aa (ah (T.aR) (T.dN) (pv 0)) ae)) (aY (N:=["job","ground","i","words","a_row","b_rows","first","behind","k"]) (sc:=aC jC) (by decide +kernel)) (fun _ _ _ _ _=>(gN 8 sc.nd)) (fun _ _ _ _ _=>(bE)) (fun _ _ _ _ _=>(aA (jN T) hr.m (aa (ah (T.aR) (T.nN) (pv 0)) (aa (pv 1) (aa (pv 8) ae)))))) (ab (dS PassesOwn.never rfl (fT rfl T.dW (aa aj (aa (ah (T.aR) (T.dN) (pv 0)) (aa (am T.dB) ae)))) (gN 6 sc.nd) (ab (sS 7 sc.nd (aq bn (pv 6) (am T.dB))) (ab (sS 3 sc.nd (aA (vi T) hr.m (aa (ah (T.aR) (T.gM) (pv 0)) (aa (pv 3) (aa (g9 (gX (K:=K)) (pv 4) (dE (aq bq aj (pv 6))) (dE (aq bq aj (pv 7)))) (aa (g9 (gX (K:=K)) (pv 5) (dE (pv 6)) (dE (pv 7))) ae)))))) (aB (aU (du iO (pv 3) cH (fo _)) (bu cH) aF))))) (bu (pv 3)))))),?_⟩
 walk_at "rd";refine ag hjj rfl ⟨cc,g,c,pg,_,_,_,_,i,m,rfl,mc,hg,hc,wf.gs,by lia,hcI,fun pc H1 s1 n1 e1=>?_⟩
 refine eZ (aL.of e1) ⟨by rw[hX];lia,by rw[hX];lia,nk (zu wf.gb _ _)⟩ fun pw H2 s2 n2 e2=>?_
 have s12:=s1.trans s2;have hg2:∀ {H'},ai H H'→Do T.cK H' g c pg:=fun s=>⟨dg,s _ _ hg1⟩
 refine ag (s12 _ _ hjj) rfl ⟨a,g,c,pg,_,_,_,_,i,m,rfl,ma.same s12,hg2 s12,s12 _ _ hc,wf.gs,by lia,haI,fun pa H3 s3 n3 e3=>?_⟩
 have s13:=s12.trans s3;refine ag (s13 _ _ hjj) rfl ?_
 walk_at "rd";refine⟨by lia,by lia,fun D hD=>?_⟩
 rw[Int.toNat_natCast];refine re (fun k=>cS m.ground (j.b+k*j.bs) (4*j.n)) hD (sz (by lia)) (fun k H4 Kt hk s4 hkt=>?_) fun H4 as4 n4 l4 e4 s4=>?_
 ·have s14:=s13.trans s4;walk_at "rd";exact ag (s14 _ _ hjj) rfl ⟨b,g,c,pg,_,_,_,_,k,m,by rw[Int.zero_add],mb.same s14,hg2 s14,s14 _ _ hc,wf.gs,by lia,hbI k hk,hkt⟩
 have s14:=s13.trans s4;refine ag (s14 _ _ hjj) rfl ?_
 walk_at "rd";refine⟨_,F7 (QM.jd j) (by lia),?_⟩
 rw[←eblk];have epa:H4 pa=some (.lst (iv (cS m.ground (j.a+i*j.as_) (4*QM.jd j)))):=s4 _ _ e3;refine IR (fun n σ H'=>∃ w v6 v7 v8 ws,σ=[some (.ref jx),some (.ref g),some (.int (i:Int)),some (.ref w),some (.ref pa),some (.ref D),v6,v7,v8]∧fm j m.ground i n=some ws∧H' w=some (.lst (iv ws))∧H w=none∧ai H4 H') ⟨pw,_,_,_,_,rfl,rfl,s4 _ _ (s3 _ _ e2),s1.free n2,ai.refl⟩ ?_ ?_
 ·rintro n σ H5 hn ⟨wv,v6,v7,v8,ws,rfl,hpr,ew,nw,s5⟩
  have hnd:16*n<QM.jd j:=by rw[eblk] at hn;lia
  have s15:=s14.trans s5;have hwl:ws.length=j.n:=by
   rcases ub j hs.kd (by lia) m.ground wf.gb i n (by lia) with ⟨h1,_⟩ | ⟨x,h1,_⟩
   ·rw[h1] at hpr;cases hpr
   ·rw[h1] at hpr;rw[←Option.some.inj hpr];simp
  walk_at "rd";refine ag (s15 _ _ hjj) rfl ?_
  refine⟨⟨by decide,by lia⟩,⟨by decide,by lia⟩,sy (aL.of (s5 _ _ epa)) fun py npy=>?_⟩
  have ey:=rj (cS m.ground (j.a+i*j.as_) (4*QM.jd j)) (64*n) (64*n+64) (lo:=4*(0+(n:Int)*16)) (hi:=4*(0+(n:Int)*16+16)) (by lia) (by lia)
  rw[GW _ _ _ _ _ (by lia),show min (64*n+64 - 64*n) (4*QM.jd j - 64*n)=4*min 16 (QM.jd j - 16*n) by lia] at ey
  rw[ey];have s6:=ai.new (o:=.lst (iv (cS m.ground (j.a+i*j.as_+64*n) (4*min 16 (QM.jd j - 16*n))))) npy;have e6:(upd H5 py (.lst (iv (cS m.ground (j.a+i*j.as_+64*n) (4*min 16 (QM.jd j - 16*n)))))) py=some (.lst (iv (cS m.ground (j.a+i*j.as_+64*n) (4*min 16 (QM.jd j - 16*n))))):=af;generalize upd H5 py (.lst (iv (cS m.ground (j.a+i*j.as_+64*n) (4*min 16 (QM.jd j - 16*n)))))=H6 at *;have s56:=s5.trans s6;refine sy (aL.of (s56 _ _ e4)) fun pz npz=>?_
  rw[Ov (16*n) (16*n+16) (lo:=0+(n:Int)*16) (hi:=0+(n:Int)*16+16) (by lia) (by lia),show 16*n+16 - 16*n=16 by lia]
  have s7:=ai.new (o:=.lst (((as4.drop (16*n)).take 16).map V.ref)) npz;have e7:(upd H6 pz (.lst (((as4.drop (16*n)).take 16).map V.ref))) pz=some (.lst (((as4.drop (16*n)).take 16).map V.ref)):=af;generalize upd H6 pz (.lst (((as4.drop (16*n)).take 16).map V.ref))=H7 at *;have s57:=s56.trans s7;have ezs:(((List.range (QM.jd j)).map fun k=>cS m.ground (j.b+k*j.bs) (4*j.n)).drop (16*n)).take 16=(List.range (min 16 (QM.jd j - 16*n))).map fun k=>cS m.ground (j.b+(16*n+k)*j.bs) (4*j.n):=by
   rw[←map_drop,←map_take];apply ext_getElem
   ·simp
   intro q q1 q2;simp only[getElem_map,getElem_take,getElem_drop,getElem_range]
  have lz:=(LL.cut l4 (16*n) 16).same s57;rw[ezs] at lz;have hzm:∀ l∈((List.range (min 16 (QM.jd j - 16*n))).map fun k=>cS m.ground (j.b+(16*n+k)*j.bs) (4*j.n)),l.length=4*j.n∧∀ v∈l,0≤v∧v<256:=fun l hl=>by
   obtain⟨q,_,rfl⟩:=mem_map.1 hl
   exact⟨hX _ _ _,zu wf.gb _ _⟩
  have hzl:((List.range (min 16 (QM.jd j - 16*n))).map fun k=>cS m.ground (j.b+(16*n+k)*j.bs) (4*j.n)).length=min 16 (QM.jd j - 16*n):=by simp
  have hzh:(((List.range (min 16 (QM.jd j - 16*n))).map fun k=>cS m.ground (j.b+(16*n+k)*j.bs) (4*j.n)).headD []).length=4*j.n:=by
   obtain⟨q,hq⟩:∃ q,min 16 (QM.jd j - 16*n)=q+1:=⟨min 16 (QM.jd j - 16*n) - 1,by lia⟩
   rw[hq,range_succ_eq_map,map_cons,headD_cons];exact hX _ _ _
  have epr:fm j m.ground i (n+1)=fw j.kind ws (cS m.ground (j.a+i*j.as_+64*n) (4*min 16 (QM.jd j - 16*n))) ((List.range (min 16 (QM.jd j - 16*n))).map fun k=>cS m.ground (j.b+(16*n+k)*j.bs) (4*j.n)):=by
   rw[fm,hpr,nR]
  refine⟨j.kind,wv,py,pz,ws,_,_,rfl,s7 _ _ (s6 _ _ ew),s7 _ _ e6,⟨_,e7,lz⟩,⟨by lia,⟨by rw[hX];lia,zu wf.gb _ _⟩,by rw[hX];lia,fun l hl=>⟨by have:=(hzm l hl).1;lia,(hzm l hl).2⟩,fun l hl=>⟨by rw[(hzm l hl).1,hzh],by have:=(hzm l hl).1;lia⟩,by rw[hzl];lia,by rw[hzl];lia⟩,fun hnone H8 s8=>?_,fun l hsome q H8 s8 nq eq=>?_⟩
  ·dsimp only;rw[if_pos rfl]
   have:=xZ (epr.trans hnone) (j.blocks - (n+1))
   rw[show n+1+(j.blocks - (n+1))=j.blocks by lia] at this
   exact k1 this H8 ((s14.trans s57).trans s8)
  ·dsimp only;rw[if_neg (show ¬ V.ref q=V.non from fun z=>nomatch z)]
   exact⟨q,rfl,l,epr.trans hsome,eq,(s14.trans s57).free nq,s57.trans s8⟩
 ·rintro σ H5 ⟨wv,v6,v7,v8,ws,rfl,hpr,ew,nw,s5⟩
  walk_at "rd";exact k2 ws hpr wv H5 (s14.trans s5) nw ew
theorem AU(a b c v:V):be "program" v (mF a b c)=mF a b v:=rfl
def lM(m:Qw.Mach):Option (List Nat):=if m.how=1 then none else if m.how=0 then some [0] else some [3,m.fault]
def FI(T:Tx K mg)(r:Ro)(H:Hp)(pv:V)(m:Qw.Mach):Prop:=match m.prog with
 | none=>pv=.non
 | some pr=>∃ p,pv=.ref p∧dc T false r H p pr m.step m.paid m.r (lM m)∧Hn pr∧(m.how=0∨m.how=1∨m.how=3)
def Fz(T:Tx K mg)(r:Ro)(H:Hp)(ma:Addr)(m:Qw.Mach):Prop:=(∃ dx g t pv,H ma=some (.ins T.cZ dx (mF (.ref g) (.ref t) pv))∧r ma=1∧BR T false r H g m Qw.nothing∧hZ T false r H t m∧FI T r H pv m)∧Wf r H∧QM.WF m
theorem FI.fr{T:Tx K mg}{S:Nat→Prop}{r r':Ro}{H H':Hp}{pv:V}{m:Qw.Mach}(h:FI T r H pv m)(f:Fr S r H r' H')(n0:¬ S 0)(n4:¬ S (rl false 4))(n5:¬ S (rl false 5)):FI T r' H' pv m:=by
 unfold FI at *
 cases hp:m.prog with
 | none=>rw[hp] at h;exact h
 | some pr =>
  rw[hp] at h;obtain⟨p,h1,h2,h3⟩:=h
  exact⟨p,h1,h2.fr f n0 n4 n5,h3⟩
theorem Fz.fr(h:Fz T r H ma m)(f:Fr S r H r' H')(n:∀ k,k=0∨k=1∨(32≤k∧k<64)→¬ S k):Fz T r' H' ma m:=by
 obtain⟨⟨dx,g,t,pv,h1,h2,h3,h4,h5⟩,_,h7⟩:=h;have k1:=f.keep h1 h2 (n 1 (by decide))
 exact⟨⟨dx,g,t,pv,k1.1,k1.2,h3.fr f (fun k a b=>n _ (by unfold rl;simp;lia)),h4.fr f (n 0 (by decide)) (fun k a b=>n _ (by unfold rl;simp;lia)),h5.fr f (n 0 (by decide)) (n _ (by unfold rl;simp)) (n _ (by unfold rl;simp))⟩,f.wf,h7⟩
theorem Lj(f:Fr S r H r' H')(n0:¬ S 0)(ha:r a=0)(h:aL K H a xs):aL K H' a xs:=by
 rcases h with (h | ⟨o,h⟩) | h
 ·exact .inl (.inl (f.keep h ha n0).1)
 ·exact .inl (.inr ⟨o,(f.keep h ha n0).1⟩)
 ·exact .inr h
def LD(K:PySem.W.Frag)(r:Ro)(H:Hp)(a:Addr)(xs:List V):Prop:=(aL K H a xs∧H a≠none∧r a=0)∨∀ H',aL K H' a xs
theorem LD.sq(h:LD K r H a xs):aL K H a xs:=h.elim (·.1) (fun z=>z H)
theorem LD.fr(h:LD K r H a xs)(f:Fr S r H r' H')(n0:¬ S 0):LD K r' H' a xs:=by
 rcases h with ⟨h1,h2,h3⟩ | h
 ·exact .inl ⟨Lj f n0 h3 h1,f.dm a h2,(f.ro a h2).trans h3⟩
 ·exact .inr h
structure Env(T:Tx K mg)(r:Ro)(H:Hp)(ma rd a:Addr)(ns:List Int)(pos:Nat)(m:Qw.Mach):Prop where
 mo:Fz T r H ma m
 ro:zZ T.da H rd a pos
 rr:r rd=2
 sq:LD K r H a (iv ns)
theorem Env.fr(e:Env T r H ma rd a ns pos m)(f:Fr S r H r' H')(n:∀ k,k<3∨(32≤k∧k<64)→¬ S k):Env T r' H' ma rd a ns pos m:=by
 obtain⟨dx,h⟩:=e.ro;have k1:=f.keep h e.rr (n 2 (by decide))
 exact⟨e.mo.fr f (fun k hk=>n k (by lia)),⟨dx,k1.1⟩,k1.2,e.sq.fr f (n 0 (by decide))⟩
def At(ns:List Int)(pos:Nat)(l:List Int):Prop:=∃ rest,ns.drop pos=l++rest
theorem At.num(h:At ns pos (x::l)):pos<ns.length∧ns.getD pos 0=x∧At ns (pos+1) l:=by
 obtain⟨rest,h⟩:=h;have hp:pos<ns.length:=by
  rcases Nat.lt_or_ge pos ns.length with h2 | h2
  ·exact h2
  ·rw[drop_eq_nil_of_le h2] at h;cases h
 rw[drop_eq_getElem_cons hp] at h
 injection h with h1 h2
 exact⟨hp,by rw[getD_eq_getElem?_getD,getElem?_eq_getElem hp];exact h1,rest,h2⟩
theorem At.row{ns:List Int}{pos:Nat}{row l:List Int}(h:At ns pos (row++l)):(ns.drop pos).take row.length=row∧At ns (pos+row.length) l:=by
 obtain⟨rest,h⟩:=h;refine⟨by rw[h,append_assoc,List.take_left],rest,?_⟩
 rw[←drop_drop,h,append_assoc,List.drop_left]
section
variable{T:Tx K mg}{r:Ro}{H:Hp}{ma rd a:Addr}{ns:List Int}{pos:Nat}{m:Qw.Mach}
theorem Env.but(e:Env T r H ma rd a ns pos m)(b:ul rd H H')(ro:zZ T.da H' rd a pos'):Fr (Rg 2 3) r H r H'∧Env T r H' ma rd a ns pos' m:=by
 obtain⟨dx,h⟩:=id ro;have f:Fr (Rg 2 3) r H r H':=Fr.ofExt e.mo.2.1 b h (by rw[e.rr];constructor<;>decide)
 exact⟨f,e.mo.fr f (fun k hk=>by lia),ro,e.rr,e.sq.fr f (by lia)⟩
theorem Env.num(e:Env T r H ma rd a ns pos m)(ha:At ns pos (x::l))(k:∀ H',Fr (Rg 2 3) r H r H'→Env T r H' ma rd a ns (pos+1) m→At ns (pos+1) l→Q (.int x) H'):LM T.da "take_number" (.ref rd) H (Jy K T.da [.ref rd] H Q E):=by
 obtain⟨dx,h⟩:=id e.ro;obtain⟨h1,h2,h3⟩:=ha.num;refine aT h rfl ⟨rd,a,ns,pos,rfl,e.ro,e.sq.sq,h1,fun H' ro b=>?_⟩
 obtain⟨f,e'⟩:=e.but b ro;rw[h2];exact k H' f e' h3
theorem Env.row{Q:VK}{E:XK}{row l:List Int}(e:Env T r H ma rd a ns pos m)(ha:At ns pos (((row.length:Nat):Int)::(row++l)))(k:∀ H' p,Fr (Rg 2 3) r H r H'→Env T r H' ma rd a ns (pos+1+row.length) m→At ns (pos+1+row.length) l→H p=none→H' p=some (.lst (iv row))→r p=0→Q (.ref p) H'):LM T.da "take_row" (.ref rd) H (Jx K T.da [.ref rd] H Q E):=by
 obtain⟨dx,h⟩:=id e.ro;obtain⟨h1,h2,h3⟩:=ha.num;obtain⟨h4,h5⟩:=h3.row;refine aT h rfl ⟨rd,a,ns,pos,row.length,rfl,e.ro,e.sq.sq,h1,h2,fun H' p ro b np ep=>?_⟩
 obtain⟨f,e'⟩:=e.but b ro;rw[h4] at ep;exact k H' p f e' h5 np ep (e.mo.2.1 p np)
end
def Dm(T:Tx K mg)(r:Ro)(H:Hp)(ma rd a:Addr)(ns:List Int)(pos:Nat)(m:Qw.Mach)(l:List Int)(Q:VK):Prop:=∀ r' H' p,Fr (Rg 1 128) r H r' H'→Env T r' H' ma rd a ns pos m→H' p=some (.lst (iv l))→r' p=0→Q (.ref p) H'
def oK{X:Type}(T:Tx K mg)(flat:X→List Int)(call:X→Quilt.Call)(ok:X→Prop):Sp:=fun vs H Q _=>∃ x:X,∃ ma rd a,∃ (ns:List Int) (pos:Nat),∃ m r,vs=[.ref ma,.ref rd]∧Env T r H ma rd a ns pos m∧At ns pos (flat x)∧ok x∧Dm T r H ma rd a ns (pos+(flat x).length) (Quilt.step m (call x)).1 (QuiltNeutral.told (Quilt.step m (call x)).2) Q
theorem Dm.fr(h:Dm T r H ma rd a ns pos m l Q)(f:Fr S r H r1 H1)(hS:∀ k,S k→Rg 1 128 k):Dm T r1 H1 ma rd a ns pos m l Q:=fun r' H' p f'=>h r' H' p ((f.mono hS).trans f')
theorem Dm.new(h:Dm T r H ma rd a ns pos m l Q)(e:Env T r H ma rd a ns pos m)(s:ai H H1)(np:H p=none)(ep:H1 p=some (.lst (iv l))):Q (.ref p) H1:=by
 have f:Fr (fun _=>False) r H r H1:=Fr.same e.mo.2.1 s
 exact h r H1 p (f.mono fun _ z=>z.elim) (e.fr f fun _ _ z=>z) ep (e.mo.2.1 p np)
theorem pT:∀ k,Rg 2 3 k→Rg 1 128 k:=fun k hk=>⟨by lia,by lia⟩
theorem za(T:Tx K mg):bg P w K mg base 2 "call_page" ["machine","reader"] (oK T (fun x:Nat×Nat=>[(x.1:Int),(x.2:Int)]) (fun x=>.page x.1 x.2) (fun _=>True)):=by
 refine bg.of ["page","how"] T.Bs fun sc H Q E hr h=>?_
 obtain⟨⟨pg,how⟩,ma,rd,a,ns,pos,m,r,rfl,env,hat,_,post⟩:=h;dsimp only at hat post;refine⟨_,(ab (sS 2 sc.nd (aO (T.aG) (aE T) hr.m (pv 1))) (ab (sS 3 sc.nd (aO (T.aG) (aE T) hr.m (pv 1))) (ab (aU (PW.pt (g7 (gq AB (pv 2) (am T.D7)) (fJ (gq mM (pv 3) (am T.o8))))) (bu (aJ (aa (am T.eG) ae))) aF) (ab (fK (pv 3) (fL (ah (T.eI) (T.iW) (ah (T.aX) (T.cU) (pv 0))) (pv 2) cW)) (bu (aJ (aa (am T.zt) ae))))))),?_⟩;walk_at "rd";refine env.num hat fun H1 f1 env1 at1=>env1.num at1 fun H2 f2 env2 at2=>?_
 have post2:=(post.fr f1 pT).fr f2 pT;walk_at "rd";have bad:(Qw.PAGES≤pg∨2<how)→1≤sizeLine∧∀ p,H2 p=none→Q (.ref p) (upd H2 p (.lst [V.int (-1)])):=fun hb=>by
  have e:Quilt.step m (.page pg how)=(m,Quilt.BAD):=if_pos hb;rw[e] at post2
  exact⟨by decide,fun p np=>post2.new env2 (ai.new np) np af⟩
 refine aN (fun e=>bad (.inl (by unfold Qw.PAGES;lia))) fun e1=>aN (fun e=>bad (.inr (by lia))) fun e2=>?_
 obtain⟨⟨dx,g,t,pv,h1,h2,⟨dg,c,pa,h3,h3r,⟨h3c,h3cr⟩,⟨h3p,h3pr⟩⟩,h4,h5⟩,h6,h7⟩:=id env2.mo;refine ag h1 rfl (ag h3 rfl (jH (j:=pg) h3p rfl (by rw[aM,ak,h7.pl];lia) ?_))
 rw[AZ];have e:Quilt.step m (.page pg how)=({ m with pages:=m.pages.set pg how },Quilt.says 0):=if_neg (by unfold Qw.PAGES;lia)
 rw[e] at post2;have f3:=Fr.upd (S:=Rg (rl false 3) (rl false 4)) (o':=.lst (iv (QM.nI (m.pages.set pg how)))) h6 h3p (by rw[h3pr];unfold rl;constructor<;>simp)
 have n0:¬ Rg (rl false 3) (rl false 4) 0:=by unfold rl;simp
 have env3:Env T r (upd H2 pa (.lst (iv (QM.nI (m.pages.set pg how))))) ma rd a ns (pos+1+1) { m with pages:=m.pages.set pg how }:=by
  obtain⟨dr,hr1⟩:=env2.ro;have k1:=f3.keep h1 h2 (by unfold rl;simp)
  have k3:=f3.keep h3 h3r (by unfold rl;simp)
  have kr:=f3.keep hr1 env2.rr (by unfold rl;simp)
  refine⟨⟨⟨dx,g,t,pv,k1.1,k1.2,⟨dg,c,pa,k3.1,k3.2,f3.keep h3c h3cr (by unfold rl;simp),af,h3pr⟩,?_,h5.fr f3 n0 (by unfold rl;simp) (by unfold rl;simp)⟩,f3.wf,h7.page (by lia)⟩,⟨dr,kr.1⟩,kr.2,env2.sq.fr f3 n0⟩
  exact (h4.fr f3 n0 (fun k a b=>by unfold rl;simp;lia)).cg rfl rfl
 exact⟨by decide,fun p np=>(post2.fr f3 (fun k hk=>⟨by have:=hk.1;unfold rl at *;simp at *;lia,by have:=hk.2;unfold rl at *;simp at *;lia⟩)).new env3 (ai.new np) np af⟩
def Ob(C:List Int→Prop)(g:List Int→List Int):Sp:=fun vs H Q _=>∃ a,∃ l:List Int,vs=[.ref a]∧H a=some (.lst (iv l))∧C l∧jU H (g l) Q
theorem iR(T:Tx K mg):bg P w K mg base 1 "counted" ["numbers"] (Ob (fun l=>l.length≤100000) fun l=>((l.length:Nat):Int)::l):=by
 refine bg.of [] T.Fl fun sc H Q E hr h=>?_
 obtain⟨a,l,rfl,hl,hlen,k⟩:=h;dsimp only at hlen k;refine⟨_,(bu (aq jL (aJ (aa (tW K T.eB (aa (pv 0) ae)) ae)) (pv 0))),?_⟩;walk_at "rd";refine cQ (aL.of hl) ⟨by decide,fun p np=>?_⟩
 have s1:=ai.new (o:=.lst [V.int ((iv l).length:Int)]) np;refine jI af (s1 _ _ hl) (by rw[aM];exact Nat.le_trans (Nat.add_le_add_left hlen 1) (by decide)) fun q nq=>k q _ (s1.trans (ai.new nq)) (s1.free nq) ?_
 rw[af,aM];rfl
def JE:Sp:=fun vs H Q _=>(vs=[.non]∧jU H [-3] Q)∨∃ a,∃ l:List Int,vs=[.ref a]∧H a=some (.lst (iv l))∧l.length≤100000∧jU H (((l.length:Nat):Int)::l) Q
theorem EE:∀ vs H Q E,JE vs H Q E→vs.length=1:=by rintro vs H Q E (⟨rfl,_⟩ | ⟨_,_,rfl,_⟩)<;>rfl
theorem im(T:Tx K mg):bg P w K mg base 2 "counted_in_range" ["numbers"] JE:=by
 refine bg.of [] T.ph (len:=EE) fun sc H Q E hr h=>?_
 rcases h with ⟨rfl,k⟩ | ⟨a,l,rfl,hl,hlen,k⟩
 ·skip
  refine⟨_,(bu (dw (du iO (pv 0) cH (fo _)) (aJ (aa (am T.lv) ae)) (aA (iR T) hr.m (aa (pv 0) ae)))),?_⟩;walk_at "rd"
  exact⟨by decide,fun p np=>k p _ (ai.new np) np af⟩
 ·skip
  refine⟨_,(bu (dw (du iO (pv 0) cH (fo _)) (aJ (aa (am T.lv) ae)) (aA (iR T) hr.m (aa (pv 0) ae)))),?_⟩;walk_at "rd";rw[if_neg (fun z=>nomatch z)]
  exact⟨a,l,rfl,hl,hlen,k⟩
theorem Ol:∀ k,Rg (rl false 2) (rl false 3) k→Rg 1 128 k:=fun k hk=>⟨by have:=hk.1;unfold rl at *;simp at *;lia,by have:=hk.2;unfold rl at *;simp at *;lia⟩
theorem DD(hb:b≤32):∀ k,Rg (rl false a) (rl false b) k→Rg 1 128 k:=fun k hk=>⟨by have:=hk.1;unfold rl at *;simp at *;lia,by have:=hk.2;unfold rl at *;simp at *;lia⟩
theorem AG(T:Tx K mg):bg P w K mg base 3 "call_put" ["machine","reader"] (oK T (fun x:Nat×List Nat=>(x.1:Int)::((x.2.length:Nat):Int)::QM.nI x.2) (fun x=>.put x.1 x.2) (fun x=>∀ v∈x.2,v<256)):=by
 refine bg.of ["place","data"] T.C7 fun sc H Q E hr h=>?_
 obtain⟨⟨pl,bs⟩,ma,rd,a,ns,pos,m,r,rfl,env,hat,hok,post⟩:=h;dsimp only at hat post hok;refine⟨_,(ab (sS 2 sc.nd (aO (T.aG) (aE T) hr.m (pv 1))) (ab (sS 3 sc.nd (aO (T.aG) (aW T) hr.m (pv 1))) (ab (aU (dF (cf (aA (ge T) hr.m (aa (pv 2) (aa (tW K T.eB (aa (pv 3) ae)) ae))))) (bu (aJ (aa (am T.eG) ae))) aF) (ab (bQ (dv (T.eI) (ls T) hr.m (ah (T.aX) (T.cU) (pv 0)) (aa (pv 2) (aa (pv 3) ae)))) (bu (aJ (aa (am T.zt) ae))))))),?_⟩;walk_at "rd";refine env.num hat fun H1 f1 env1 at1=>?_
 have at1':At ns (pos+1) ((((QM.nI bs).length:Nat):Int)::(QM.nI bs++[])):=by rw[ak,append_nil];exact at1
 refine env1.row at1' fun H2 p f2 env2 at2 np ep rp=>?_
 have post2:=(post.fr f1 pT).fr f2 pT;have epos:pos+1+1+(QM.nI bs).length=pos+((pl:Int)::((bs.length:Nat):Int)::QM.nI bs).length:=by simp;lia
 rw[epos] at env2;refine cQ (aL.of ep) ?_
 walk_at "rd";rw[aM,ak];refine aN (fun e=>?_) fun e=>?_
 ·have e:Quilt.step m (.put pl bs)=(m,Quilt.BAD):=if_pos (by unfold Qw.GROUND;lia)
  rw[e] at post2
  exact⟨by decide,fun p np=>post2.new env2 (ai.new np) np af⟩
 have e:Quilt.step m (.put pl bs)=(m.lay pl bs,Quilt.says 0):=if_neg (by unfold Qw.GROUND;lia)
 rw[e] at post2;obtain⟨⟨dx,g,t,pv,h1,h2,⟨dg,c,pa,h3,h3r,⟨h3c,h3cr⟩,⟨h3p,h3pr⟩⟩,h4,h5⟩,h6,h7⟩:=id env2.mo;refine ag h1 rfl (aT h3 rfl ?_);have rp2:r p=0:=rp;refine⟨g,c,pa,p,_,QM.nI bs,pl,rfl,⟨dg,h3⟩,h3c,aL.of ep,fun z=>by rw[z,h3cr] at rp2;unfold rl at rp2;simp at rp2,by rw[ak,ak];have:=h7.gs;rw[←Array.length_toList] at this;lia,fun H3 e3 x3=>?_⟩
 have f3:Fr (Rg (rl false 2) (rl false 3)) r H2 r H3:=Fr.ofExt h6 x3 e3 (by rw[h3cr];unfold rl;constructor<;>simp)
 have n0:¬ Rg (rl false 2) (rl false 3) 0:=by unfold rl;simp
 have env3:Env T r H3 ma rd a ns (pos+((pl:Int)::((bs.length:Nat):Int)::QM.nI bs).length) (m.lay pl bs):=by
  obtain⟨dr,hr1⟩:=env2.ro;have k1:=f3.keep h1 h2 (by unfold rl;simp)
  have k3:=f3.keep h3 h3r (by unfold rl;simp)
  have kr:=f3.keep hr1 env2.rr (by unfold rl;simp)
  refine⟨⟨⟨dx,g,t,pv,k1.1,k1.2,⟨dg,c,pa,k3.1,k3.2,⟨?_,h3cr⟩,f3.keep h3p h3pr (by unfold rl;simp)⟩,?_,h5.fr f3 n0 (by unfold rl;simp) (by unfold rl;simp)⟩,f3.wf,h7.lay hok⟩,⟨dr,kr.1⟩,kr.2,env2.sq.fr f3 n0⟩
  ·rw[e3];exact congrArg (fun z=>some (HO.lst (iv z))) (GH m pl bs).symm
  ·exact (h4.fr f3 n0 (fun k a b=>by unfold rl;simp;lia)).cg rfl rfl
 exact⟨by decide,fun p np=>(post2.fr f3 Ol).new env3 (ai.new np) np af⟩
theorem AH(T:Tx K mg):bg P w K mg base 2 "call_get" ["machine","reader"] (oK T (fun x:Nat×Nat=>[(x.1:Int),(x.2:Int)]) (fun x=>.get x.1 x.2) (fun x=>x.2≤8192)):=by
 refine bg.of ["place","length"] T.C8 fun sc H Q E hr h=>?_
 obtain⟨⟨pl,n⟩,ma,rd,a,ns,pos,m,r,rfl,env,hat,hok,post⟩:=h;dsimp only at hat post hok;refine⟨_,(ab (sS 2 sc.nd (aO (T.aG) (aE T) hr.m (pv 1))) (ab (sS 3 sc.nd (aO (T.aG) (aE T) hr.m (pv 1))) (ab (aU (dF (cf (aA (ge T) hr.m (aa (pv 2) (aa (pv 3) ae))))) (bu (aJ (aa (am T.eG) ae))) aF) (bu (aA (iR T) hr.m (aa (dv (T.eI) (iS T) hr.m (ah (T.aX) (T.cU) (pv 0)) (aa (pv 2) (aa (pv 3) ae))) ae)))))),?_⟩;walk_at "rd";refine env.num hat fun H1 f1 env1 at1=>env1.num at1 fun H2 f2 env2 at2=>?_
 have post2:=(post.fr f1 pT).fr f2 pT;walk_at "rd";refine aN (fun e=>?_) fun e=>?_
 ·have e:Quilt.step m (.get pl n)=(m,Quilt.BAD):=by show (m,_)=_;rw[if_pos (by unfold Qw.GROUND;lia)]
  rw[e] at post2
  exact⟨by decide,fun p np=>post2.new env2 (ai.new np) np af⟩
 have e:Quilt.step m (.get pl n)=(m,Quilt.tells n (m.bytes pl n)):=by show (m,_)=_;rw[if_neg (by unfold Qw.GROUND;lia)]
 rw[e] at post2;obtain⟨⟨dx,g,t,pv,h1,h2,⟨dg,c,pa,h3,h3r,⟨h3c,h3cr⟩,_⟩,h4,h5⟩,h6,h7⟩:=id env2.mo;refine ag h1 rfl (aT h3 rfl ⟨g,c,pa,_,pl,n,rfl,⟨dg,h3⟩,h3c,fun p H3 s3 np ep=>?_⟩)
 rw[←wA m pl n (by rw[h7.gs];lia)] at ep
 have lb:(QM.nI (m.bytes pl n)).length=n:=by rw[ak];unfold Qw.Mach.bytes;simp
 refine⟨p,_,rfl,ep,by show (QM.nI (m.bytes pl n)).length≤100000;rw[lb];lia,fun q H4 s4 nq eq=>?_⟩
 dsimp only at eq;rw[lb] at eq;exact post2.new env2 (s3.trans s4) (s3.free nq) eq
theorem wT(T:Tx K mg):bg P w K mg base 2 "call_shown" ["machine","reader"] (oK T (fun _:Unit=>[]) (fun _=>.shown) (fun _=>True)):=by
 refine bg.of [] T.zM fun sc H Q E hr h=>?_
 obtain⟨_,ma,rd,a,ns,pos,m,r,rfl,env,hat,_,post⟩:=h;dsimp only at hat post;refine⟨_,(bu (aq jL (aJ (aa (am T.zt) ae)) (aO (T.ba false) (sK T false) hr.m (ah (T.aX) (T.cN) (pv 0))))),?_⟩;walk_at "rd";obtain⟨⟨dx,g,t,pv,h1,h2,h3,⟨RR,ho,hok,hrr⟩,h5⟩,h6,h7⟩:=id env.mo;obtain⟨dxt,ws,hs,rw,ts,ht,_⟩:=id ho;refine⟨by decide,fun p0 np0=>?_⟩
 have s0:=ai.new (o:=.lst [V.int 0]) np0;have ho1:=ho.fr (Fr.same (S:=fun _=>False) h6 s0) (fun z=>z) (fun _ _ _ z=>z)
 refine ag (s0 _ _ h1) rfl (aT (s0 _ _ ht) rfl ⟨t,r,m.shape,RR,rfl,ho1,pq h7,fun p H1 s1 np ep=>?_⟩)
 have hl17:(QM.nI m.shape.nums).length=17:=by unfold Qw.Shape.nums;rw[ak,length_cons,length_append,h7.wl,h7.hl]
 refine jI (s1 _ _ af) ep (by rw[aM,hl17];show 1+17≤sizeLine;decide) fun q nq=>?_
 have s2:=(s0.trans s1).trans (ai.new (o:=.lst ([V.int 0]++iv (QM.nI m.shape.nums))) nq);exact post.new env s2 ((s0.trans s1).free nq) af
theorem y8(T:Tx K mg):bg P w K mg base 2 "call_tile" ["machine","reader"] (oK T (fun x:Nat=>[(x:Int)]) (fun x=>.tile x) (fun _=>True)):=by
 refine bg.of ["t","tiles"] T.Bq fun sc H Q E hr h=>?_
 obtain⟨ti,ma,rd,a,ns,pos,m,r,rfl,env,hat,_,post⟩:=h;dsimp only at hat post;refine⟨_,(ab (sS 2 sc.nd (aO (T.aG) (aE T) hr.m (pv 1))) (ab (aU (gq AB (pv 2) (am T.ug)) (bu (aJ (aa (am T.eG) ae))) aF) (ab (sS 3 sc.nd (ah (T.aX) (T.cN) (pv 0))) (bu (aq jL (aJ (aa (xL K (ah (T.ba false) (T.ck false) (pv 3)) (pv 2)) (aa (xL K (ah (T.ba false) (T.cJ false) (pv 3)) (pv 2)) ae))) (dv (T.ba false) (vp T false) hr.m (pv 3) (aa (pv 2) ae))))))),?_⟩;walk_at "rd";refine env.num hat fun H1 f1 env1 at1=>?_
 have post1:=post.fr f1 pT;walk_at "rd";refine aN (fun e=>?_) fun e=>?_
 ·have e:Quilt.step m (.tile ti)=(m,Quilt.BAD):=by show (m,_)=_;rw[if_pos (by unfold Qw.TILES;lia)]
  rw[e] at post1
  exact⟨by decide,fun p np=>post1.new env1 (ai.new np) np af⟩
 have hti:ti<8:=by lia
 have e:Quilt.step m (.tile ti)=(m,Quilt.tells (m.height ti) (m.width ti::(List.range (m.height ti)).flatMap fun (i:Nat)=>Qw.rowOf (m.tile ti) i (m.width ti))):=by show (m,_)=_;rw[if_neg (by unfold Qw.TILES;lia)]
 rw[e] at post1;obtain⟨⟨dx,g,t,pv,h1,h2,h3,⟨RR,ho,hok,hrr⟩,h5⟩,h6,h7⟩:=id env1.mo;obtain⟨dxt,ws,hs,rw,ts,ht,_,⟨hw,_⟩,⟨hh,_⟩,_⟩:=id ho;have b1:=h7.hb ti;have b2:=h7.wb ti;refine ag h1 rfl (ag ht rfl (bj (j:=ti) (aL.of hh) rfl (by rw[ak,h7.hl];exact hti) (ag ht rfl (bj (j:=ti) (aL.of hw) rfl (by rw[ak,h7.wl];exact hti) ⟨by decide,fun p0 np0=>?_⟩))))
 rw[aQ,aQ];have s0:=ai.new (o:=.lst [V.int ((m.shape.heights.getD ti 0:Nat):Int),V.int ((m.shape.widths.getD ti 0:Nat):Int)]) np0;have ho1:=ho.fr (Fr.same (S:=fun _=>False) h6 s0) (fun z=>z) (fun _ _ _ z=>z)
 have hlen:(RR ti).length=m.height ti:=(hok ti hti).1;have hrl:∀ l∈RR ti,l.length=m.width ti:=(hok ti hti).2;refine aT (s0 _ _ ht) rfl ⟨t,ti,r,m.shape,RR,rfl,ho1,hti,by lia,fun l hl=>by have:=hrl l hl;lia,fun p H2 s2 np ep=>?_⟩
 have hfl:(RR ti).flatten.length≤100000:=by
  have:=vU (RR ti) fun l hl=>by have:=hrl l hl;lia
  lia
 refine jI (s2 _ _ af) ep (by rw[aM];exact Nat.le_trans (Nat.add_le_add_left hfl 2) (by decide)) fun q nq=>?_
 have s3:=(s0.trans s2).trans (ai.new (o:=.lst ([V.int ((m.shape.heights.getD ti 0:Nat):Int),V.int ((m.shape.widths.getD ti 0:Nat):Int)]++iv (RR ti).flatten)) nq);refine post1.new env1 s3 ((s0.trans s2).free nq) ?_
 rw[af,hrr rfl ti hti];refine congrArg (fun z=>some (HO.lst z)) ?_
 show _=iv (((m.height ti:Nat):Int)::(m.width ti::(List.range (m.height ti)).flatMap fun (i:Nat)=>Qw.rowOf (m.tile ti) i (m.width ti)).map fun (n:Nat)=>(n:Int))
 rw[map_cons,map_flatMap];unfold aI;rw[←List.flatMap_def];rfl
theorem CP(l:List Nat)(h:l.length≠17):gH (QM.nI l)=false:=by
 unfold gH;rw[decide_eq_false (by rw[ak];exact h),Bool.false_and]
theorem jG{ns:List Int}{pos:Nat}{l:List Nat}{rest:List Int}(h:At ns pos (((l.length:Nat):Int)::(QM.nI l++rest))):At ns pos ((((QM.nI l).length:Nat):Int)::(QM.nI l++rest)):=by rw[ak];exact h
theorem wU(T:Tx K mg):bg P w K mg base 3 "call_shape" ["machine","reader"] (oK T (fun x:List Nat=>((x.length:Nat):Int)::(QM.nI x++[])) (fun x=>.shape x) (fun _=>True)):=by
 refine bg.of ["numbers"] T.zN fun sc H Q E hr h=>?_
 obtain⟨l,ma,rd,a,ns,pos,m,r,rfl,env,hat,_,post⟩:=h;dsimp only at hat post;refine⟨_,(ab (sS 2 sc.nd (aO (T.aG) (aW T) hr.m (pv 1))) (ab (aU (dF (cf (aA (sI T) hr.m (aa (pv 2) ae)))) (bu (aJ (aa (am T.o9) ae))) aF) (ab (bQ (dv (T.ba false) (d6 T false) hr.m (ah (T.aX) (T.cN) (pv 0)) (aa (pv 2) ae))) (bu (aJ (aa (am T.zt) ae)))))),?_⟩;walk_at "rd";refine env.row (jG hat) fun H1 p f1 env1 at1 np ep rp=>?_
 have post1:=post.fr f1 pT;have epos:pos+1+(QM.nI l).length=pos+(((l.length:Nat):Int)::(QM.nI l++[])).length:=by simp;lia
 rw[epos] at env1;have bad:(l.length≠17∨(Qw.shapeOf l).ok=false)→∀ H2,ai H1 H2→1≤sizeLine∧∀ p,H2 p=none→Q (.ref p) (upd H2 p (.lst [V.int (-2)])):=fun hb H2 s2=>by
  have e:Quilt.step m (.shape l)=(m,Quilt.SHAPELESS):=if_pos hb;rw[e] at post1
  exact⟨by decide,fun p np=>post1.new env1 (s2.trans (ai.new np)) (s2.free np) af⟩
 refine t9 (aL.of ep) trivial fun H2 s2=>ob ?_
 by_cases h17:l.length=17
 ·obtain⟨e1,e2,e3⟩:=kz l h17;have ei:gH (QM.nI l)=(Qw.shapeOf l).ok:=by rw[←ql _ e2 e3,e1]
  rw[ei];refine aN (fun e=>bad (.inr e) H2 s2) fun e=>?_
  have hok:(Qw.shapeOf l).ok=true:=by simpa using e
  have es:Quilt.step m (.shape l)=(m.shaped (Qw.shapeOf l),Quilt.says 0):=if_neg (by rw[hok];simp[h17])
  rw[es] at post1;have f2:Fr (fun _=>False) r H1 r H2:=Fr.same env1.mo.2.1 s2
  have env2:=env1.fr f2 fun _ _ z=>z
  obtain⟨⟨dx,g,t,pv,h1,h2,h3,h4,h5⟩,h6,h7⟩:=id env2.mo;obtain⟨RR,ho,_⟩:=id h4;obtain⟨dxt,ws,hs,rw,ts,ht,htr,_⟩:=id ho;refine ag h1 rfl (aT ht rfl ⟨t,p,dxt,_,_,_,_,Qw.shapeOf l,r,rfl,ht,htr,h6,aL.of (by rw[e1];exact s2 _ _ ep),tX.of_ok hok,fun r3 H3 f3 o3=>?_⟩)
  have n0:¬ Rg (rl false 6) (rl false 16) 0:=by unfold rl;simp
  have env3:Env T r3 H3 ma rd a ns (pos+(((l.length:Nat):Int)::(QM.nI l++[])).length) (m.shaped (Qw.shapeOf l)):=by
   obtain⟨dr,hr1⟩:=env2.ro;have k1:=f3.keep h1 h2 (by unfold rl;simp)
   have kr:=f3.keep hr1 env2.rr (by unfold rl;simp)
   exact⟨⟨⟨dx,g,t,pv,k1.1,k1.2,h3.fr f3 (fun k a b=>by unfold rl;simp;lia),uv o3 rfl rfl,h5.fr f3 n0 (by unfold rl;simp) (by unfold rl;simp)⟩,f3.wf,h7.shaped hok⟩,⟨dr,kr.1⟩,kr.2,env2.sq.fr f3 n0⟩
  exact⟨by decide,fun p np=>((post1.fr f2 fun _ z=>z.elim).fr f3 (DD (by decide))).new env3 (ai.new np) np af⟩
 ·rw[CP l h17,if_pos rfl];exact bad (.inl h17) H2 s2
theorem AR{Q:Hp→Prop}(env:Env T r H ma rd a ns pos m)(s1:ai H H1)(ro1:kv r H r1)(w1:Wf r1 H1)(po:dc T false r1 H1 p pr 0 0 (List.replicate 8 0) none)(pw:Hn pr)
  (k:∀ H2,Fr (Rg 1 2) r H r1 H2→Env T r1 H2 ma rd a ns pos (m.begun pr)→dc T false r1 H2 p pr 0 0 (List.replicate 8 0) none→(∃ dx g t,H2 ma=some (.ins T.cZ dx (mF (.ref g) (.ref t) (.ref p))))→Q H2):Ho T.cZ "program" (.ref ma) (.ref p) H1 Q:=by
 have f1:∀ S,Fr S r H r1 H1:=fun S=>ro1.fr s1 w1
 have env1:=env.fr (f1 fun _=>False) fun _ _ z=>z
 obtain⟨⟨dx,g,t,pv,h1,h2,h3,h4,h5⟩,h6,h7⟩:=id env1.mo;refine bv h1 (by show 3<1000;decide) ?_
 rw[AU];have f2:=Fr.upd (S:=Rg 1 2) (o':=.ins T.cZ dx (mF (.ref g) (.ref t) (.ref p))) w1 h1 (by rw[h2];constructor<;>decide)
 have n0:¬ Rg 1 2 0:=by lia
 obtain⟨dr,hr1⟩:=env1.ro;have kr:=f2.keep hr1 env1.rr (by lia)
 have po2:=po.fr f2 n0 (by unfold rl;simp) (by unfold rl;simp)
 refine k _ ((f1 _).trans f2) ⟨⟨⟨dx,g,t,.ref p,af,h2,h3.fr f2 (fun k a b=>by unfold rl;simp;lia),(h4.fr f2 n0 (fun k a b=>by unfold rl;simp;lia)).cg rfl rfl,p,rfl,po2,pw,.inr (.inl rfl)⟩,f2.wf,h7.begun pr⟩,⟨dr,kr.1⟩,kr.2,env1.sq.fr f2 n0⟩ po2 ⟨dx,g,t,af⟩
theorem DJ{T:Tx K mg}{r:Ro}{H:Hp}{ma p:Addr}{pr:Qw.Program}{at_ paid:Nat}{nums:List Nat}{en:Option (List Nat)}{Q:VK}(h:∃ dx g t,H ma=some (.ins T.cZ dx (mF (.ref g) (.ref t) (.ref p))))(po:dc T false r H p pr at_ paid nums en)(k:Q (.int ((pr.steps.size:Nat):Int)) H) :
  yE T.cZ "program" (.ref ma) H fun x H1=>yE T.aS "steps" x H1 fun x H1=>DK K [x] H1 Q:=by
 obtain⟨dx,g,t,h1⟩:=h;obtain⟨dxp,st,sh,nb,ev,hp,_,⟨as,hst,_,hsl⟩,_⟩:=po;refine ag h1 rfl (ag hp rfl (cQ (aL.of hst) ?_));rw[length_map,hsl.1,Array.length_toList];exact k
theorem Gj(h:∀ v∈l,v<2 ^ 64):Hn (u4 n k l s):=by
 intro i st hi;have hi:(Quilt.stepsOf n l)[i]?=some st:=by
  have:(u4 n k l s).steps.toList[i]?=some st:=by rw[Array.getElem?_toList];exact hi
  exact this
 rw[kx] at hi;have hm:=mem_of_getElem? hi;obtain⟨q,_,rfl⟩:=mem_map.1 hm;show l.getD (5*q+4) 0<2 ^ 64;rw[getD_eq_getElem?_getD]
 cases e:l[5*q+4]? with
 | none=>decide
 | some v=>exact h v (mem_of_getElem? e)
theorem wR(T:Tx K mg):bg P w K mg base 4 "call_start" ["machine","reader"] (oK T (fun x:List Nat×List Nat=>((x.1.length:Nat):Int)::(QM.nI x.1++(((x.2.length:Nat):Int)::(QM.nI x.2++[])))) (fun x=>.start x.1 x.2) (fun x=>(∀ v∈x.1,v<2 ^ 64)∧x.1.length≤5200∧x.2.length≤1700)):=by
 refine bg.of ["steps","shapes"] T.zK fun sc H Q E hr h=>?_
 obtain⟨⟨l,s0⟩,ma,rd,a,ns,pos,m,r,rfl,env,hat,⟨hv,hl1,hl2⟩,post⟩:=h;dsimp only at hat post hv hl1 hl2;refine⟨_,(ab (sS 2 sc.nd (aO (T.aG) (aW T) hr.m (pv 1))) (ab (sS 3 sc.nd (aO (T.aG) (aW T) hr.m (pv 1))) (ab (aU (dF (cf (aA (wO T) hr.m (aa (pv 2) (aa (pv 3) ae))))) (bu (aJ (aa (am T.eG) ae))) aF) (ab (aV (T.aX) (T.br) (pv 0) (aA (wK T) hr.m (aa (pv 2) (aa (pv 3) ae)))) (bu (aJ (aa (tW K T.eB (aa (ah (T.ap) (T.di) (ah (T.aX) (T.br) (pv 0))) ae)) ae))))))),?_⟩;walk_at "rd";refine env.row (jG hat) fun H1 p1 f1 env1 at1 np1 ep1 rp1=>?_
 refine env1.row (jG at1) fun H2 p2 f2 env2 at2 np2 ep2 rp2=>?_
 have post2:=(post.fr f1 pT).fr f2 pT;have epos:pos+1+(QM.nI l).length+1+(QM.nI s0).length=pos+(((l.length:Nat):Int)::(QM.nI l++(((s0.length:Nat):Int)::(QM.nI s0++[])))).length:=by simp;lia
 rw[epos] at env2;have k1:=f2.keep ep1 rp1 (by lia)
 refine⟨p1,p2,QM.nI l,QM.nI s0,rfl,aL.of k1.1,aL.of ep2,ob ?_⟩;rw[ak,ak]
 by_cases hb:l.length % 5≠0∨s0.length % 17≠0∨1024<l.length / 5
 ·rw[if_pos (decide_eq_false (fun z=>z hb))]
  have ep:Quilt.programOf l s0=none:=if_pos hb;have e:Quilt.step m (.start l s0)=(m,Quilt.BAD):=by show (match Quilt.programOf l s0 with | none=>(m,Quilt.BAD) | some p=>_)=_;rw[ep]
  rw[e] at post2
  exact⟨by decide,fun p np=>post2.new env2 (ai.new np) np af⟩
 ·rw[if_neg (by rw[decide_eq_true hb];decide)]
  have ep:Quilt.programOf l s0=some (u4 (l.length / 5) (s0.length / 17) l s0):=if_neg hb;have e:Quilt.step m (.start l s0)=(m.begun (u4 (l.length / 5) (s0.length / 17) l s0),Quilt.tells (u4 (l.length / 5) (s0.length / 17) l s0).steps.size []):=by show (match Quilt.programOf l s0 with | none=>(m,Quilt.BAD) | some p=>_)=_;rw[ep]
  rw[e] at post2;refine⟨p1,p2,l,s0,l.length / 5,s0.length / 17,r,rfl,aL.of k1.1,aL.of ep2,by lia,by lia,by lia,by lia,env2.mo.2.1,fun r3 H3 p s3 ro3 w3 np po=>?_⟩
  refine AR env2 s3 ro3 w3 po (Gj hv) fun H4 f4 env4 po4 hm4=>DJ hm4 po4 ⟨by decide,fun q nq=>?_⟩
  exact (post2.fr f4 (fun k hk=>⟨by lia,by lia⟩)).new env4 (ai.new nq) nq af
theorem Hr(e:Qw.End):QuiltNeutral.told (Quilt.told e)=QM.nI (k8 e):=by
 cases e with
 | done=>rfl
 | paused=>rfl
 | closed p s=>rfl
 | fault c=>rfl
theorem AF(T:Tx K mg):bg P w K mg base 11 "call_run" ["machine","reader"] (oK T (fun x:Nat=>[(x:Int)]) (fun x=>.run x) (fun _=>True)):=by
 refine bg.of ["rows"] T.C6 fun sc H Q E hr h=>?_
 obtain⟨rows,ma,rd,a,ns,pos,m,r,rfl,env,hat,_,post⟩:=h;dsimp only at hat post;refine⟨_,(ab (sS 2 sc.nd (aO (T.aG) (aE T) hr.m (pv 1))) (ab (aU (du iO (ah (T.aX) (T.br) (pv 0)) cH (fo _)) (bu (aJ (aa (am T.kQ) ae))) aF) (bu (aA (mN T false) hr.m (aa (ah (T.aX) (T.br) (pv 0)) (aa (ah (T.aX) (T.cU) (pv 0)) (aa (ah (T.aX) (T.cN) (pv 0)) (aa (pv 2) ae)))))))),?_⟩;walk_at "rd";refine env.num hat fun H1 f1 env1 at1=>?_
 have post1:=post.fr f1 pT;obtain⟨⟨dx,g,t,pv,h1,h2,h3,h4,h5⟩,h6,h7⟩:=id env1.mo;refine ag h1 rfl ?_
 cases hpg:m.prog with
 | none =>
  have hpv:pv=.non:=by unfold FI at h5;rw[hpg] at h5;exact h5
  subst hpv;have e:Quilt.step m (.run rows)=(m,Quilt.IDLE):=by show (if m.prog.isNone=true then _ else _)=_;rw[hpg];rfl
  rw[e] at post1;walk_at "rd"
  exact⟨by decide,fun p np=>post1.new env1 (ai.new np) np af⟩
 | some pr =>
  have h5':=h5;unfold FI at h5';rw[hpg] at h5';obtain⟨p,rfl,po,pw,hhow⟩:=h5';have es:Quilt.step m (.run rows)=if m.how=0 then (m,Quilt.told .done) else if m.how=3 then (m,Quilt.told (.fault m.fault)) else Quilt.settled (Qw.runs false (Qw.fuel rows) m rows Qw.nothing):=by show (if m.prog.isNone=true then _ else _)=_;rw[hpg];rfl
  rw[es] at post1;rw[if_neg (fun z=>nomatch z)]
  refine ag h1 rfl (ag h1 rfl (ag h1 rfl ?_));refine⟨p,g,t,r,pr,m,Qw.nothing,rows,lM m,rfl,⟨po,h4,h3,h6⟩,pw,fun l b hen hb hrb=>?_,fun hen=>?_⟩
  ·have hl:m.how≠1:=fun z=>by unfold lM at hen;rw[if_pos z] at hen;cases hen
   unfold lM at hen;rw[if_neg hl] at hen
   by_cases h0:m.how=0
   ·rw[if_pos h0] at hen post1;obtain rfl:=Option.some.inj hen;exact post1 r H1 b (Fr.refl h6) env1 hb hrb
   ·rw[if_neg h0] at hen;rw[if_neg h0,if_pos (by lia)] at post1
    obtain rfl:=Option.some.inj hen;exact post1 r H1 b (Fr.refl h6) env1 hb hrb
  ·have hw1:m.how=1:=by
    unfold lM at hen
    by_cases z:m.how=1
    ·exact z
    ·rw[if_neg z] at hen;split at hen<;>cases hen
   rw[if_neg (by lia),if_neg (by lia),D9] at post1
   refine⟨⟨h7,hpg,hw1⟩,fun r2 H2 b e m' ta' f2 hb hrb hrun rep2 go2=>?_⟩
   rw[hrun] at post1;have n0:¬ Rg (rl false 0) (rl false 32) 0:=by unfold rl;simp
   have k1:=f2.keep h1 h2 (by unfold rl;simp)
   obtain⟨dr,hr1⟩:=env1.ro;have kr:=f2.keep hr1 env1.rr (by unfold rl;simp)
   have hg2:BR T false r2 H2 g m' Qw.nothing:=rep2.go.cg (fun _=>rfl) (fun _=>rfl) (fun z=>by cases z)
   have dO:∀ m'':Qw.Mach,m''.ground=m'.ground→m''.pages=m'.pages→m''.shape=m'.shape→m''.tiles=m'.tiles→m''.r=m'.r→m''.prog=m'.prog→m''.step=m'.step→m''.paid=m'.paid→lM m''=G6 e→(m''.how=0∨m''.how=1∨m''.how=3)→Env T r2 H2 ma rd a ns (pos+1) m'':=fun m'' q1 q2 q3 q4 q5 q6 q7 q8 q9 Cv=>by
    refine⟨⟨⟨dx,g,t,.ref p,k1.1,k1.2,hg2.cg (fun _=>q1) (fun _=>q2) (fun z=>by cases z),rep2.to.cg q3 q4,?_⟩,f2.wf,go2.wf.same q1 q2 q3 q4 q5⟩,⟨dr,kr.1⟩,kr.2,env1.sq.fr f2 n0⟩
    unfold FI;rw[q6,go2.pg];refine⟨p,rfl,?_,pw,Cv⟩;rw[q7,q8,q5,q9];exact rep2.po
   have post2:=post1.fr f2 (DD (by decide))
   cases e with
   | done=>exact post2 r2 H2 b (Fr.refl f2.wf) (dO { m' with how:=0 } rfl rfl rfl rfl rfl rfl rfl rfl rfl (.inl rfl)) hb hrb
   | fault c=>exact post2 r2 H2 b (Fr.refl f2.wf) (dO { m' with how:=3,fault:=c } rfl rfl rfl rfl rfl rfl rfl rfl rfl (.inr (.inr rfl))) hb hrb
   | paused=>exact post2 r2 H2 b (Fr.refl f2.wf) (dO m' rfl rfl rfl rfl rfl rfl rfl rfl (by unfold lM;rw[if_pos go2.hw];rfl) (.inr (.inl go2.hw))) hb hrb
   | closed q s=>exact post2 r2 H2 b (Fr.refl f2.wf) (dO m' rfl rfl rfl rfl rfl rfl rfl rfl (by unfold lM;rw[if_pos go2.hw];rfl) (.inr (.inl go2.hw))) hb hrb
theorem wS(T:Tx K mg):bg P w K mg base 1 "call_stand" ["machine","reader"] (oK T (fun _:Unit=>[]) (fun _=>.stand) (fun _=>True)):=by
 refine bg.of ["program","how"] T.zL fun sc H Q E hr h=>?_
 obtain⟨_,ma,rd,a,ns,pos,m,r,rfl,env,hat,_,post⟩:=h;dsimp only at hat post;refine⟨_,(ab (sS 2 sc.nd (ah (T.aX) (T.br) (pv 0))) (ab (aU (du iO (pv 2) cH (fo _)) (bu (aJ (aa (am T.kQ) ae))) aF) (ab (sS 3 sc.nd (dw (du iO (ah (T.ap) (T.cM) (pv 2)) cH (fo _)) (am T.A7) (xL K (ah (T.ap) (T.cM) (pv 2)) aj))) (bu (aq jL (aJ (aa (pv 3) (aa (ah (T.ap) (T.cC) (pv 2)) (aa (ah (T.ap) (T.cn) (pv 2)) (aa (ah (T.ba false) (T.bU false) (ah (T.aX) (T.cN) (pv 0))) ae))))) (ah (T.ap) (T.cq) (pv 2))))))),?_⟩;walk_at "rd";obtain⟨⟨dx,g,t,pv,h1,h2,h3,h4,h5⟩,h6,h7⟩:=id env.mo;refine ag h1 rfl ?_
 cases hpg:m.prog with
 | none =>
  have hpv:pv=.non:=by unfold FI at h5;rw[hpg] at h5;exact h5
  subst hpv;have e:Quilt.step m .stand=(m,Quilt.IDLE):=by show (m,if m.prog.isNone=true then _ else _)=_;rw[hpg];rfl
  rw[e] at post;walk_at "rd"
  exact⟨by decide,fun p np=>post.new env (ai.new np) np af⟩
 | some pr =>
  have h5':=h5;unfold FI at h5';rw[hpg] at h5';obtain⟨p,rfl,po,pw,hhow⟩:=h5';have es:Quilt.step m .stand=(m,Quilt.tells m.how ([m.step,m.paid,m.shape.start]++m.r)):=by show (m,if m.prog.isNone=true then _ else _)=_;rw[hpg];rfl
  rw[es] at post;obtain⟨dxp,st,sh,nb,ev,hp,_,_,_,hnb,_,hev⟩:=id po;rw[if_neg (fun z=>nomatch z)]
  have rest:∀ (hv:Int),hv=(m.how:Int)→yE T.aS "at" (.ref p) H fun x_1 H1=>yE T.aS "paid" (.ref p) H1 fun x_2 H1=>yE T.cZ "tiles" (.ref ma) H1 fun x_3 H1=>yE (T.dY false) "start_row" x_3 H1 fun x_4 H1=>4≤sizeLine∧∀ p_1,H1 p_1=none→yE T.aS "numbers" (.ref p) (upd H1 p_1 (.lst [.int hv,x_1,x_2,x_4])) fun y H2=>HW (.ref p_1) y H2 Q:=fun hv ehv=>by
   subst ehv;refine ag hp rfl (ag hp rfl (ag h1 rfl (xX h4 ⟨by decide,fun q nq=>?_⟩)))
   have s1:=ai.new (o:=.lst [.int (m.how:Int),.int (m.step:Int),.int (m.paid:Int),.int (m.shape.start:Int)]) nq;refine ag (s1 _ _ hp) rfl (jI af (s1 _ _ hnb) (by rw[aM,ak,h7.rl];show 4+8≤sizeLine;decide) fun q2 nq2=>?_)
   refine post.new env (s1.trans (ai.new nq2)) (s1.free nq2) ?_
   rw[af];rfl
  refine ag hp rfl ?_
  unfold lM at hev
  by_cases hw1:m.how=1
  ·rw[if_pos hw1] at hev;obtain rfl:ev=.non:=hev;rw[if_pos rfl];exact rest 1 (by rw[hw1];rfl)
  ·rw[if_neg hw1] at hev
   by_cases h0:m.how=0
   ·rw[if_pos h0] at hev;obtain⟨b,rfl,hb,hrb⟩:=hev;rw[if_neg (show ¬ V.ref b=V.non from fun z=>nomatch z)]
    exact ag hp rfl (bj (j:=0) (aL.of hb) rfl (by show 0<1;decide) (rest 0 (by rw[h0];rfl)))
   ·rw[if_neg h0] at hev;obtain⟨b,rfl,hb,hrb⟩:=hev;rw[if_neg (show ¬ V.ref b=V.non from fun z=>nomatch z)]
    exact ag hp rfl (bj (j:=0) (aL.of hb) rfl (by show 0<2;decide) (rest 3 (by rw[show m.how=3 by lia];rfl)))
theorem AI(T:Tx K mg):bg P w K mg base 12 "call_dry" ["machine","reader"] (oK T (fun x:Nat=>[(x:Int)]) (fun x=>.dry x) (fun _=>True)):=by
 refine bg.of ["rows"] T.C9 fun sc H Q E hr h=>?_
 obtain⟨rows,ma,rd,a,ns,pos,m,r,rfl,env,hat,_,post⟩:=h;dsimp only at hat post;refine⟨_,(ab (sS 2 sc.nd (aO (T.aG) (aE T) hr.m (pv 1))) (ab (aU (du iO (ah (T.aX) (T.br) (pv 0)) cH (fo _)) (bu (aJ (aa (am T.kQ) ae))) aF) (bu (aA (CH T) hr.m (aa (ah (T.aX) (T.br) (pv 0)) (aa (ah (T.aX) (T.cN) (pv 0)) (aa (pv 2) ae))))))),?_⟩;walk_at "rd";refine env.num hat fun H1 f1 env1 at1=>?_
 have post1:=post.fr f1 pT;obtain⟨⟨dx,g,t,pv,h1,h2,h3,h4,h5⟩,h6,h7⟩:=id env1.mo;refine ag h1 rfl ?_
 cases hpg:m.prog with
 | none =>
  have hpv:pv=.non:=by unfold FI at h5;rw[hpg] at h5;exact h5
  subst hpv;have e:Quilt.step m (.dry rows)=(m,Quilt.IDLE):=by show (m,if m.prog.isNone=true then _ else _)=_;rw[hpg];rfl
  rw[e] at post1;walk_at "rd"
  exact⟨by decide,fun p np=>post1.new env1 (ai.new np) np af⟩
 | some pr =>
  have h5':=h5;unfold FI at h5';rw[hpg] at h5';obtain⟨p,rfl,po,pw,hhow⟩:=h5';have es:∀ x:Qw.End×Qw.Mach×Qw.Tally,x=(if m.how=0 then (Qw.End.done,m,Qw.nothing) else if m.how=3 then (.fault m.fault,m,Qw.nothing) else Qw.runs true (Qw.fuel rows) m rows Qw.nothing)→Quilt.step m (.dry rows)=(m,⟨(Quilt.told x.1).num,(Quilt.told x.1).more++[x.2.1.step,x.2.2.rows,Qw.bitsOf x.2.2.read,Qw.bitsOf x.2.2.written]⟩):=fun x hx=>by
   subst hx;show (m,if m.prog.isNone=true then _ else _)=_;rw[hpg];rfl
  have tl:∀ (e:Qw.End) (l:List Nat),QuiltNeutral.told ⟨(Quilt.told e).num,(Quilt.told e).more++l⟩=QM.nI (k8 e++l):=fun e l=>by
   have:=Hr e
   cases e<;>rfl
  rw[if_neg (fun z=>nomatch z)]
  refine ag h1 rfl (ag h1 rfl ?_);refine⟨p,t,r,pr,m,rows,lM m,rfl,po,h4,h6,h7,pw,hpg,fun hen=>?_,fun l hen=>?_,fun r2 H2 b l f2 hb hrb q1 q2=>?_⟩
  ·unfold lM at hen
   by_cases z:m.how=1
   ·exact z
   ·rw[if_neg z] at hen;split at hen<;>cases hen
  ·unfold lM at hen
   split at hen
   ·cases hen
   ·split at hen<;>(obtain rfl:=Option.some.inj hen;simp)
  ·have env2:=env1.fr f2 (fun k hk=>by unfold rl;simp;lia)
   have post2:=post1.fr f2 (fun k hk=>⟨by have:=hk.1;unfold rl at *;simp at *;lia,by have:=hk.2;unfold rl at *;simp at *;lia⟩)
   by_cases h0:m.how=0
   ·have en0:lM m=some [0]:=by unfold lM;rw[if_neg (by lia),if_pos h0]
    rw[es (Qw.End.done,m,Qw.nothing) (by rw[if_pos h0])] at post2
    dsimp only at post2;rw[tl] at post2;rw[q1 _ en0] at hb;exact post2 r2 H2 b (Fr.refl f2.wf) env2 hb hrb
   ·by_cases h3:m.how=3
    ·have en0:lM m=some [3,m.fault]:=by unfold lM;rw[if_neg (by lia),if_neg h0]
     rw[es (.fault m.fault,m,Qw.nothing) (by rw[if_neg h0,if_pos h3])] at post2
     dsimp only at post2;rw[tl] at post2;rw[q1 _ en0] at hb;exact post2 r2 H2 b (Fr.refl f2.wf) env2 hb hrb
    ·have en0:lM m=none:=by unfold lM;rw[if_pos (by lia)]
     obtain⟨e,m',ta',hrun,hl⟩:=q2 en0;rw[es (e,m',ta') (by rw[if_neg h0,if_neg h3,D9,hrun])] at post2
     dsimp only at post2;rw[tl] at post2;rw[hl] at hb;exact post2 r2 H2 b (Fr.refl f2.wf) env2 hb hrb
def sU(x:(Nat×Nat×Nat)×List Nat):List Int:=(x.1.1:Int)::(x.1.2.1:Int)::(x.1.2.2:Int)::((x.2.length:Nat):Int)::(QM.nI x.2++[])
def N8(T:Tx K mg):Sp:=fun vs H Q _=>∃ ma rd a,∃ (ns:List Int) (pos:Nat),∃ m r,∃ (kind rows cols:Nat) (l:List Int),vs=[.ref rd]∧Env T r H ma rd a ns pos m∧At ns pos ((kind:Int)::(rows:Int)::(cols:Int)::l) ∧
 ∀ H' p,Fr (Rg 2 3) r H r H'→Env T r H' ma rd a ns (pos+1+1+1) m→At ns (pos+1+1+1) l→k0 T.jf H' p kind rows cols→r p=0→Q (.ref p) H'
theorem oG(T:Tx K mg):bg P w K mg base 3 "take_cloth" ["reader"] (N8 T):=by
 refine bg.of ["kind","rows","cols"] T.zy fun sc H Q E hr h=>?_
 obtain⟨ma,rd,a,ns,pos,m,r,kind,rows,cols,l,rfl,env,hat,k⟩:=h;refine⟨_,(ab (sS 1 sc.nd (aO (T.aG) (aE T) hr.m (pv 0))) (ab (sS 2 sc.nd (aO (T.aG) (aE T) hr.m (pv 0))) (ab (sS 3 sc.nd (aO (T.aG) (aE T) hr.m (pv 0))) (bu (fU (yY T) hr.m (aa (pv 1) (aa (pv 2) (aa (pv 3) ae)))))))),?_⟩;walk_at "rd";refine env.num hat fun H1 f1 env1 at1=>env1.num at1 fun H2 f2 env2 at2=>env2.num at2 fun H3 f3 env3 at3=>?_
 refine MQ fun x dx H4 nx s4 e4=>?_
 have f4:∀ S,Fr S r H3 r H4:=fun S=>Fr.same env3.mo.2.1 s4
 exact k H4 x (((f1.trans f2).trans f3).trans (f4 _)) (env3.fr (f4 fun _=>False) fun _ _ z=>z) at3 ⟨dx,e4⟩ (env3.mo.2.1 x nx)
theorem k0.fr(h:k0 C H a kind rows cols)(f:Fr S r H r' H')(hr:r a=0)(n0:¬ S 0):k0 C H' a kind rows cols:=let ⟨dx,h1⟩:=h;⟨dx,(f.keep h1 hr n0).1⟩
theorem wQ(T:Tx K mg):bg P w K mg base 5 "call_weave" ["machine","reader"] (oK T sU (fun x=>.weave x.1.1 x.1.2.1 x.1.2.2 x.2) (fun _=>True)):=by
 refine bg.of ["cloth","data"] T.zJ fun sc H Q E hr h=>?_
 obtain⟨⟨⟨kind,rows,cols⟩,l⟩,ma,rd,a,ns,pos,m,r,rfl,env,hat,_,post⟩:=h;dsimp only[sU] at hat post;refine⟨_,(ab (sS 2 sc.nd (aA (oG T) hr.m (aa (pv 1) ae))) (ab (sS 3 sc.nd (aO (T.aG) (aW T) hr.m (pv 1))) (ab (aU (PW.pt (g7 (dF (cf (aO (T.bK) (iT T) hr.m (pv 2)))) (fJ (gq il (tW K T.eB (aa (pv 3) ae)) (aO (T.bK) (fW T) hr.m (pv 2)))))) (bu (aJ (aa (am T.eG) ae))) aF) (bu (aA (iR T) hr.m (aa (aA (Gw T) hr.m (aa (pv 2) (aa (pv 3) ae))) ae)))))),?_⟩;walk_at "rd";refine⟨ma,rd,a,ns,pos,m,r,kind,rows,cols,_,rfl,env,hat,fun H1 c f1 env1 at1 hc rc=>?_⟩
 refine env1.row (jG at1) fun H2 p f2 env2 at2 np ep rp=>?_
 have post2:=(post.fr f1 pT).fr f2 pT;have hc2:=hc.fr f2 rc (by lia)
 obtain⟨dxc,hcc⟩:=id hc2;have epos:pos+1+1+1+1+(QM.nI l).length=pos+((kind:Int)::(rows:Int)::(cols:Int)::((l.length:Nat):Int)::(QM.nI l++[])).length:=by simp;lia
 rw[epos] at env2;have bad:(Quilt.weaveOk kind rows cols=false∨l.length≠Qw.unitOf kind*rows*cols)→1≤sizeLine∧∀ p,H2 p=none→Q (.ref p) (upd H2 p (.lst [V.int (-1)])):=fun hb=>by
  have e:Quilt.step m (.weave kind rows cols l)=(m,Quilt.BAD):=by show (m,_)=_;rw[if_pos hb]
  rw[e] at post2
  exact⟨by decide,fun p np=>post2.new env2 (ai.new np) np af⟩
 refine aT hcc rfl ⟨c,kind,rows,cols,rfl,hc2,trivial,ob (aN (fun e=>bad (.inl e)) fun e=>?_)⟩
 have hok:Quilt.weaveOk kind rows cols=true:=by simpa using e
 have hsz:=sZ.of hok;refine cQ (aL.of ep) (aT hcc rfl ⟨c,kind,rows,cols,rfl,hc2,⟨hsz.r2,hsz.c2⟩,?_⟩);walk_at "rd";rw[aM,ak];have emul:rows*cols*Qw.unitOf kind=Qw.unitOf kind*rows*cols:=by rw[Nat.mul_comm,Nat.mul_assoc]
 refine aN (fun e2=>bad (.inr (by rw[←emul];omega))) fun e2=>?_
 have hl:l.length=rows*cols*Qw.unitOf kind:=by lia
 have es:Quilt.step m (.weave kind rows cols l)=(m,Quilt.tells (Qw.woven kind l rows cols).length (Qw.woven kind l rows cols)):=by show (m,_)=_;rw[if_neg (by rw[hok];simp;rw[hl,emul])]
 rw[es] at post2;refine⟨c,p,kind,rows,cols,l,rfl,hc2,aL.of ep,hsz,hl,fun q H3 s3 nq eq=>?_⟩
 have ew:(bd kind rows cols).map (LO l)=QM.nI (Qw.woven kind l rows cols):=by
  rw[←FM kind rows cols l (by rw[hl,emul])]
  unfold QM.nI;rw[map_map];apply map_congr_left;intro o _
  cases o<;>rfl
 dsimp only at eq;rw[ew] at eq;have hlen:(QM.nI (Qw.woven kind l rows cols)).length≤100000:=by
  rw[←ew,length_map,kF];have h1:cols*4≤64*4:=Nat.mul_le_mul hsz.c2 (by decide)
  have:Qw.wovenRows kind rows*(cols*4)≤64*(64*4):=Nat.mul_le_mul hsz.wr h1
  lia
 refine⟨q,_,rfl,eq,hlen,fun q2 H4 s4 nq2 eq2=>?_⟩
 dsimp only at eq2;rw[ak] at eq2;exact post2.new env2 (s3.trans s4) (s3.free nq2) eq2
theorem tG(T:Tx K mg):bg P w K mg base 5 "call_unweave" ["machine","reader"] (oK T sU (fun x=>.unweave x.1.1 x.1.2.1 x.1.2.2 x.2) (fun _=>True)):=by
 refine bg.of ["cloth","data"] T.we fun sc H Q E hr h=>?_
 obtain⟨⟨⟨kind,rows,cols⟩,l⟩,ma,rd,a,ns,pos,m,r,rfl,env,hat,_,post⟩:=h;dsimp only[sU] at hat post;refine⟨_,(ab (sS 2 sc.nd (aA (oG T) hr.m (aa (pv 1) ae))) (ab (sS 3 sc.nd (aO (T.aG) (aW T) hr.m (pv 1))) (ab (aU (PW.pt (g7 (dF (cf (aO (T.bK) (iT T) hr.m (pv 2)))) (fJ (gq il (tW K T.eB (aa (pv 3) ae)) (aO (T.bK) (lF T) hr.m (pv 2)))))) (bu (aJ (aa (am T.eG) ae))) aF) (bu (aA (iR T) hr.m (aa (aA (CB T) hr.m (aa (pv 2) (aa (pv 3) ae))) ae)))))),?_⟩;walk_at "rd";refine⟨ma,rd,a,ns,pos,m,r,kind,rows,cols,_,rfl,env,hat,fun H1 c f1 env1 at1 hc rc=>?_⟩
 refine env1.row (jG at1) fun H2 p f2 env2 at2 np ep rp=>?_
 have post2:=(post.fr f1 pT).fr f2 pT;have hc2:=hc.fr f2 rc (by lia)
 obtain⟨dxc,hcc⟩:=id hc2;have epos:pos+1+1+1+1+(QM.nI l).length=pos+((kind:Int)::(rows:Int)::(cols:Int)::((l.length:Nat):Int)::(QM.nI l++[])).length:=by simp;lia
 rw[epos] at env2;have bad:(Quilt.weaveOk kind rows cols=false∨l.length≠Qw.unitOf kind*Qw.groupOf kind*Qw.wovenRows kind rows*cols)→1≤sizeLine∧∀ p,H2 p=none→Q (.ref p) (upd H2 p (.lst [V.int (-1)])):=fun hb=>by
  have e:Quilt.step m (.unweave kind rows cols l)=(m,Quilt.BAD):=by show (m,_)=_;rw[if_pos hb]
  rw[e] at post2
  exact⟨by decide,fun p np=>post2.new env2 (ai.new np) np af⟩
 refine aT hcc rfl ⟨c,kind,rows,cols,rfl,hc2,trivial,ob (aN (fun e=>bad (.inl e)) fun e=>?_)⟩
 have hok:Quilt.weaveOk kind rows cols=true:=by simpa using e
 have hsz:=sZ.of hok;refine cQ (aL.of ep) (aT hcc rfl ⟨c,kind,rows,cols,rfl,hc2,⟨hsz.r2,hsz.c2⟩,?_⟩);walk_at "rd";rw[aM,ak];have emul:Qw.wovenRows kind rows*cols*4=Qw.unitOf kind*Qw.groupOf kind*Qw.wovenRows kind rows*cols:=by
  rw[Nat.mul_comm (Qw.unitOf kind),QM.gu,Nat.mul_assoc 4,Nat.mul_comm 4]
 refine aN (fun e2=>bad (.inr (by rw[←emul];lia))) fun e2=>?_
 have hl:l.length=Qw.wovenRows kind rows*cols*4:=by lia
 have es:Quilt.step m (.unweave kind rows cols l)=(m,Quilt.tells (Qw.unwoven kind l rows cols).length (Qw.unwoven kind l rows cols)):=by show (m,_)=_;rw[if_neg (by rw[hok];simp;rw[hl,emul])]
 rw[es] at post2;refine⟨c,p,kind,rows,cols,l,rfl,hc2,aL.of ep,hsz,by show l.length=_;rw[kF,hl,Nat.mul_assoc],fun q H3 s3 nq eq=>?_⟩
 have ew:j5 kind rows cols (QM.nI l)=QM.nI (Qw.unwoven kind l rows cols):=B6 kind rows cols l (by rw[hl,emul])
 have hlen:(QM.nI (Qw.unwoven kind l rows cols)).length≤100000:=by
  rw[←ew,pk,xK,length_replicate]
  have:rows*cols*Qw.unitOf kind≤64*64*2:=Nat.mul_le_mul (Nat.mul_le_mul hsz.r2 hsz.c2) (by unfold Qw.unitOf;split<;>decide)
  lia
 dsimp only at eq;rw[ew] at eq;refine⟨q,_,rfl,eq,hlen,fun q2 H4 s4 nq2 eq2=>?_⟩
 dsimp only at eq2;rw[ak] at eq2;exact post2.new env2 (s3.trans s4) (s3.free nq2) eq2
def Ec(x:(Nat×Nat)×List Nat×List Nat×List Nat):List Int:=(x.1.1:Int)::(x.1.2:Int)::((x.2.1.length:Nat):Int)::(QM.nI x.2.1++(((x.2.2.1.length:Nat):Int)::(QM.nI x.2.2.1++(((x.2.2.2.length:Nat):Int)::(QM.nI x.2.2.2++[])))))
theorem yi{l:List Nat}{n:Nat}(h:∀ x∈l,x<n):∀ v∈QM.nI l,0≤v∧v<(n:Int):=by
 intro v hv;obtain⟨x,hx,rfl⟩:=mem_map.1 hv
 have:=h x hx
 lia
theorem AJ(T:Tx K mg):bg P w K mg base 7 "call_dot" ["machine","reader"] (oK T Ec (fun x=>.dot x.1.1 x.1.2 x.2.1 x.2.2.1 x.2.2.2) (fun x=>(∀ v∈x.2.1,v<2 ^ 32)∧(∀ v∈x.2.2.1,v<256)∧∀ v∈x.2.2.2,v<256)):=by
 refine bg.of ["kind","rows","c","a","b"] T.Da fun sc H Q E hr h=>?_
 obtain⟨⟨⟨kind,rows⟩,cl,al,bl⟩,ma,rd,a0,ns,pos,m,r,rfl,env,hat,⟨hv1,hv2,hv3⟩,post⟩:=h;dsimp only[Ec] at hat post hv1 hv2 hv3;refine⟨_,(ab (sS 2 sc.nd (aO (T.aG) (aE T) hr.m (pv 1))) (ab (sS 3 sc.nd (aO (T.aG) (aE T) hr.m (pv 1))) (ab (sS 4 sc.nd (aO (T.aG) (aW T) hr.m (pv 1))) (ab (sS 5 sc.nd (aO (T.aG) (aW T) hr.m (pv 1))) (ab (sS 6 sc.nd (aO (T.aG) (aW T) hr.m (pv 1))) (ab (aU (dF (cf (aA (wN T) hr.m (aa (pv 2) (aa (pv 3) (aa (pv 4) (aa (pv 5) (aa (pv 6) ae)))))))) (bu (aJ (aa (am T.eG) ae))) aF) (bu (aA (im T) hr.m (aa (aA (vi T) hr.m (aa (pv 2) (aa (pv 4) (aa (pv 5) (aa (aA (mP T) hr.m (aa (pv 6) (aa (am T.qo) ae))) ae))))) ae))))))))),?_⟩;walk_at "rd";refine env.num hat fun H1 f1 env1 at1=>env1.num at1 fun H2 f2 env2 at2=>?_
 refine env2.row (jG at2) fun H3 pc f3 env3 at3 np3 ep3 rp3=>?_
 refine env3.row (jG at3) fun H4 pa f4 env4 at4 np4 ep4 rp4=>?_
 refine env4.row (jG at4) fun H5 pb f5 env5 at5 np5 ep5 rp5=>?_
 have post5:=((((post.fr f1 pT).fr f2 pT).fr f3 pT).fr f4 pT).fr f5 pT;have epos:pos+1+1+1+(QM.nI cl).length+1+(QM.nI al).length+1+(QM.nI bl).length=pos+((kind:Int)::(rows:Int)::((cl.length:Nat):Int)::(QM.nI cl++(((al.length:Nat):Int)::(QM.nI al++(((bl.length:Nat):Int)::(QM.nI bl++[])))))).length:=by simp;lia
 rw[epos] at env5;have kc:=f5.keep (f4.keep ep3 rp3 (by lia)).1 rp3 (by lia)
 have ka:=f5.keep ep4 rp4 (by lia)
 refine⟨kind,rows,pc,pa,pb,QM.nI cl,QM.nI al,QM.nI bl,rfl,aL.of kc.1,aL.of ka.1,aL.of ep5,ob ?_⟩;rw[ak,ak,ak]
 by_cases hb:4<kind∨rows=0∨16<rows∨cl.length≠16∨al.length≠4*rows∨bl.length≠64*rows
 ·rw[if_pos (decide_eq_false (fun z=>z hb))]
  have e:Quilt.step m (.dot kind rows cl al bl)=(m,Quilt.BAD):=by show (m,_)=_;rw[if_pos (show 4<kind∨rows=0∨Qw.HIGH<rows∨cl.length≠16∨al.length≠4*rows∨bl.length≠Qw.WIDE*rows from hb)]
  rw[e] at post5
  exact⟨by decide,fun p np=>post5.new env5 (ai.new np) np af⟩
 rw[if_neg (by rw[decide_eq_true hb];decide)]
 have hk:kind≤4:=by lia
 have hr1:1≤rows:=by lia
 have hr2:rows≤16:=by lia
 have hcl:cl.length=16:=by lia
 have hal:al.length=4*rows:=by lia
 have hbl:bl.length=64*rows:=by lia
 have hvd:=Ab kind rows cl al bl hk hr1 hr2 hcl hal hbl hv1 hv2 hv3;refine⟨pb,_,rows,64,rfl,aL.of ep5,by rw[ak];exact hbl,by decide,by decide,by lia,fun q as H6 s6 nq na hq hl=>?_⟩
 have hparts:∀ l∈eK (QM.nI bl) rows 64,l.length=64∧∀ v∈l,0≤v∧v<256:=fun l hl=>by
  obtain⟨i,hi,rfl⟩:=mem_map.1 hl;have hi:=mem_range.1 hi;refine⟨by rw[length_take,length_drop,ak];lia,fun v hv=>yi hv3 v (List.mem_of_mem_drop (mem_of_mem_take hv))⟩
 have hpl:(eK (QM.nI bl) rows 64).length=rows:=by unfold eK;simp
 have hph:((eK (QM.nI bl) rows 64).headD []).length=64:=by
  cases hp:eK (QM.nI bl) rows 64 with
  | nil=>rw[hp] at hpl;simp at hpl;lia
  | cons z zs=>exact (hparts z (by rw[hp];exact mem_cons_self)).1
 refine⟨kind,pc,pa,q,_,_,_,rfl,s6 _ _ kc.1,s6 _ _ ka.1,⟨as,hq,hl⟩,⟨by rw[ak];lia,⟨by rw[ak];lia,yi hv2⟩,by rw[ak];lia,fun l hl=>⟨by have:=(hparts l hl).1;lia,(hparts l hl).2⟩,fun l hl=>⟨by rw[(hparts l hl).1,hph],by have:=(hparts l hl).1;lia⟩,by rw[hpl];lia,by rw[hpl];lia⟩,fun hn H7 s7=>?_,fun l hsm q7 H7 s7 nq7 eq7=>?_⟩
 ·have ev:Qw.valueDot kind cl al bl rows=none:=by
   rw[hn] at hvd
   cases hx:Qw.valueDot kind cl al bl rows with
   | none=>rfl
   | some x=>rw[hx] at hvd;cases hvd
  have e:Quilt.step m (.dot kind rows cl al bl)=(m,Quilt.FAR):=by show (m,_)=_;rw[if_neg (show ¬ (4<kind∨rows=0∨Qw.HIGH<rows∨cl.length≠16∨al.length≠4*rows∨bl.length≠Qw.WIDE*rows) from hb),ev]
  rw[e] at post5;exact .inl ⟨rfl,fun p H8 s8 np ep=>post5.new env5 ((s6.trans s7).trans s8) ((s6.trans s7).free np) ep⟩
 ·obtain⟨x,ev,ex⟩:∃ x,Qw.valueDot kind cl al bl rows=some x∧l=QM.nI x:=by
   rw[hsm] at hvd
   cases hx:Qw.valueDot kind cl al bl rows with
   | none=>rw[hx] at hvd;cases hvd
   | some x=>rw[hx] at hvd;exact⟨x,rfl,Option.some.inj hvd⟩
  have hx16:x.length=16:=by
   unfold Qw.valueDot at ev
   split at ev
   ·cases ev
   ·rw[←Option.some.inj ev];simp
  have e:Quilt.step m (.dot kind rows cl al bl)=(m,Quilt.tells 16 x):=by show (m,_)=_;rw[if_neg (show ¬ (4<kind∨rows=0∨Qw.HIGH<rows∨cl.length≠16∨al.length≠4*rows∨bl.length≠Qw.WIDE*rows) from hb),ev]
  rw[e] at post5;subst ex;refine .inr ⟨q7,_,rfl,eq7,by rw[ak];lia,fun p H8 s8 np ep=>post5.new env5 ((s6.trans s7).trans s8) ((s6.trans s7).free np) ?_⟩
  rw[ep,ak,hx16];rfl
def Eb(x:Nat×List Nat):List Int:=(x.1:Int)::((x.2.length:Nat):Int)::(QM.nI x.2++[])
theorem o6(h:Quilt.jobOf l=some j):dJ j∧BQ j∧j=tL l:=by
 by_cases h10:l.length=10
 ·rw[vD l h10] at h
  split at h
  ·rename_i hok
   obtain rfl:=Option.some.inj h
   exact⟨((QM.ok_iff _).1 hok).1,((QM.ok_iff _).1 hok).2,rfl⟩
  ·cases h
 ·rw[vC l h10] at h;cases h
theorem tH(T:Tx K mg):bg P w K mg base 8 "call_product" ["machine","reader"] (oK T Eb (fun x=>.product x.1 x.2) (fun x=>∀ v∈x.2,v<2 ^ 64)):=by
 refine bg.of ["i","job"] T.wg fun sc H Q E hr h=>?_
 obtain⟨⟨i,l⟩,ma,rd,a0,ns,pos,m,r,rfl,env,hat,hv,post⟩:=h;dsimp only[Eb] at hat post hv;refine⟨_,(ab (sS 2 sc.nd (aO (T.aG) (aE T) hr.m (pv 1))) (ab (sS 3 sc.nd (aA (x9 T) hr.m (aa (aO (T.aG) (aW T) hr.m (pv 1)) ae))) (ab (aU (PW.pt (g7 (du iO (pv 3) cH (fo _)) (fJ (gq AB (pv 2) (ah (T.aR) (T.js) (pv 3)))))) (bu (aJ (aa (am T.eG) ae))) aF) (bu (aA (im T) hr.m (aa (aA (vg T) hr.m (aa (pv 3) (aa (ah (T.aX) (T.cU) (pv 0)) (aa (pv 2) ae)))) ae)))))),?_⟩;walk_at "rd";refine env.num hat fun H1 f1 env1 at1=>env1.row (jG at1) fun H2 p f2 env2 at2 np ep rp=>?_
 have post2:=(post.fr f1 pT).fr f2 pT;have epos:pos+1+1+(QM.nI l).length=pos+((i:Int)::((l.length:Nat):Int)::(QM.nI l++[])).length:=by simp;lia
 rw[epos] at env2;refine⟨p,l,rfl,aL.of ep,hv,fun hn H3 s3=>?_,fun j hj x H3 s3 nx hx=>?_⟩
 ·have e:Quilt.step m (.product i l)=(m,Quilt.BAD):=by show (m,match Quilt.jobOf l with | none=>_ | some j=>_)=_;rw[hn]
  rw[e] at post2;walk_at "rd"
  exact⟨by decide,fun p np=>post2.new env2 (s3.trans (ai.new np)) (s3.free np) af⟩
 ·obtain⟨hsz,hly,_⟩:=o6 hj;obtain⟨dj,ja,jb,jc,hjj,_⟩:=id hx;have e:Quilt.step m (.product i l)=(m,if j.m≤i then Quilt.BAD else match (List.range j.n).mapM fun (q:Nat)=>Qw.product j m.ground i q j.blocks with | none=>Quilt.FAR | some r=>Quilt.tells r.length r):=by
   show (m,match Quilt.jobOf l with | none=>_ | some j=>_)=_
   rw[hj];rfl
  rw[e] at post2;rw[if_neg (show ¬ V.ref x=V.non from fun z=>nomatch z)]
  refine ag hjj rfl ?_
  walk_at "rd";refine aN (fun e1=>?_) fun e1=>?_
  ·rw[if_pos (by lia)] at post2
   exact⟨by decide,fun p np=>post2.new env2 (s3.trans (ai.new np)) (s3.free np) af⟩
  rw[if_neg (by lia)] at post2
  obtain⟨⟨dx,g,t,pv,h1,h2,⟨dg,c,pa,h3,h3r,⟨h3c,h3cr⟩,_⟩,h4,h5⟩,h6,h7⟩:=id env2.mo;have hpe:=Cy j hsz.kd hsz.n1 m.ground h7.gb i;refine ag (s3 _ _ h1) rfl ⟨x,g,c,pa,j,i,m,rfl,hx,hsz,hly,by lia,⟨dg,s3 _ _ h3⟩,s3 _ _ h3c,h7,fun hn H4 s4=>?_,fun lr hsm q H4 s4 nq eq=>?_⟩
  ·have ev:((List.range j.n).mapM fun (q:Nat)=>Qw.product j m.ground i q j.blocks)=none:=by
    rw[hn] at hpe
    cases hx2:(List.range j.n).mapM fun (q:Nat)=>Qw.product j m.ground i q j.blocks with
    | none=>rfl
    | some y=>rw[hx2] at hpe;cases hpe
   rw[ev] at post2;exact .inl ⟨rfl,fun p H8 s8 np ep=>post2.new env2 ((s3.trans s4).trans s8) ((s3.trans s4).free np) ep⟩
  ·obtain⟨y,ev,ey⟩:∃ y,((List.range j.n).mapM fun (q:Nat)=>Qw.product j m.ground i q j.blocks)=some y∧lr=QM.nI y:=by
    rw[hsm] at hpe
    cases hx2:(List.range j.n).mapM fun (q:Nat)=>Qw.product j m.ground i q j.blocks with
    | none=>rw[hx2] at hpe;cases hpe
    | some y=>rw[hx2] at hpe;exact⟨y,rfl,Option.some.inj hpe⟩
   rw[ev] at post2;have hyl:lr.length≤100000:=by
    rcases ub j hsz.kd hsz.n1 m.ground h7.gb i j.blocks (Nat.le_refl _) with ⟨z1,_⟩ | ⟨z,z1,_⟩
    ·rw[z1] at hsm;cases hsm
    ·rw[z1] at hsm;rw[←Option.some.inj hsm]
     have:=hsz.n2
     simp;lia
   subst ey;refine .inr ⟨q,_,rfl,eq,hyl,fun p H8 s8 np ep=>post2.new env2 ((s3.trans s4).trans s8) ((s3.trans s4).free np) ?_⟩
   rw[ep,ak];rfl
theorem MY(pr:Qw.Program)(h:∀ s∈pr.steps.toList,s.v<2 ^ 64):Hn pr:=fun i s e=>h s (mem_of_getElem? (i:=i) (by rw[Array.getElem?_toList];exact e))
theorem y9(T:Tx K mg):bg P w K mg base 6 "call_plan" ["machine","reader"] (oK T (fun x:List Nat=>((x.length:Nat):Int)::(QM.nI x++[])) (fun x=>.plan x) (fun x=>(∀ v∈x,v<2 ^ 64)∧∀ j,Quilt.jobOf x=some j→Hn j.plan)):=by
 refine bg.of ["job"] T.Br fun sc H Q E hr h=>?_
 obtain⟨l,ma,rd,a0,ns,pos,m,r,rfl,env,hat,⟨hv,hpw⟩,post⟩:=h;dsimp only at hat post hv hpw;refine⟨_,(ab (sS 2 sc.nd (aA (x9 T) hr.m (aa (aO (T.aG) (aW T) hr.m (pv 1)) ae))) (ab (aU (du iO (pv 2) cH (fo _)) (bu (aJ (aa (am T.eG) ae))) aF) (ab (aV (T.aX) (T.br) (pv 0) (aA (CC T) hr.m (aa (pv 2) ae))) (bu (aJ (aa (tW K T.eB (aa (ah (T.ap) (T.di) (ah (T.aX) (T.br) (pv 0))) ae)) ae)))))),?_⟩;walk_at "rd";refine env.row (jG hat) fun H2 p f2 env2 at2 np ep rp=>?_
 have post2:=post.fr f2 pT;have epos:pos+1+(QM.nI l).length=pos+(((l.length:Nat):Int)::(QM.nI l++[])).length:=by simp;lia
 rw[epos] at env2;refine⟨p,l,rfl,aL.of ep,hv,fun hn H3 s3=>?_,fun j hj x H3 s3 nx hx=>?_⟩
 ·have e:Quilt.step m (.plan l)=(m,Quilt.BAD):=by
   show (match Quilt.jobOf l with | none=>(m,Quilt.BAD) | some j=>_)=_
   rw[hn]
  rw[e] at post2;walk_at "rd"
  exact⟨by decide,fun p np=>post2.new env2 (s3.trans (ai.new np)) (s3.free np) af⟩
 ·obtain⟨hsz,hly,_⟩:=o6 hj;have e:Quilt.step m (.plan l)=(m.begun j.plan,Quilt.tells j.plan.steps.size []):=by
   show (match Quilt.jobOf l with | none=>(m,Quilt.BAD) | some j=>_)=_
   rw[hj]
  rw[e] at post2;rw[if_neg (show ¬ V.ref x=V.non from fun z=>nomatch z)]
  have f3:Fr (fun _=>False) r H2 r H3:=Fr.same env2.mo.2.1 s3
  have env3:=env2.fr f3 fun _ _ z=>z
  refine⟨x,j,r,rfl,hx,hsz,f3.wf,fun r4 H4 q s4 ro4 w4 nq po=>?_⟩
  refine AR env3 s4 ro4 w4 po (hpw j hj) fun H5 f5 env5 po5 hm5=>DJ hm5 po5 ⟨by decide,fun z nz=>?_⟩
  exact ((post2.fr f3 fun _ z=>z.elim).fr f5 (fun k hk=>⟨by lia,by lia⟩)).new env5 (ai.new nz) nz af
theorem IL{l:List Nat}{B:Nat}(h:∀ v∈l,v<B)(hB:0<B)(i:Nat):l.getD i 0<B:=by
 rw[getD_eq_getElem?_getD]
 cases e:l[i]? with
 | none=>exact hB
 | some x=>exact h x (mem_of_getElem? e)
theorem zg(hi:i≤1000)(hs:s<B):i*s≤1000*B:=Nat.mul_le_mul hi (Nat.le_of_lt hs)
theorem BC(hj:dJ j)(ha:j.a<4294967296)(hb:j.b<4294967296)(hc:j.c<4294967296)(h1:j.as_<4294967296)(h2:j.bs<4294967296)(h3:j.cs<4294967296)(hi:i<1000)(hq:q<1000)(hn:n≤16):∀ s∈j.block i q n,s.v<18446744073709551616:=by
 intro s hs;have r1:j.rows / 16≤8:=by rw[nR];have:=hj.d2;lia
 have m1:=zg (i:=i) (by lia) h1
 have m3:=zg (i:=i) (by lia) h3
 unfold Qw.Job.block at hs;rw[mem_append,mem_append,mem_append] at hs;rcases hs with hs | hs | hs | hs
 ·rcases mem_cons.1 hs with rfl | hs
  ·show n<_;lia
  ·rw[mem_singleton.1 hs];show j.c+i*j.cs+4*q<_;lia
 ·obtain⟨b,hb1,hs⟩:=mem_flatMap.1 hs;have hb2:=mem_range.1 hb1;have m2:=zg (i:=16*b) (by lia) h2
  rcases mem_cons.1 hs with rfl | hs
  ·show j.a+i*j.as_+64*b<_;lia
  ·rcases mem_cons.1 hs with rfl | hs
   ·show j.b+16*b*j.bs+4*q<_;lia
   ·rw[mem_singleton.1 hs];show 0<_;lia
 ·have m2:=zg (i:=16*(j.rows / 16)) (by lia) h2
  split at hs
  ·cases hs
  ·rcases mem_cons.1 hs with rfl | hs
   ·show j.a+i*j.as_+64*(j.rows / 16)<_;lia
   ·rcases mem_cons.1 hs with rfl | hs
    ·show j.b+16*(j.rows / 16)*j.bs+4*q<_;lia
    ·rw[mem_singleton.1 hs];show 0<_;lia
 ·rw[mem_singleton.1 hs];show j.c+i*j.cs+4*q<_;lia
theorem HZ{l:List Nat}{j:Qw.Job}(hl:∀ v∈l,v<4294967296)(h:Quilt.jobOf l=some j):Hn j.plan:=by
 obtain⟨hs,_,e⟩:=o6 h;have g:=fun i=>IL hl (by decide) i
 have ha:j.a<4294967296:=by rw[e];exact g 4
 have hb:j.b<4294967296:=by rw[e];exact g 5
 have hc:j.c<4294967296:=by rw[e];exact g 6
 have h1:j.as_<4294967296:=by rw[e];exact g 7
 have h2:j.bs<4294967296:=by rw[e];exact g 8
 have h3:j.cs<4294967296:=by rw[e];exact g 9
 have key:∀ s∈j.plan.steps.toList,s.v<18446744073709551616:=by
  intro s hm;rw[ue] at hm;dsimp only at hm;rw[mem_append,mem_append] at hm;rcases hm with hm | hm | hm
  ·rcases mem_cons.1 hm with rfl | hm
   ·show j.as_<_;lia
   ·rcases mem_cons.1 hm with rfl | hm
    ·show j.bs<_;lia
    ·rw[mem_singleton.1 hm];show j.cs<_;lia
  ·obtain⟨z,hz,hm⟩:=mem_flatMap.1 hm;obtain⟨i,hi⟩:=getElem?_of_mem hz;rw[List.getElem?_zipIdx] at hi
   cases e2:(bJ j)[i]? with
   | none=>rw[e2] at hi;cases hi
   | some y =>
    rw[e2] at hi;have ez:(y,0+i)=z:=Option.some.inj hi;subst ez;have b:=wE j hs e2;have l16:=sO j hs;have hi2:=(List.getElem?_eq_some_iff.mp e2).1;exact BC hs ha hb hc h1 h2 h3 b.1 b.2.1 (by show 0+i≤16;lia) s hm
  ·rw[mem_singleton.1 hm];show 0<_;lia
 exact MY _ (fun s hs=>by have:=key s hs;exact Nat.lt_of_lt_of_le this (by decide))
theorem Ix{T:Tx K mg}{r:Ro}{H:Hp}{Q:Addr→Hp→Prop}{E:XK}(wf:Wf r H)(k:∀ r' H' g,Fr (Rg (rl false 1) (rl false 4)) r H r' H'→lQ T false r' H' g Qw.fresh.ground Qw.fresh.pages Qw.nothing→Q g H') :
  ∀ x dx,H x=none→H dx=none→dx≠x→DB T.cK [.ref x] (upd (upd H dx (.own x)) x (.ins T.cK dx [])) (fun v H2=>v=.non∧Q x H2) E:=by
 intro x dx hx hdx ne;have s0:ai H (upd (upd H dx (.own x)) x (.ins T.cK dx [])):=fun b o e=>by rw[ao (au e hx),ao (au e hdx)];exact e
 refine⟨x,dx,rfl,af,fun H' c pg ga nc npg ncp ec ep b=>⟨rfl,?_⟩⟩
 obtain⟨dg,hg⟩:=ga;have s1:ai H H':=fun a o e=>b a o (s0 a o e) (au e hx)
 have cx:c≠x:=fun z=>by rw[z,af] at nc;cases nc
 have px:pg≠x:=fun z=>by rw[z,af] at npg;cases npg
 have w1:Wf (giv (giv (giv r x (rl false 1)) c (rl false 2)) pg (rl false 3)) H':=Wf.giv (Wf.giv (Wf.giv (wf.same s1) (bB hg)) (bB ec)) (bB ep);have f1:Fr (Rg (rl false 1) (rl false 4)) r H (giv (giv (giv r x (rl false 1)) c (rl false 2)) pg (rl false 3)) H':=(((kv.refl.giv hx).giv (s0.free nc)).giv (s0.free npg)).fr s1 w1;refine k _ H' x f1 ⟨dg,c,pg,hg,?_,⟨?_,?_⟩,?_,cY⟩
 ·rw[gO (fun z=>px z.symm),gO (fun z=>cx z.symm),cY]
 ·rw[ec]
  have:QM.nI Qw.fresh.ground.toList=List.replicate 16384 0:=by
   show QM.nI (Array.replicate Qw.GROUND 0).toList=_;rw[Array.toList_replicate];unfold QM.nI Qw.GROUND;rw[map_replicate];rfl
  rw[this]
 ·rw[gO ncp,cY]
 ·rw[ep]
  have:QM.nI Qw.fresh.pages=List.replicate 16 2:=by
   show QM.nI (List.replicate Qw.PAGES 2)=_;unfold QM.nI Qw.PAGES;rw[map_replicate];rfl
  rw[this]
theorem Ey(h:jh T false r H t Qw.noShape (zR Qw.noShape)):hZ T false r H t Qw.fresh:=by
 have h0:∀ i,Qw.noShape.heights.getD i 0=0:=fun i=>by show (List.replicate Qw.TILES 0).getD i 0=0;exact d9 _ _ _
 refine⟨zR Qw.noShape,h,fun i hi=>⟨length_replicate,fun l hl=>?_⟩,fun _ i hi=>?_⟩
 ·unfold zR at hl;rw[eq_of_mem_replicate hl,length_replicate];rfl
 ·have e1:zR Qw.noShape i=[]:=by unfold zR;rw[h0 i];rfl
  have e2:Qw.fresh.height i=0:=h0 i;rw[e1,e2];rfl
def DA(T:Tx K mg):Sp:=fun vs H Q _=>∃ x dx r,vs=[.ref x]∧H x=some (.ins T.cZ dx [])∧r x=1∧Wf r H∧∀ r' H',Fr (Rg 1 128) r H r' H'→Fz T r' H' x Quilt.start→Q .non H'
theorem vh(T:Tx K mg):qL P w K mg base 5 "Machine" T.cZ ["self"] (DA T):=by
 refine qL.of [] T.xi T.E2 fun sc H Q E hr h=>?_
 obtain⟨x,dx,r,rfl,hx,hrx,wf,k⟩:=h;refine⟨_,(ab (aV (T.aX) (T.cU) (pv 0) (u7 (wM T) hr.m)) (ab (aV (T.aX) (T.cN) (pv 0) (u7 (yX T) hr.m)) (aB (aV (T.aX) (T.br) (pv 0) cH)))),?_⟩;walk_at "rd";refine Ix (T:=T) wf fun r1 H1 g f1 o1=>?_
 have k1:=f1.keep hx hrx (by unfold rl;simp)
 refine bv k1.1 (by show 0<1000;decide) ?_
 have f2:=Fr.upd (S:=Rg 1 2) (o':=.ins T.cZ dx (be "ground" (.ref g) [])) f1.wf k1.1 (by rw[k1.2];constructor<;>decide)
 refine DQ (T:=T) (d:=false) f2.wf fun r3 H3 t f3 nt o3=>?_
 have k3:=f3.keep af k1.2 (by unfold rl;simp)
 refine bv k3.1 (by show 1<1000;decide) ?_
 have f4:=Fr.upd (S:=Rg 1 2) (o':=.ins T.cZ dx (be "tiles" (.ref t) (be "ground" (.ref g) []))) f3.wf k3.1 (by rw[k3.2];constructor<;>decide)
 refine bv af (by show 2<1000;decide) ?_
 have f5:=Fr.upd (S:=Rg 1 2) (o':=.ins T.cZ dx (be "program" .non (be "tiles" (.ref t) (be "ground" (.ref g) [])))) f4.wf af (by rw[k3.2];constructor<;>decide)
 refine k r3 _ ((((f1.mono fun k hk=>?_).trans (f2.mono fun k hk=>?_)).trans (f3.mono fun k hk=>?_)).trans ((f4.trans f5).mono fun k hk=>?_)) ⟨⟨dx,g,t,.non,af,k3.2,?_,?_,rfl⟩,f5.wf,QM.WF.fresh⟩
 ·have:=hk.1;have:=hk.2;unfold rl at *;simp at *;lia
 ·have:=hk.1;have:=hk.2;lia
 ·have:=hk.1;have:=hk.2;unfold rl at *;simp at *;lia
 ·have:=hk.1;have:=hk.2;lia
 ·exact ((o1.fr f2 (fun k a b=>by unfold rl;simp;lia)).fr f3 (fun k a b=>by unfold rl;simp;lia)).fr (f4.trans f5) (fun k a b=>by unfold rl;simp;lia)
 ·exact Ey (o3.fr (f4.trans f5) (by lia) (fun k a b=>by unfold rl;simp;lia))
inductive z9(T:Tx K mg):Int→Sp→Prop
 | c1:z9 T 1 (oK T (fun x:Nat×Nat=>[(x.1:Int),(x.2:Int)]) (fun x=>.page x.1 x.2) (fun _=>True))
 | c2:z9 T 2 (oK T (fun x:Nat×List Nat=>(x.1:Int)::((x.2.length:Nat):Int)::QM.nI x.2) (fun x=>.put x.1 x.2) (fun x=>∀ v∈x.2,v<256))
 | c3:z9 T 3 (oK T (fun x:Nat×Nat=>[(x.1:Int),(x.2:Int)]) (fun x=>.get x.1 x.2) (fun x=>x.2≤8192))
 | c4:z9 T 4 (oK T (fun x:List Nat=>((x.length:Nat):Int)::(QM.nI x++[])) (fun x=>.shape x) (fun _=>True))
 | c5:z9 T 5 (oK T (fun _:Unit=>[]) (fun _=>.shown) (fun _=>True))
 | c6:z9 T 6 (oK T (fun x:Nat=>[(x:Int)]) (fun x=>.tile x) (fun _=>True))
 | c7:z9 T 7 (oK T (fun x:List Nat×List Nat=>((x.1.length:Nat):Int)::(QM.nI x.1++(((x.2.length:Nat):Int)::(QM.nI x.2++[])))) (fun x=>.start x.1 x.2) (fun x=>(∀ v∈x.1,v<2 ^ 64)∧x.1.length≤5200∧x.2.length≤1700))
 | c8:z9 T 8 (oK T (fun x:Nat=>[(x:Int)]) (fun x=>.run x) (fun _=>True))
 | c9:z9 T 9 (oK T (fun _:Unit=>[]) (fun _=>.stand) (fun _=>True))
 | c10:z9 T 10 (oK T (fun x:Nat=>[(x:Int)]) (fun x=>.dry x) (fun _=>True))
 | c11:z9 T 11 (oK T (fun x:List Nat=>((x.length:Nat):Int)::(QM.nI x++[])) (fun x=>.plan x) (fun x=>(∀ v∈x,v<2 ^ 64)∧∀ j,Quilt.jobOf x=some j→Hn j.plan))
 | c12:z9 T 12 (oK T Eb (fun x=>.product x.1 x.2) (fun x=>∀ v∈x.2,v<2 ^ 64))
 | c13:z9 T 13 (oK T sU (fun x=>.weave x.1.1 x.1.2.1 x.1.2.2 x.2) (fun _=>True))
 | c14:z9 T 14 (oK T sU (fun x=>.unweave x.1.1 x.1.2.1 x.1.2.2 x.2) (fun _=>True))
 | c15:z9 T 15 (oK T Ec (fun x=>.dot x.1.1 x.1.2 x.2.1 x.2.2.1 x.2.2.2) (fun x=>(∀ v∈x.2.1,v<2 ^ 32)∧(∀ v∈x.2.2.1,v<256)∧∀ v∈x.2.2.2,v<256))
def bN:List (Int×Str):=[(1,"call_page"),(2,"call_put"),(3,"call_get"),(4,"call_shape"),(5,"call_shown"),(6,"call_tile"),(7,"call_start"),(8,"call_run"),(9,"call_stand"),(10,"call_dry"),(11,"call_plan"),(12,"call_product"),(13,"call_weave"),(14,"call_unweave"),(15,"call_dot")]
def Hi(K:PySem.W.Frag)(mg:Str→Option Value)(x:Str)(names:List (Int×Str)):Prop:=∃ d kvs,mg x=some (.ref d)∧Es K d kvs∧∀ i n,(i,n)∈names→∃ f,mg n=some (.ref f)∧valueAt (kvs.map fun x=>(x.1,Value.ref x.2)) i=some (.ref f)
theorem fM{kvs:List (Int×Addr)}{k k':Nat}{i:Int}{n:Str}{ps:List Str}{sp:Sp}(h:∃ f,mg n=some (.ref f)∧valueAt (kvs.map fun x=>(x.1,Value.ref x.2)) i=some (.ref f))(F:bg P w K mg base k n ps sp)(hk:k≤k') :
  ∃ f fd,valueAt (kvs.map fun x=>(x.1,Value.ref x.2)) i=some (.ref f)∧ii P w K mg base FK k' f fd ps sp∧PySem.W.keepIn K (.ref f)=true∧io K fd ps []:=by
 obtain⟨f,h1,h2⟩:=h;obtain⟨f',fd,F,e,kp,b⟩:=F;rw[h1] at e;cases e
 exact⟨f,fd,h2,F.mono hk,kp,b⟩
theorem Gy(T:Tx K mg)(TC:Hi K mg "CALLS" bN):J0 P w K mg base 12 "CALLS" ["machine","reader"] (z9 T):=by
 obtain⟨d,kvs,h1,h2,h3⟩:=TC;refine⟨d,kvs,h1,h2,fun i sp h=>?_⟩
 cases h with
 | c1=>exact fM (h3 1 "call_page" (by simp[bN])) (za T) (by decide)
 | c2=>exact fM (h3 2 "call_put" (by simp[bN])) (AG T) (by decide)
 | c3=>exact fM (h3 3 "call_get" (by simp[bN])) (AH T) (by decide)
 | c4=>exact fM (h3 4 "call_shape" (by simp[bN])) (wU T) (by decide)
 | c5=>exact fM (h3 5 "call_shown" (by simp[bN])) (wT T) (by decide)
 | c6=>exact fM (h3 6 "call_tile" (by simp[bN])) (y8 T) (by decide)
 | c7=>exact fM (h3 7 "call_start" (by simp[bN])) (wR T) (by decide)
 | c8=>exact fM (h3 8 "call_run" (by simp[bN])) (AF T) (by decide)
 | c9=>exact fM (h3 9 "call_stand" (by simp[bN])) (wS T) (by decide)
 | c10=>exact fM (h3 10 "call_dry" (by simp[bN])) (AI T) (by decide)
 | c11=>exact fM (h3 11 "call_plan" (by simp[bN])) (y9 T) (by decide)
 | c12=>exact fM (h3 12 "call_product" (by simp[bN])) (tH T) (by decide)
 | c13=>exact fM (h3 13 "call_weave" (by simp[bN])) (wQ T) (by decide)
 | c14=>exact fM (h3 14 "call_unweave" (by simp[bN])) (tG T) (by decide)
 | c15=>exact fM (h3 15 "call_dot" (by simp[bN])) (AJ T) (by decide)
def Hl(T:Tx K mg)(c:List (List Int)):Prop:=∃ i sp rest cc,z9 T i sp∧PyFlat.put1 c=i::rest∧QuiltNeutral.callOf c=some cc∧uC cc ∧
 ∀ (r:Ro) (H:Hp) (ma rd a:Addr) (ns:List Int) (pos:Nat) (m:Qw.Mach) (Q:VK) (E:XK),Env T r H ma rd a ns pos m→At ns pos rest→Dm T r H ma rd a ns (pos+rest.length) (Quilt.step m cc).1 (QuiltNeutral.told (Quilt.step m cc).2) Q→sp [.ref ma,.ref rd] H Q E
theorem cv{X:Type}{T:Tx K mg}{flat:X→List Int}{call:X→Quilt.Call}{ok:X→Prop}{i:Int}{c:List (List Int)}(x:X)(h:z9 T i (oK T flat call ok))(h1:PyFlat.put1 c=i::flat x)(h2:QuiltNeutral.callOf c=some (call x))(h3:uC (call x))(h4:ok x):Hl T c :=
 ⟨i,_,flat x,call x,h,h1,h2,h3,fun r H ma rd a ns pos m Q E env hat post=>⟨x,ma,rd,a,ns,pos,m,r,rfl,env,hat,h4,post⟩⟩
theorem lN(h:(a&&b)=true):a=true∧b=true:=by rw[Bool.and_eq_true] at h;exact h
theorem Op{s:List Nat}(h:∀ v∈s,((v:Nat):Int)≤18446744073709551615):∀ v∈s,v<2 ^ 64:=fun v hv=>by
 have:=h v hv
 have e:(2:Nat) ^ 64=18446744073709551616:=by decide
 rw[e];lia
theorem IA{s:List Nat}(h:∀ v∈s,((v:Nat):Int)≤4294967295):∀ v∈s,v<4294967296:=fun v hv=>by have:=h v hv;lia
theorem OT{s:List Nat}(h:∀ v∈s,v<4294967296):∀ v∈s,v<2 ^ 64:=fun v hv=>Nat.lt_of_lt_of_le (h v hv) (by decide)
theorem Oo{s:List Nat}(h:∀ v∈s,((v:Nat):Int)≤255):∀ v∈s,v<256:=fun v hv=>by have:=h v hv;lia
theorem Lv(T:Tx K mg){c:List (List Int)}(hF:kq c)(ha:QuiltNeutral.asked1 c=true):Hl T c:=by
 cases hF with
 | c1 p h =>
  obtain⟨h1,h2⟩:=lN (show (QuiltNeutral.natural p 32&&QuiltNeutral.natural h 32)=true from ha)
  obtain⟨p,rfl⟩:=gi h1;obtain⟨h,rfl⟩:=gi h2;exact cv (p,h) .c1 rfl rfl trivial trivial
 | c2 a s =>
  obtain⟨h1,h2⟩:=lN (show (QuiltNeutral.natural a 32&&QuiltNeutral.long s 8192 0 255)=true from ha)
  obtain⟨a,rfl⟩:=gi h1;obtain⟨s,rfl,hl,hv⟩:=iL h2;exact cv (a,s) .c2 (by simp[PyFlat.put1,PyFlat.putRows,PyFlat.putRow,QM.nI]) (by show some (Quilt.Call.put _ (QuiltNeutral.nats (QM.nI s)))=_;rw[dG];rfl) trivial (Oo hv)
 | c3 a n =>
  obtain⟨h1,h2⟩:=lN (show (QuiltNeutral.natural a 32&&decide (0≤n)&&decide (n≤8192))=true from ha)
  obtain⟨h1,h3⟩:=lN h1;obtain⟨a,rfl⟩:=gi h1;have e:=(Int.toNat_of_nonneg (of_decide_eq_true h3)).symm;have hn:=of_decide_eq_true h2;generalize n.toNat=k at e;subst e;exact cv (a,k) .c3 rfl rfl (show k≤8192 by lia) (show k≤8192 by lia)
 | c4 l =>
  obtain⟨s,rfl,hl,hv⟩:=iL (show QuiltNeutral.long l 64 0 (2 ^ 32 - 1)=true from ha)
  exact cv s .c4 (by simp[PyFlat.put1,PyFlat.putRows,PyFlat.putRow,QM.nI]) (by show some (Quilt.Call.shape (QuiltNeutral.nats (QM.nI s)))=_;rw[dG]) trivial trivial
 | c5=>exact cv () .c5 rfl rfl trivial trivial
 | c6 t =>
  obtain⟨t,rfl⟩:=gi (show QuiltNeutral.natural t 32=true from ha)
  exact cv t .c6 rfl rfl trivial trivial
 | c7 a b =>
  obtain⟨h1,h2⟩:=lN (show (QuiltNeutral.long a 5200 0 (2 ^ 64 - 1)&&QuiltNeutral.long b 1700 0 (2 ^ 32 - 1))=true from ha)
  obtain⟨a,rfl,hl,hv⟩:=iL h1;obtain⟨b,rfl,hl2,hv2⟩:=iL h2;exact cv (a,b) .c7 (by simp[PyFlat.put1,PyFlat.putRows,PyFlat.putRow,QM.nI]) (by show some (Quilt.Call.start (QuiltNeutral.nats (QM.nI a)) (QuiltNeutral.nats (QM.nI b)))=_;rw[dG,dG]) trivial ⟨Op hv,hl,hl2⟩
 | c8 n =>
  obtain⟨h1,h2⟩:=lN (show (decide (0≤n)&&decide (n≤4000))=true from ha)
  have e:=(Int.toNat_of_nonneg (of_decide_eq_true h1)).symm;generalize n.toNat=k at e;subst e;exact cv k .c8 rfl rfl trivial trivial
 | c9=>exact cv () .c9 rfl rfl trivial trivial
 | c10 n =>
  obtain⟨h1,h2⟩:=lN (show (decide (0≤n)&&decide (n≤4000))=true from ha)
  have e:=(Int.toNat_of_nonneg (of_decide_eq_true h1)).symm;generalize n.toNat=k at e;subst e;exact cv k .c10 rfl rfl trivial trivial
 | c11 l =>
  obtain⟨s,rfl,hl,hv⟩:=iL (show QuiltNeutral.long l 16 0 (2 ^ 32 - 1)=true from ha)
  exact cv s .c11 (by simp[PyFlat.put1,PyFlat.putRows,PyFlat.putRow,QM.nI]) (by show some (Quilt.Call.plan (QuiltNeutral.nats (QM.nI s)))=_;rw[dG]) trivial ⟨OT (IA hv),fun j hj=>HZ (IA hv) hj⟩
 | c12 i l =>
  obtain⟨h1,h2⟩:=lN (show (QuiltNeutral.natural i 32&&QuiltNeutral.long l 16 0 (2 ^ 32 - 1))=true from ha)
  obtain⟨i,rfl⟩:=gi h1;obtain⟨s,rfl,hl,hv⟩:=iL h2;exact cv (i,s) .c12 (by simp[PyFlat.put1,PyFlat.putRows,PyFlat.putRow,QM.nI,Eb]) (by show some (Quilt.Call.product _ (QuiltNeutral.nats (QM.nI s)))=_;rw[dG];rfl) trivial (OT (IA hv))
 | c13 k r c s =>
  obtain⟨h1,h2⟩:=lN (show (QuiltNeutral.natural k 32&&QuiltNeutral.natural r 32&&QuiltNeutral.natural c 32&&QuiltNeutral.long s 8192 0 255)=true from ha)
  obtain⟨h1,h3⟩:=lN h1;obtain⟨h1,h4⟩:=lN h1;obtain⟨k,rfl⟩:=gi h1;obtain⟨r,rfl⟩:=gi h4;obtain⟨c,rfl⟩:=gi h3;obtain⟨s,rfl,hl,hv⟩:=iL h2;exact cv ((k,r,c),s) .c13 (by simp[PyFlat.put1,PyFlat.putRows,PyFlat.putRow,QM.nI,sU]) (by show some (Quilt.Call.weave _ _ _ (QuiltNeutral.nats (QM.nI s)))=_;rw[dG];rfl) trivial trivial
 | c14 k r c s =>
  obtain⟨h1,h2⟩:=lN (show (QuiltNeutral.natural k 32&&QuiltNeutral.natural r 32&&QuiltNeutral.natural c 32&&QuiltNeutral.long s 8192 0 255)=true from ha)
  obtain⟨h1,h3⟩:=lN h1;obtain⟨h1,h4⟩:=lN h1;obtain⟨k,rfl⟩:=gi h1;obtain⟨r,rfl⟩:=gi h4;obtain⟨c,rfl⟩:=gi h3;obtain⟨s,rfl,hl,hv⟩:=iL h2;exact cv ((k,r,c),s) .c14 (by simp[PyFlat.put1,PyFlat.putRows,PyFlat.putRow,QM.nI,sU]) (by show some (Quilt.Call.unweave _ _ _ (QuiltNeutral.nats (QM.nI s)))=_;rw[dG];rfl) trivial trivial
 | c15 k r c a b =>
  obtain⟨h1,h2⟩:=lN (show (QuiltNeutral.natural k 32&&QuiltNeutral.natural r 32&&QuiltNeutral.long c 64 0 (2 ^ 32 - 1)&&QuiltNeutral.long a 256 0 255&&QuiltNeutral.long b 2048 0 255)=true from ha)
  obtain⟨h1,h3⟩:=lN h1;obtain⟨h1,h4⟩:=lN h1;obtain⟨h1,h5⟩:=lN h1;obtain⟨k,rfl⟩:=gi h1;obtain⟨r,rfl⟩:=gi h5;obtain⟨c,rfl,hl,hv⟩:=iL h4;obtain⟨a,rfl,hl2,hv2⟩:=iL h3;obtain⟨b,rfl,hl3,hv3⟩:=iL h2;exact cv ((k,r),c,a,b) .c15 (by simp[PyFlat.put1,PyFlat.putRows,PyFlat.putRow,QM.nI,Ec]) (by show some (Quilt.Call.dot _ _ (QuiltNeutral.nats (QM.nI c)) (QuiltNeutral.nats (QM.nI a)) (QuiltNeutral.nats (QM.nI b)))=_;rw[dG,dG,dG];rfl) trivial ⟨fun v hv'=>Nat.lt_of_lt_of_le (IA hv v hv') (by decide),Oo hv2,Oo hv3⟩
theorem GA{T:Tx K mg}{r:Ro}{H:Hp}{Q:Addr→Hp→Prop}{E:XK}(wf:Wf r H)(k:∀ r' H' x,Fr (Rg 1 128) r H r' H'→Fz T r' H' x Quilt.start→Q x H') :
  ∀ x dx,H x=none→H dx=none→dx≠x→DA T [.ref x] (upd (upd H dx (.own x)) x (.ins T.cZ dx [])) (fun v H2=>v=.non∧Q x H2) E:=by
 intro x dx hx hdx ne;have s1:ai H (upd (upd H dx (.own x)) x (.ins T.cZ dx [])):=fun b o e=>by rw[ao (au e hx),ao (au e hdx)];exact e
 have w1:Wf (giv r x 1) (upd (upd H dx (.own x)) x (.ins T.cZ dx [])):=Wf.giv (wf.same s1) (by rw[af];exact fun z=>nomatch z)
 exact⟨x,dx,giv r x 1,rfl,af,cY,w1,fun r' H' f o=>⟨rfl,k r' H' x (((kv.refl.giv hx).fr s1 w1).trans f) o⟩⟩
theorem Iw{T:Tx K mg}{r:Ro}{H:Hp}{a:Addr}{Q:Addr→Hp→Prop}{E:XK}(wf:Wf r H)(k:∀ r' H' x,Fr (fun _=>False) r H r' H'→zZ T.da H' x a 0→r' x=2→Q x H') :
  ∀ x dx,H x=none→H dx=none→dx≠x→Dx T.da [.ref x,.ref a] (upd (upd H dx (.own x)) x (.ins T.da dx [])) (fun v H2=>v=.non∧Q x H2) E:=by
 intro x dx hx hdx ne;refine⟨x,dx,a,rfl,af,fun H' ro b=>⟨rfl,?_⟩⟩
 have s1:ai H H':=fun c o e=>b c o (by rw[ao (au e hx),ao (au e hdx)];exact e) (au e hx)
 obtain⟨d2,h2⟩:=id ro;have w1:Wf (giv r x 2) H':=Wf.giv (wf.same s1) (bB h2);exact k _ H' x ((kv.refl.giv hx).fr s1 w1) ro cY
theorem Kb(h:aL K H a xs):LD K (fun _=>0) H a xs:=by
 rcases h with (h | ⟨o,h⟩) | h
 ·exact .inl ⟨.inl (.inl h),bB h,rfl⟩
 ·exact .inl ⟨.inl (.inr ⟨o,h⟩),bB h,rfl⟩
 ·exact .inr fun H'=>.inr h
theorem Hz(e:QuiltNeutral.callOf c=some cc):QuiltNeutral.step m c=((Quilt.step m cc).1,QuiltNeutral.told (Quilt.step m cc).2):=by
 unfold QuiltNeutral.step;rw[e]
theorem Ex(e:QuiltNeutral.callOf c=some cc):PyFlat.told (PyFlat.played QuiltNeutral.step m (c::cs))=((((QuiltNeutral.told (Quilt.step m cc).2).length:Nat):Int)::QuiltNeutral.told (Quilt.step m cc).2)++PyFlat.told (PyFlat.played QuiltNeutral.step (Quilt.step m cc).1 cs):=by
 show PyFlat.told ((QuiltNeutral.step m c).2::PyFlat.played QuiltNeutral.step (QuiltNeutral.step m c).1 cs)=_;rw[Hz e];unfold PyFlat.told;rw[flatMap_cons]
def DC(K:PySem.W.Frag):Sp:=fun vs H Q _=>∃ a,∃ ns:List Int,vs=[.ref a]∧aL K H a (iv ns)∧PyWrquil.answers_asked ns=true∧∀ (H':Hp) (p:Addr),H' p=some (.lst (iv (PyWrquil.answers ns)))→Q (.ref p) H'
theorem EF:∀ vs H Q E,DC K vs H Q E→vs.length=1:=by rintro vs H Q E ⟨_,_,rfl,_⟩;rfl
theorem zW(T:Tx K mg)(TC:Hi K mg "CALLS" bN):OI P w K mg base 12 ["calls","machine","reader","given","answer"] "answers" j0 (DC K):=by
 have sc:=uF;intro f cdv A outer s H vs Q E hr h;obtain⟨a,ns,rfl,hs,hask,k⟩:=h;obtain⟨cs,ens,hcs,hlen,eans⟩:=BL hask;rw[eans] at k;refine⟨_,(ab (sS 1 sc.nd (u7 (vh T) hr.m)) (ab (sS 2 sc.nd (fU (wL T) hr.m (aa (pv 0) ae))) (ab (sS 3 sc.nd (aJ ae)) (ab (u1 PassesOwn.never (cf (aO (T.aG) (oS T) hr.m (pv 2))) (ab (sS 4 sc.nd (KU (Gy T TC) hr.m (aO (T.aG) (aE T) hr.m (pv 2)) (aa (pv 1) (aa (pv 2) ae)) (fun _ _=>rfl))) (ab (bQ (JW (pv 3) (aa (tW K T.eB (aa (pv 4) ae)) ae))) (aB (bQ (Lo (pv 3) (aa (pv 4) ae))))))) (bu (pv 3)))))),?_⟩
 simp only[J4];walk_at "rd";have w0:Wf (fun _=>0) H:=fun _ _=>rfl
 refine GA (T:=T) w0 fun r1 H1 ma f1 o1=>?_
 refine Iw (T:=T) f1.wf fun r2 H2 rd f2 ro2 rr2=>?_
 refine⟨by decide,fun gv ngv=>?_⟩
 have env2:Env T r2 H2 ma rd a ns 0 Quilt.start:=⟨o1.fr f2 fun _ _ z=>z,ro2,rr2,((Kb hs).fr f1 (by lia)).fr f2 fun z=>z⟩
 have s3:=ai.new (o:=.lst []) ngv;have w3:Wf (giv r2 gv 200) (upd H2 gv (.lst [])):=Wf.giv (f2.wf.same s3) (by rw[af];exact fun z=>nomatch z)
 have f3:Fr (fun _=>False) r2 H2 (giv r2 gv 200) (upd H2 gv (.lst [])):=(kv.refl.giv ngv).fr s3 w3
 have env3:=env2.fr f3 fun _ _ z=>z
 let W:Nat→L2.St→Hp→Prop:=fun n σ H'=>∃ (r':Ro) (m':Qw.Mach) (rest:List (List (List Int))) (acc:List Int) (pos:Nat) (v:Option V),σ=[some (.ref a),some (.ref ma),some (.ref rd),some (.ref gv),v]∧Env T r' H' ma rd a ns pos m'∧H' gv=some (.lst (iv acc))∧r' gv=200∧ns.drop pos=PyFlat.put rest∧(∀ c∈rest,kq c∧QuiltNeutral.asked1 c=true) ∧
  PyFlat.told (PyFlat.played QuiltNeutral.step QuiltNeutral.start cs)=acc++PyFlat.told (PyFlat.played QuiltNeutral.step m' rest)∧acc.length+rest.length*100002≤6000120∧n=rest.length
 refine⟨W,⟨cs.length,giv r2 gv 200,Quilt.start,cs,[],0,none,rfl,env3,af,cY,by rw[←ens];rfl,hcs,rfl,by rw[length_nil];lia,rfl⟩,?_⟩
 rintro n σ H4 ⟨r4,m4,rest,acc,pos,v,rfl,env4,hgv,rgv,hdrop,hrest,etold,hsz,rfl⟩
 walk_at "rd";obtain⟨dr,hr4⟩:=id env4.ro;refine aT hr4 rfl ⟨rd,a,ns,pos,rfl,env4.ro,env4.sq.sq,?_⟩;refine ob ?_
 cases rest with
 | nil =>
  have hp:¬ pos<ns.length:=fun z=>by
   have e:(ns.drop pos).length=0:=by rw[hdrop];rfl
   rw[length_drop] at e;lia
  rw[if_neg (by rw[decide_eq_false hp];exact fun z=>nomatch z)]
  refine k H4 gv ?_
  rw[etold,hgv];show some (HO.lst (iv acc))=some (HO.lst (iv (acc++[])));rw[append_nil]
 | cons c rest =>
  obtain⟨hF,ha⟩:=hrest c mem_cons_self;obtain⟨i,sp,fl,cc,hsp,hput,hcall,hsm,hrun⟩:=Lv T hF ha;have hdrop2:ns.drop pos=i::(fl++PyFlat.put rest):=by
   rw[hdrop];show PyFlat.put1 c++PyFlat.put rest=_;rw[hput];rfl
  have hat:At ns pos (i::fl):=⟨PyFlat.put rest,hdrop2⟩;have hp:pos<ns.length:=hat.num.1;rw[if_pos (decide_eq_true hp)];refine⟨fun σ' H'=>∃ n',n'<(c::rest).length∧W n' σ' H',fun σ' H' h=>h,?_⟩
  unfold J4;walk_at "rd";refine env4.num hat fun H5 f5 env5 at5=>?_
  refine⟨i,rfl,sp,hsp,?_⟩;refine hrun r4 H5 ma rd a ns (pos+1) m4 _ _ env5 at5 fun r6 H6 p f6 env6 ep rp=>?_
  have kg5:=f5.keep hgv rgv (by decide)
  have kg:=f6.keep kg5.1 kg5.2 (by lia)
  have npg:p≠gv:=fun z=>by rw[z,kg.2] at rp;cases rp
  have hl:=FU env4.mo.2.2 cc hsm;have hl2:(QuiltNeutral.told (Quilt.step m4 cc).2).length≤100001:=by unfold QuiltNeutral.told;rw[length_cons,length_map];lia
  rw[length_cons] at hsz;refine⟨.inl ⟨rfl,_,aL.of kg.1⟩,cQ (aL.of ep) (mC kg.1 (by rw[aM];exact Nat.lt_of_le_of_lt (show acc.length≤6000120 by lia) (by decide)) ?_)⟩
  refine⟨.inl ⟨rfl,_,aL.of af⟩,uW af (by rw[ao npg];exact ep) (by rw[length_append,aM,aM];exact Nat.le_trans (show acc.length+[V.int ((iv (QuiltNeutral.told (Quilt.step m4 cc).2)).length:Int)].length+(QuiltNeutral.told (Quilt.step m4 cc).2).length≤6000120 by rw[List.length_singleton];lia) (by decide)) ?_⟩
  have f7:=Fr.upd (S:=fun k=>k=200) (o':=.lst (iv acc++[V.int ((iv (QuiltNeutral.told (Quilt.step m4 cc).2)).length:Int)])) f6.wf kg.1 kg.2
  have f8:=Fr.upd (S:=fun k=>k=200) (o':=.lst (iv acc++[V.int ((iv (QuiltNeutral.told (Quilt.step m4 cc).2)).length:Int)]++iv (QuiltNeutral.told (Quilt.step m4 cc).2))) f7.wf af kg.2
  have env8:=env6.fr (f7.trans f8) fun k hk z=>by lia
  refine⟨rest.length,Nat.lt_succ_self _,r6,(Quilt.step m4 cc).1,rest,acc++((((QuiltNeutral.told (Quilt.step m4 cc).2).length:Nat):Int)::QuiltNeutral.told (Quilt.step m4 cc).2),pos+1+fl.length,some (.ref p),rfl,env8,?_,kg.2,?_,fun c hc=>hrest c (mem_cons_of_mem _ hc),?_,?_,rfl⟩
  ·rw[af,aM];simp[iv]
  ·have e:ns.drop (pos+1+fl.length)=(ns.drop pos).drop (1+fl.length):=by rw[drop_drop];congr 1;lia
   rw[e,hdrop2,Nat.add_comm 1,drop_succ_cons,List.drop_left]
  ·rw[etold,Ex hcall,append_assoc]
  ·rw[length_append,length_cons];lia
section
variable{K:PySem.W.Frag}{mg:Str→Option Value}{h:Heap}{x m qual:Str}{st:Stmt}{f C:Addr}{oc:Value}{od an:Option Addr}{osl:Array (Option Value)}{kV doc pm cdv ct:Value}
theorem NF(X:K.In h)(G:h.Ns mainGlobals mg)(a:PySem.W.nsIn K mainGlobals x=some (some (.ref f)))(l:K.lookup f=some ⟨oc,od,.func (PySem.W.fnOf x x (fC st) (fj st) (aC st) .none kV doc pm an cdv ct),osl⟩)
  (c:PySem.W.codeIn K cdv x=true) (k:PySem.W.keepIn K (.ref f)=true):FA K mg x st:=⟨f,_,CV l c k,PySem.W.mg_of X G a⟩
theorem Nv(a:PySem.W.findIn K (.ref C) m=some (some (.ref f)))(l:K.lookup f=some ⟨oc,od,.func (PySem.W.fnOf m qual (fC st) (fj st) (aC st) .none kV doc pm an cdv ct),osl⟩)
  (i:PySem.W.isFn K (.ref f)=true) (c:PySem.W.codeIn K cdv qual=true) (k:PySem.W.keepIn K (.ref f)=true):MA K C m qual st:=⟨f,_,CV l c k,a,i,k⟩
theorem NA(a:PySem.W.findIn K (.ref C) "__init__"=some (some (.ref f)))(l:K.lookup f=some ⟨oc,od,.func (PySem.W.fnOf "__init__" qual (fC st) (fj st) (aC st) .none kV doc pm an cdv ct),osl⟩)
  (i:PySem.W.isFn K (.ref f)=true) (c:PySem.W.codeIn K cdv qual=true) (k:PySem.W.keepIn K (.ref f)=true) (mk:PySem.W.makesIn K C=true) (kc:PySem.W.keepIn K (.ref C)=true):∃ f fd,wF K "__init__" qual st f fd∧Mk K C f:=⟨f,_,CV l c k,mk,a,i,kc⟩
theorem NC{n:Int}{t:Tok}(X:K.In h)(G:h.Ns mainGlobals mg)(a:PySem.W.nsIn K mainGlobals x=some (some (.int n t))):bG mg x n:=⟨t,PySem.W.mg_of X G a⟩
theorem OV{f:Str}(a:PySem.W.findIn K (.ref C) f=some none):aK K C f:=a
theorem NB{a:Addr}{u v:Int}{t1 t2:Tok}{n:Nat}(X:K.In h)(G:h.Ns mainGlobals mg)(e:PySem.W.nsIn K mainGlobals x=some (some (.ref a)))(l:K.lookup a=some ⟨.type "tuple",od,.seq #[.int u t1,.int v t2] n,osl⟩):FB K mg x [.int u,.int v] :=
 ⟨a,PySem.W.mg_of X G e,fun H=>.inr ⟨_,_,n,l,rfl,rfl,by show 2≤sizeLine;decide,.cons ⟨_,rfl⟩ (.cons ⟨_,rfl⟩ .nil)⟩⟩
end
def Jn(mg:Str→Option Value)(g:Int→Option Value):List (Int×Str)→Prop
 | []=>True
 | x::l=>(∃ f,mg x.2=some (.ref f)∧g x.1=some (.ref f))∧Jn mg g l
theorem Jn.mem{mg:Str→Option Value}{g:Int→Option Value}:∀ {l:List (Int×Str)},Jn mg g l→∀ i n,(i,n)∈l→∃ f,mg n=some (.ref f)∧g i=some (.ref f)
 | [],_,i,n,hm=>by cases hm
 | x::l,⟨h1,h2⟩,i,n,hm=>by
  rcases mem_cons.1 hm with e | hm
  ·rw[←e] at h1;exact h1
  ·exact h2.mem i n hm
theorem No{K:PySem.W.Frag}{mg:Str→Option Value}{h:Heap}{x:Str}{names:List (Int×Str)}{d:Addr}{es:Array DictEntry}{ep:Nat}{kvs:List (Int×Addr)}(X:K.In h)(G:h.Ns mainGlobals mg)(a:PySem.W.nsIn K mainGlobals x=some (some (.ref d)))
  (l:K.lookup d=some ⟨.type "dict",none,.dict es ep,#[]⟩) (te:Dl es.toList kvs) (nd:(kvs.map (·.1)).Nodup) (al:Jn mg (valueAt (kvs.map fun x=>(x.1,Value.ref x.2))) names):Hi K mg x names :=
 ⟨d,kvs,PySem.W.mg_of X G a,⟨⟨es,ep,l,te⟩,nd⟩,al.mem⟩
theorem Lz{P:Program}{w:World}{K:PySem.W.Frag}{mg:Str→Option Value}{fa:Addr}(hfa:mg "answers"=some (.ref fa))(T:Tx K mg)(TC:Hi K mg "CALLS" bN) :
  ∃ fd:FuncData,(∀ (s:Shared) (us:List Value),us.length=(["calls"]:List Str).length→BindsTo s fd ⟨us,[]⟩ ((["calls"]:List Str).zip us))∧∀ base:Heap,K.In base→base.Ns mainGlobals mg→ii P w K mg base FK 13 fa fd ["calls"] (DC K):=by
 obtain⟨f,fd,F,e⟩:=T.Fm;rw[hfa] at e;cases e;refine⟨fd,fun s us hu=>?_,fun base _ _=>F.ok uF EF (fun cdv A outer s H vs Q E hr hs=>zW T TC fa cdv A outer s H vs Q E hr hs)⟩
 obtain⟨oc,od,kV,doc,pm,an,cdv,ct,osl,rfl,lk,hcd⟩:=F.ex;exact .of_eq ((Di kV doc pm an cdv ct).get hu)
end QD
noncomputable section
set_option maxHeartbeats 0
namespace HD
open PySem PySem.W PyProof.Rows L2 QB QT QD
variable{P:Params}{mg:Str→Option Value}{h:Heap}{x m q:Str}{st:Stmt}{C:Addr}
theorem fA(X:(K P).In h)(G:h.Ns mainGlobals mg)(f:Nat)(y:Value)(c:Nat)(a:nsIn (K P) mainGlobals x=some (some (.ref f)):=by kernel_rfl)(l:(K P).lookup f=some (fO x x st y c):=by kernel_rfl)(d:codeIn (K P) (.ref c) x=true:=by kernel_rfl)(k:keepIn (K P) (.ref f)=true:=by kernel_rfl):FA (K P) mg x st:=NF X G a l d k
theorem mA(f:Nat)(y:Value)(c:Nat)(a:findIn (K P) (.ref C) m=some (some (.ref f)):=by kernel_rfl)(l:(K P).lookup f=some (fO m q st y c):=by kernel_rfl)(i:isFn (K P) (.ref f)=true:=by kernel_rfl)(d:codeIn (K P) (.ref c) q=true:=by kernel_rfl)(k:keepIn (K P) (.ref f)=true:=by kernel_rfl):MA (K P) C m q st:=Nv a l i d k
theorem iA(f:Nat)(y:Value)(c:Nat)(a:findIn (K P) (.ref C) "__init__"=some (some (.ref f)):=by kernel_rfl)(l:(K P).lookup f=some (fO "__init__" q st y c):=by kernel_rfl)(i:isFn (K P) (.ref f)=true:=by kernel_rfl)(d:codeIn (K P) (.ref c) q=true:=by kernel_rfl)(k:keepIn (K P) (.ref f)=true:=by kernel_rfl)(mk:makesIn (K P) C=true:=by kernel_rfl)(kc:keepIn (K P) (.ref C)=true:=by kernel_rfl):∃ f fd,wF (K P) "__init__" q st f fd∧Mk (K P) C f:=NA a l i d k mk kc
theorem gI{n:Int}(X:(K P).In h)(G:h.Ns mainGlobals mg)(t:Nat)(a:nsIn (K P) mainGlobals x=some (some (.int n t)):=by kernel_rfl):bG mg x n:=NC X G a
theorem gT{u z:Int}(X:(K P).In h)(G:h.Ns mainGlobals mg)(a t1 t2:Nat)(e:nsIn (K P) mainGlobals x=some (some (.ref a)):=by kernel_rfl)(l:(K P).lookup a=some (tV [.int u t1,.int z t2]):=by kernel_rfl):FB (K P) mg x [.int u,.int z]:=NB X G e l
theorem gB(X:(K P).In h)(G:h.Ns mainGlobals mg)(e:nsIn (K P) mainGlobals x=some none:=by kernel_rfl):mg x=none:=mg_none_of X G e
theorem gK(X:(K P).In h)(G:h.Ns mainGlobals mg)(e:nsIn (K P) mainGlobals x=some (some (.ref C)):=by kernel_rfl):mg x=some (.ref C):=mg_of X G e
theorem cL(a:plainGet (K P) C Str.empty=true:=by kernel_rfl)(b:hasDictIn (K P) C=true:=by kernel_rfl)(c:plainOver (K P) C=true:=by kernel_rfl)(d:findIn (K P) (.ref C) "__setattr__"=some (some (.builtin "object.__setattr__")):=by kernel_rfl):rR (K P) C:=⟨a,b,c,d⟩
theorem nA{f:Str}(a:findIn (K P) (.ref C) f=some none:=by kernel_rfl):aK (K P) C f:=a
def tx(X:(K P).In h)(G:h.Ns mainGlobals mg):Tx (K P) mg:=⟨235,277,357,399,578,627,655,716,777,798,838,916,gI X G 189,gI X G 191,gI X G 193,gI X G 195,gI X G 197,gI X G 199,gI X G 201,gI X G 203,gI X G 205,gI X G 207,gI X G 284,gI X G 286,gI X G 294,gI X G 296,gI X G 298,gI X G 451,gI X G 453,gI X G 455,gI X G 457,gI X G 459,gI X G 601,gI X G 603,gI X G 605,gI X G 607,gI X G 609,gI X G 647,gI X G 649,gI X G 651,gI X G 653,gI X G 655,gI X G 657,gI X G 659,gI X G 661,gI X G 663,gI X G 665,gI X G 667,gI X G 669,gI X G 671,gI X G 673,gI X G 675,gI X G 808,gI X G 810,gI X G 812,gI X G 814,gI X G 816,gI X G 818,gI X G 847,gI X G 849,gI X G 851,gI X G 853,gI X G 855,gI X G 1187,gI X G 1189,gI X G 1191,gI X G 1295,gI X G 1297,gI X G 1299,gI X G 1301,gI X G 1303,gI X G 1422,gI X G 1424,gI X G 1426,gI X G 1428,gI X G 1430,gI X G 1432,gI X G 1434,gI X G 1436,gI X G 1438,gI X G 1440,gI X G 1442,gI X G 1562,gI X G 1564,gI X G 1567,gI X G 1570,gI X G 1573,gI X G 1576,gT X G 71 288 289,gT X G 72 291 292,gB X G,gB X G,gB X G,gB X G,gB X G,gB X G,gB X G,gB X G,gB X G,gB X G,gB X G,cL,nA,nA,gK X G,cL,nA,nA,gK X G,cL,nA,nA,nA,nA,nA,gK X G,cL,nA,nA,nA,nA,nA,nA,gK X G,cL,nA,nA,nA,nA,gK X G,cL,nA,nA,nA,gK X G,cL,nA,nA,nA,nA,gK X G,cL,nA,nA,nA,gK X G,cL,nA,nA,nA,nA,gK X G,cL,nA,nA,nA,nA,nA,nA,nA,nA,gK X G,cL,nA,nA,nA,nA,nA,gK X G,cL,nA,nA,nA,gK X G,fA X G 21 q1 20,fA X G 28 q1 27,fA X G 35 q1 34,fA X G 42 q1 41,fA X G 49 q1 48,fA X G 56 q1 55,fA X G 63 q1 62,fA X G 70 q1 69,fA X G 77 q2 76,fA X G 84 q2 83,fA X G 89 q2 88,fA X G 94 q2 93,fA X G 101 q2 100,fA X G 106 q2 105,fA X G 111 q2 110,fA X G 116 q2 115,fA X G 121 q2 120,fA X G 128 q2 127,fA X G 135 q2 134,fA X G 140 q2 139,fA X G 147 q2 146,fA X G 152 q2 151,fA X G 157 q2 156,fA X G 162 q2 161,fA X G 169 q2 168,fA X G 176 q2 175,fA X G 183 q2 182,fA X G 190 q3 189,fA X G 197 q3 196,iA 211 q3 210,mA 218 q3 217,mA 225 q3 224,mA 232 q3 231,iA 253 q4 252,mA 260 q4 259,mA 267 q4 266,mA 274 q4 273,fA X G 286 q4 285,fA X G 293 q5 292,fA X G 300 q5 299,fA X G 307 q5 306,fA X G 314 q5 313,fA X G 319 q5 318,iA 333 q6 332,mA 340 q6 339,mA 347 q6 346,mA 354 q6 353,iA 375 q6 374,mA 382 q6 381,mA 389 q6 388,mA 396 q6 395,fA X G 410 q6 409,fA X G 415 q6 414,fA X G 422 q7 421,fA X G 429 q7 428,fA X G 436 q7 435,fA X G 443 q8 442,fA X G 450 q8 449,fA X G 457 q8 456,fA X G 464 q8 463,fA X G 471 q8 470,fA X G 478 q8 477,fA X G 485 q8 484,fA X G 492 q8 491,fA X G 499 q8 498,fA X G 504 q9 503,iA 518 q9 517,mA 523 q9 522,mA 530 q9 529,mA 537 q9 536,mA 544 q9 543,mA 551 q9 550,mA 558 q9 557,mA 563 q9 562,mA 570 q9 569,mA 575 q9 574,fA X G 589 Cv 588,iA 603 Cv 602,mA 610 Cv 609,mA 617 Cv 616,mA 624 Cv 623,mA 645 Cv 644,mA 652 Cv 651,fA X G 664 Cv 663,fA X G 671 Cu 670,fA X G 678 Cu 677,iA 692 Cu 691,mA 699 Cu 698,mA 706 Cu 705,mA 713 Cu 712,fA X G 727 Cu 726,fA X G 732 Cu 731,fA X G 739 Cu 738,iA 753 EO 752,mA 760 EO 759,mA 767 EO 766,mA 774 EO 773,iA 795 EO 794,fA X G 809 EO 808,fA X G 814 EO 813,fA X G 821 EO 820,iA 835 BX 834,fA X G 849 BX 848,fA X G 856 BX 855,fA X G 863 BX 862,fA X G 870 BX 869,fA X G 877 BX 876,fA X G 882 BX 881,fA X G 887 BX 886,fA X G 894 NR 893,fA X G 899 NR 898,iA 913 ku 912,fA X G 927 ku 926,fA X G 934 ku 933,fA X G 941 ku 940,fA X G 948 ku 947,fA X G 955 ku 954,fA X G 962 ku 961,fA X G 969 ku 968,fA X G 976 ku 975,fA X G 983 ku 982,fA X G 990 ku 989,fA X G 997 ku 996,fA X G 1004 ku 1003,fA X G 1011 ku 1010,fA X G 1018 ku 1017,fA X G 1025 ku 1024,fA X G 1032 ku 1031,fA X G 1039 ku 1038,fA X G 1046 ku 1045,fA X G 1054 ku 1053,iA 518 q9 517,mA 523 q9 522,mA 530 q9 529,mA 537 q9 536,mA 544 q9 543,mA 551 q9 550,mA 558 q9 557,mA 563 q9 562⟩
theorem tc(X:(K P).In h)(G:h.Ns mainGlobals mg):Hi (K P) mg "CALLS" bN:=No (d:=1047) (es:=[HD.G 1 1779 1 (R 941),HD.G 2 1780 2 (R 948),HD.G 3 1781 3 (R 955),HD.G 4 1782 4 (R 962),HD.G 5 1783 5 (R 969),HD.G 6 1784 6 (R 976),HD.G 7 1785 7 (R 983),HD.G 8 1786 8 (R 990),HD.G 9 1787 9 (R 997),HD.G 10 1788 10 (R 1004),HD.G 11 1789 11 (R 1011),HD.G 12 1790 12 (R 1018),HD.G 13 1791 13 (R 1032),HD.G 14 1792 14 (R 1039),HD.G 15 1793 15 (R 1046)].toArray) (ep:=15) (kvs:=[(1,941),(2,948),(3,955),(4,962),(5,969),(6,976),(7,983),(8,990),(9,997),(10,1004),(11,1011),(12,1018),(13,1032),(14,1039),(15,1046)]) X G (by kernel_rfl) (by kernel_rfl) (.cons rfl (.cons rfl (.cons rfl (.cons rfl (.cons rfl (.cons rfl (.cons rfl (.cons rfl (.cons rfl (.cons rfl (.cons rfl (.cons rfl (.cons rfl (.cons rfl (.cons rfl .nil))))))))))))))) (by decide) ⟨⟨941,gK X G,rfl⟩,⟨948,gK X G,rfl⟩,⟨955,gK X G,rfl⟩,⟨962,gK X G,rfl⟩,⟨969,gK X G,rfl⟩,⟨976,gK X G,rfl⟩,⟨983,gK X G,rfl⟩,⟨990,gK X G,rfl⟩,⟨997,gK X G,rfl⟩,⟨1004,gK X G,rfl⟩,⟨1011,gK X G,rfl⟩,⟨1018,gK X G,rfl⟩,⟨1032,gK X G,rfl⟩,⟨1039,gK X G,rfl⟩,⟨1046,gK X G,rfl⟩,trivial⟩
end HD
end
open PySem PySem.W
theorem PySem.Challenge.cw_quiltwork_s01_answers_holds : PySem.Challenge.rw_quiltwork_s01_answers.Holds := by
 refine holds_os (q:=HD.qv) (loose:=HD.lz) (Xt:=HD.Xt) (XP:=XL HD.qv []) (Yf:=fun s=>s.heap) (Ya:=fun w=>HD.H1 w.params) (YP:=fun w h=>∀ b o,(HD.H1 w.params).get? b=some o→h.get? b=some o) (N:=15068) HD.left (fun w s e b o k=>by rw[e];exact k) (fun w h h' k kp b o e=>kp b o (k b o e)) (fun s e=>xl_of s (Bool.and_eq_true_iff.mp e).1) XL.keeps (by rfl) (by rfl) (by rfl) (fun s e=>recFacts_of (Bool.and_eq_true_iff.mp e).2) os_shapes HD.MI (by decide +kernel) ⟨rfl,rfl,rfl,rfl,rfl,HD.whole⟩ ⟨[.list [.int 5]],by decide +kernel,by decide +kernel⟩ ?_
 refine L2.B4 (r:=PySem.Challenge.rw_quiltwork_s01_answers) (k:=13) (K:=HD.K) (CX:=L2.FK) (ps:=["calls"]) (sp:=QD.DC) HD.MI rfl rfl ⟨rfl,by decide,by decide⟩ (fun w h Y a o e=>Y a o (HD.kin _ a o e)) (fun w mg fa h Y X G hmg=>QD.Lz hmg (HD.tx X G) (HD.tc X G)) ?_ (fun _ _ _ _ z=>z)
 intro K H xs a hO hwi hask hx
 cases hx with
 | cons h1 h2 =>
  cases h2
  cases h1 with
  | lst hs ha =>
   have e:=L2.D0 a.1 _ ha;subst e
   exact⟨_,a.1,rfl,hs,hask,fun H' p hp=>.lst (L2.aL.of hp) (L2.Ee _)⟩
