import PyProof.Rows.All
import Wide.All
import OpenK.AllK
import Wide.FinOn
import Lean
import PyProof.EqAt
import PyProof.EqKinds
import PyProof.TupleCall
import PySem.Challenge.RW_bitbus_k21_whole_just_once
set_option Elab.async false
set_option linter.all false
set_option maxRecDepth 100000
namespace L2
open PySem PySem.Spec PyProof.Rows
abbrev Key:=Sum Int Str
def wy:Key→Value→Bool
 | .inl k,v=>Value.isInt k v
 | .inr x,v=>Value.isStrOf x v
def Bb (w:World):Key→Int
 | .inl k=>hashInt k
 | .inr x=>hashStr w x
theorem bb:∀ {k:Key} {v:Value},wy k v=true→(∃ i t,k=Sum.inl i∧v=Value.int i t)∨(∃ x t,k=Sum.inr x∧v=Value.str x t)
 | .inl i,v,h=>by
  obtain ⟨t,e⟩:=Value.isInt_shape (k:=i) (v:=v) h
  exact .inl ⟨i,t,rfl,e⟩
 | .inr x,v,h=>by
  obtain ⟨t,e⟩:=Value.isStrOf_shape (x:=x) (v:=v) h
  exact .inr ⟨x,t,rfl,e⟩
theorem wz (a b:Int):decide ((Sum.inl a:Key)=Sum.inl b)=(a == b):=by
 by_cases e:a=b
 ·subst e;simp
 ·have h:¬ (Sum.inl a:Key)=Sum.inl b:=fun q=>e (Sum.inl.inj q)
  rw [decide_eq_false h]
  exact (beq_eq_false_iff_ne.mpr e).symm
theorem wA (a b:Str):decide ((Sum.inr a:Key)=Sum.inr b)=decide (a=b):=by
 by_cases e:a=b
 ·subst e;simp
 ·have h:¬ (Sum.inr a:Key)=Sum.inr b:=fun q=>e (Sum.inr.inj q)
  rw [decide_eq_false h,decide_eq_false e]
theorem wB (a:Int) (b:Str):decide ((Sum.inl a:Key)=Sum.inr b)=false:=decide_eq_false (fun q=>nomatch q)
theorem wC (a:Str) (b:Int):decide ((Sum.inr a:Key)=Sum.inl b)=false:=decide_eq_false (fun q=>nomatch q)
def lU (prog:Program) (w:World):PySem.KeyKind prog w Key where
 is:=wy
 hash:=Bb w
 inj:=fun v a b ha hb=>by
  rcases bb ha with ⟨i,t,rfl,rfl⟩ | ⟨x,t,rfl,rfl⟩
  ·rcases bb hb with ⟨j,u,rfl,e⟩ | ⟨y,u,rfl,e⟩
   ·injection e with e1 _;rw [e1]
   ·exact nomatch e
  ·rcases bb hb with ⟨j,u,rfl,e⟩ | ⟨y,u,rfl,e⟩
   ·exact nomatch e
   ·injection e with e1 _;rw [e1]
 byValue:=fun k v h=>by
  rcases bb h with ⟨i,t,rfl,rfl⟩ | ⟨x,t,rfl,rfl⟩ <;> rfl
 pyHash:=fun hv h=>by
  rcases bb hv with ⟨i,t,rfl,rfl⟩ | ⟨x,t,rfl,rfl⟩
  ·exact wpAny_pyHash_int h
  ·exact wpAny_pyHash_str h
 eqBool:=fun hu hv h=>by
  rcases bb hu with ⟨i,t,rfl,rfl⟩ | ⟨x,t,rfl,rfl⟩
  ·rcases bb hv with ⟨j,u,rfl,rfl⟩ | ⟨y,u,rfl,rfl⟩
   ·rw [wz] at h;exact wpAny_eqBool_int h
   ·rw [wB] at h;exact SeqAt.EqAt.int_str i t y u _ _ _ _ h
  ·rcases bb hv with ⟨j,u,rfl,rfl⟩ | ⟨y,u,rfl,rfl⟩
   ·rw [wC] at h;exact SeqAt.EqAt.str_int x t j u _ _ _ _ h
   ·rw [wA] at h;exact wpAny_eqBool_str h
 «strs»:=fun k x t v h=>by
  rcases bb h with ⟨i,u,rfl,e⟩ | ⟨y,u,rfl,e⟩
  ·exact nomatch e
  ·injection e with e1 _
   subst e1
   cases v <;> rfl
end L2
namespace L2
open PySem PySem.Spec PyProof.Rows
inductive V where
 | non | bl (b:Bool) | int (i:Int) | str (x:Str) | byt (b:Array UInt8) | flt (b:UInt64) | ref (a:Addr) | ty (n:String)
 deriving DecidableEq
def RelV:V→Value→Prop
 | .non,u=>u=Value.none
 | .bl b,u=>u=Value.bool b
 | .int i,u=>∃ t,u=Value.int i t
 | .str x,u=>∃ t,u=Value.str x t
 | .byt b,u=>∃ t,u=Value.bytes b t
 | .flt b,u=>∃ t,u=Value.float b t
 | .ref a,u=>u=Value.ref a
 | .ty n,u=>u=Value.type n
abbrev Vals:List V→List Value→Prop:=Paired RelV
theorem Vals.length {xs:List V} {us:List Value} (r:Vals xs us):xs.length=us.length:=Paired.length r
theorem Vals.get:∀ {xs:List V} {us:List Value} {i:Nat} {x:V},Vals xs us→xs[i]? = some x→∃ u,us[i]? = some u∧RelV x u
 | _,_,_,_,.nil,e=>by simp at e
 | _,_,0,_,.cons r _,e=>by simp at e;subst e;exact ⟨_,rfl,r⟩
 | _,_,i+1,x,.cons _ t,e=>by
  obtain ⟨u,h1,h2⟩:=Vals.get (i:=i) (x:=x) t (by simpa using e)
  exact ⟨u,by simpa using h1,h2⟩
theorem Vals.set {x:V} {u:Value} (r:RelV x u):∀ {xs:List V} {us:List Value} (i:Nat),Vals xs us→Vals (xs.set i x) (us.set i u)
 | _,_,_,.nil => .nil
 | _,_,0,.cons _ t => .cons r t
 | _,_,i+1,.cons q t => .cons q (Vals.set r i t)
theorem Vals.append:∀ {xs ys:List V} {us ws:List Value},Vals xs us→Vals ys ws→Vals (xs++ys) (us++ws)
 | _,_,_,_,.nil,s=>s
 | _,_,_,_,.cons r t,s => .cons r (Vals.append t s)
theorem Vals.take:∀ {xs:List V} {us:List Value} (n:Nat),Vals xs us→Vals (xs.take n) (us.take n)
 | _,_,0,_ => .nil
 | _,_,_+1,.nil => .nil
 | _,_,n+1,.cons r t => .cons r (Vals.take n t)
theorem Vals.drop:∀ {xs:List V} {us:List Value} (n:Nat),Vals xs us→Vals (xs.drop n) (us.drop n)
 | _,_,0,r=>r
 | _,_,_+1,.nil => .nil
 | _,_,n+1,.cons _ t=>Vals.drop n t
def RelO:Option V→Option Value→Prop
 | some v,some u=>RelV v u
 | none,none=>True
 | _,_=>False
def KV {κ:Type}:List (κ×V)→List (κ×Value)→Prop:=Paired fun (p:κ×V) (q:κ×Value)=>p.1=q.1∧RelV p.2 q.2
def kV:Key→V
 | .inl i => .int i
 | .inr x => .str x
inductive HO where
 | lst (xs:List V)
 | tup (xs:List V)
 | dK (kvs:List (Key×V)) | dT (kvs:List (List Key×V))
 | set (S:Int→Bool) (n:Nat)
 | ins (C dx:Addr) (fs:List (Str×V))
 | own (x:Addr)
 | xd (fs:List (Str×V))
 | met (f x:Addr)
 | rng (lo hi:Int)
 | frz (o:Obj) (u:HO)
 | tbl (ps:Array Value)
 | ext (φ:Heap→Prop)
abbrev Hp:=Addr→Option HO
def upd (H:Hp) (a:Addr) (o:HO):Hp:=fun b=>if b=a then some o else H b
theorem bq {H:Hp} {a:Addr} {o:HO}:upd H a o a=some o:=by unfold upd;rw [if_pos rfl]
theorem aP {H:Hp} {a b:Addr} {o:HO} (h:b≠a):upd H a o b=H b:=by unfold upd;rw [if_neg h]
theorem yQ {H:Hp} {a b:Addr} {o u:HO} (h:H a=some o) (h':H b=some u) (d:o≠u):a≠b:=by
 intro e;subst e;rw [h] at h';exact d (Option.some.inj h')
theorem aE {H:Hp} {a b:Addr} {o:HO} (h:H a=some o) (h':H b=none):a≠b:=by
 intro e;subst e;rw [h] at h';cases h'
section
variable (P:Program) (w:World)
def ObjOk (H:Hp) (h:Heap) (a:Addr):HO→Prop
 | .lst xs=>xs.length≤sizeLine∧∃ (its:List Value) (n:Nat),Vals xs its∧h.get? a=some {cls := .type "list",data := .seq its.toArray n}
 | .tup xs=>xs.length≤sizeLine∧∃ its:List Value,Vals xs its∧IsTup h a its.toArray
 | .dK kvs=>kvs.length≤sizeLine∧(a == sysModules)=false∧∃ vs,KV kvs vs∧h.DictOf (lU P w) a vs
 | .dT kvs=>kvs.length≤sizeLine∧(a == sysModules)=false∧∃ xs:List (List Key×Addr×Value),
   Paired (fun (p:List Key×V) (q:List Key×Addr×Value)=>p.1=q.1∧H q.2.1=some (.tup (p.1.map kV))∧RelV p.2 q.2.2) kvs xs ∧
   ∃ o es ep,h.get? a=some o∧o.ExactDict∧o.data = .dict es ep∧es.toList=xs.map (entryOfKey (tupleKind (lU P w)))∧(xs.map (·.1)).Nodup
 | .set S n=>h.SetOf (intKind P w) a S n
 | .ins C dx fs=>H dx=some (.own a)∧fs.length≤1000∧dx≠a∧h.get? a=some (PySem.W.instObj C dx) ∧
   ∃ mA,h.Ns1 dx mA∧(∀ f,RelO (fs.lookup f) (mA f))∧PySem.Within mA (fs.map (·.1))
 | .own _=>∃ o,h.get? a=some o
 | .xd fs=>∃ mA,h.Ns1 a mA∧∀ f,RelO (fs.lookup f) (mA f)
 | .rng lo hi=>∃ t u v,h.get? a=some {cls := .type "range",data := .fields #[.int lo t,.int hi u,.int 1 v]}
 | .frz o u=>h.get? a=some o∧ObjOk H h a u
 | .tbl ps=>h.get? a=some {cls := .none,data := .fields ps}
 | .met f x=>h.get? a=some (PySem.W.methodObj (.ref f) (.ref x))
 | .ext φ=>φ h∧(∃ o,h.get? a=some o)∧∀ h1 h2:Heap,φ h1→(∀ o,h1.get? a=some o→h2.get? a=some o)→φ h2
def HOk (H:Hp) (h:Heap):Prop:=∀ a o,H a=some o→ObjOk P w H h a o
end
section
variable {P:Program} {w:World} {H H':Hp} {h h':Heap} {a:Addr} {o:HO}
theorem ObjOk.lt (x:ObjOk P w H h a o):a < h.objs.size:=by
 cases o with
 | lst xs=>obtain ⟨_,_,_,_,e⟩:=x;exact Heap.lt_size e
 | tup xs=>obtain ⟨_,_,_,p⟩:=x;exact p.lt
 | dK kvs=>obtain ⟨_,_,_,_,o,_,_,e,_⟩:=x;exact Heap.lt_size e
 | dT kvs=>obtain ⟨_,_,_,_,o,_,_,e,_⟩:=x;exact Heap.lt_size e
 | set S n=>obtain ⟨o,_,_,_,e,_⟩:=x;exact Heap.lt_size e
 | ins C dx fs=>obtain ⟨_,_,_,e,_⟩:=x;exact Heap.lt_size e
 | own y=>obtain ⟨_,e⟩:=x;exact Heap.lt_size e
 | xd fs=>obtain ⟨_,⟨_,_,_,e,_⟩,_⟩:=x;exact Heap.lt_size e
 | rng lo hi=>obtain ⟨_,_,_,e⟩:=x;exact Heap.lt_size e
 | frz ob u=>obtain ⟨e,_⟩:=x;exact Heap.lt_size e
 | tbl ps=>exact Heap.lt_size (show h.get? a=some _ from x)
 | met f y=>exact Heap.lt_size (show h.get? a=some _ from x)
 | ext φ=>obtain ⟨_,⟨_,e⟩,_⟩:=x;exact Heap.lt_size e
theorem Paired.mapP {α β:Type} {F G:α→β→Prop}:∀ {l₁:List α} {l₂:List β},Paired F l₁ l₂→(∀ a b,F a b→G a b)→Paired G l₁ l₂
 | _,_,.nil,_ => .nil
 | _,_,.cons r t,f => .cons (f _ _ r) (Paired.mapP t f)
theorem ObjOk.stay (x:ObjOk P w H h a o) (k:∀ b u,(b=a∨H b=some (.own a))→h.get? b=some u→h'.get? b=some u)
  (ho:∀ b,H b=some (.own a)→H' b=some (.own a)) (ht:∀ b xs,H b=some (.tup xs)→H' b=some (.tup xs)):ObjOk P w H' h' a o:=by
 induction o with
 | lst xs=>obtain ⟨z,its,n,r,e⟩:=x;exact ⟨z,its,n,r,k _ _ (.inl rfl) e⟩
 | tup xs=>obtain ⟨z,its,r,ob,e,c⟩:=x;exact ⟨z,its,r,ob,k _ _ (.inl rfl) e,c⟩
 | dK kvs=>obtain ⟨z,y,vs,r,ob,es,ep,e,c⟩:=x;exact ⟨z,y,vs,r,ob,es,ep,k _ _ (.inl rfl) e,c⟩
 | dT kvs=>
  obtain ⟨z,y,xs,r,ob,es,ep,e,c⟩:=x
  exact ⟨z,y,xs,Paired.mapP r fun p q z=>⟨z.1,ht _ _ z.2.1,z.2.2⟩,ob,es,ep,k _ _ (.inl rfl) e,c⟩
 | set S n=>obtain ⟨ob,es,ep,t,e,c⟩:=x;exact ⟨ob,es,ep,t,k _ _ (.inl rfl) e,c⟩
 | ins C dx fs=>
  obtain ⟨d,z,ne,e,mA,⟨od,es,ep,e2,c⟩,r⟩:=x
  exact ⟨ho _ d,z,ne,k _ _ (.inl rfl) e,mA,⟨od,es,ep,k _ _ (.inr d) e2,c⟩,r⟩
 | own y=>obtain ⟨ob,e⟩:=x;exact ⟨ob,k _ _ (.inl rfl) e⟩
 | xd fs=>obtain ⟨mA,⟨od,es,ep,e,c⟩,r⟩:=x;exact ⟨mA,⟨od,es,ep,k _ _ (.inl rfl) e,c⟩,r⟩
 | rng lo hi=>obtain ⟨t,u,v,e⟩:=x;exact ⟨t,u,v,k _ _ (.inl rfl) e⟩
 | frz ob u ih=>obtain ⟨e,q⟩:=x;exact ⟨k _ _ (.inl rfl) e,ih q⟩
 | tbl ps=>
  have e:h.get? a=some {cls := .none,data := .fields ps}:=x
  show h'.get? a=some {cls := .none,data := .fields ps}
  exact k a _ (.inl rfl) e
 | met f y=>
  have e:h.get? a=some (PySem.W.methodObj (.ref f) (.ref y)):=x
  show h'.get? a=some (PySem.W.methodObj (.ref f) (.ref y))
  exact k a _ (.inl rfl) e
 | ext φ=>obtain ⟨p,⟨o,e⟩,st⟩:=x;exact ⟨st _ _ p fun o q=>k _ _ (.inl rfl) q,⟨o,k _ _ (.inl rfl) e⟩,st⟩
theorem HOk.lt (x:HOk P w H h) (e:H a=some o):a < h.objs.size:=(x a o e).lt
theorem HOk.fresh (x:HOk P w H h) (e:h.objs.size≤a):H a=none:=by
 cases q:H a with
 | none=>rfl
 | some u=>exact absurd (Nat.lt_of_lt_of_le (x.lt q) e) (Nat.lt_irrefl _)
theorem HOk.kept (x:HOk P w H h) (k:∀ b u,h.get? b=some u→h'.get? b=some u):HOk P w H h':=fun a o e=>
 (x a o e).stay (fun b u _ q=>k b u q) (fun _ q=>q) fun _ _ q=>q
theorem HOk.laid (x:HOk P w H h) (k:∀ b u,h.get? b=some u→h'.get? b=some u) (hp:h.objs.size≤a) (new:ObjOk P w (upd H a o) h' a o):HOk P w (upd H a o) h':=fun b u e=>by
 have hn:=x.fresh hp
 by_cases hb:b=a
 ·subst hb;rw [bq] at e;cases e;exact new
 ·rw [aP hb] at e
  exact (x b u e).stay (fun c v _ q=>k c v q) (fun c q=>by rw [aP (aE q hn)];exact q) fun c xs q=>by rw [aP (aE q hn)];exact q
end
def Rd (H:Hp) (a:Addr) (u:HO):Prop:=H a=some u∨∃ o,H a=some (.frz o u)
theorem Rd.ok {P:Program} {w:World} {H:Hp} {h:Heap} {a:Addr} {u:HO} (r:Rd H a u) (x:HOk P w H h):ObjOk P w H h a u:=by
 rcases r with r | ⟨o,r⟩
 ·exact x a u r
 ·obtain ⟨_,q⟩:=x a _ r
  exact q
def Mut:Option HO→Prop
 | some (.lst _)=>True
 | some (.dK _)=>True
 | some (.dT _)=>True
 | some (.set _ _)=>True
 | some (.ins _ _ _)=>True
 | some (.ext _)=>True
 | _=>False
section
variable {P:Program} {w:World} {H:Hp} {h h':Heap} {x e:Addr} {o':HO}
theorem HOk.write (ok:HOk P w H h) (mu:Mut (H x)) (he:e=x∨H e=some (.own x)) (k:∀ b u,b≠e→h.get? b=some u→h'.get? b=some u) (heo:∃ u,h'.get? e=some u)
  (new:ObjOk P w (upd H x o') h' x o'):HOk P w (upd H x o') h':=fun b u q=>by
 have nown:∀ c y,H c=some (.own y)→c≠x:=fun c y r z=>by subst z;rw [r] at mu;exact mu
 have ntup:∀ c xs,H c=some (.tup xs)→c≠x:=fun c xs r z=>by subst z;rw [r] at mu;exact mu
 by_cases hb:b=x
 ·subst hb;rw [bq] at q;cases q;exact new
 ·rw [aP hb] at q
  by_cases hbe:b=e
  ·have q':H b=some (.own x):=by
    rcases he with z | z
    ·exact absurd (hbe.trans z) hb
    ·rw [hbe];exact z
   rw [q] at q';cases q'
   obtain ⟨v,hv⟩:=heo
   exact ⟨v,by rw [hbe];exact hv⟩
  ·refine (ok b u q).stay (fun c v hc r=>k c v ?_ r) (fun c r=>by rw [aP (nown c b r)];exact r) fun c xs r=>by rw [aP (ntup c xs r)];exact r
   rcases hc with rfl | hc
   ·exact hbe
   ·rintro rfl
    rcases he with z | z
    ·exact nown c b hc z
    ·rw [hc] at z;cases z;exact hb rfl
end
structure Un (fs ex:List Addr) (H H':Hp) (h h':Heap):Prop where
 keep:∀ b o,h.get? b=some o→H b=none→b∉fs→b∉ex→h'.get? b=some o
 slot:∀ b o,h.get? b=some o→H b=none→b∈fs→b∉ex→∃ sl,h'.get? b=some {o with slots:=sl}
 free:∀ b o,h.get? b=some o→H b=none→b∉ex→H' b=none
 there:∀ b o,h.get? b=some o→b∉ex→∃ o',h'.get? b=some o'
 tups:∀ b xs,H b=some (.tup xs)→H' b=some (.tup xs)
 frzs:∀ b o u,H b=some (.frz o u)→H' b=some (.frz o u)
 tbls:∀ b ps,H b=some (.tbl ps)→∃ more,H' b=some (.tbl (ps++more))
section
variable {fs fs' ex ex':List Addr} {H H1 H2:Hp} {h h1 h2 h':Heap} {a x e:Addr} {o:HO}
theorem Un.any (u:Un fs ex H H1 h h1) {b:Addr} {ob:Obj} (q:h.get? b=some ob) (n:H b=none) (hx:b∉ex):∃ sl,h1.get? b=some {ob with slots:=sl}:=by
 by_cases hb:b∈fs
 ·exact u.slot b ob q n hb hx
 ·exact ⟨ob.slots,u.keep b ob q n hb hx⟩
theorem Un.kept (k:∀ b u,h.get? b=some u→h'.get? b=some u):Un fs ex H H h h':=
 ⟨fun b ob q _ _ _=>k b ob q,fun b ob q _ _ _=>⟨ob.slots,k b ob q⟩,fun _ _ _ n _=>n,fun b ob q _=>⟨ob,k b ob q⟩,fun _ _ q=>q,fun _ _ _ q=>q,fun _ ps q=>⟨#[],by rw [q];simp⟩⟩
theorem Un.refl:Un fs ex H H h h:=Un.kept fun _ _ q=>q
theorem Un.laid (k:∀ b u,h.get? b=some u→h'.get? b=some u) (hp:h.objs.size≤a) (hn:H a=none):Un fs ex H (upd H a o) h h' where
 keep:=fun b u q _ _ _=>k b u q
 slot:=fun b u q _ _ _=>⟨u.slots,k b u q⟩
 free:=fun b u q n _=>by rw [aP (Nat.ne_of_lt (Nat.lt_of_lt_of_le (Heap.lt_size q) hp))];exact n
 there:=fun b u q _=>⟨u,k b u q⟩
 tups:=fun b xs q=>by rw [aP (aE q hn)];exact q
 frzs:=fun b u xs q=>by rw [aP (aE q hn)];exact q
 tbls:=fun b ps q=>⟨#[],by rw [aP (aE q hn),q];simp⟩
theorem Un.write (mu:Mut (H x)) (he:e=x∨H e=some (.own x)) (k:∀ b u,b≠e→h.get? b=some u→h'.get? b=some u) (heo:∃ u,h'.get? e=some u):Un fs ex H (upd H x o) h h':=by
 have hx:∀ b,H b=none→b≠x:=fun b n z=>by subst z;rw [n] at mu;exact mu
 have hb:∀ b,H b=none→b≠e:=fun b n z=>by
  subst z
  rcases he with r | r
  ·exact hx b n r
  ·rw [n] at r;cases r
 have hm:∀ b u,H b=some u→¬ Mut (some u)→b≠x:=fun b u q nm z=>by subst z;rw [q] at mu;exact nm mu
 refine ⟨fun b u q n _ _=>k b u (hb b n) q,fun b u q n _ _=>⟨u.slots,k b u (hb b n) q⟩,fun b u q n _=>by rw [aP (hx b n)];exact n,fun b u q _ => ?_,
  fun b xs q=>by rw [aP (hm b _ q fun z=>z)];exact q,fun b u xs q=>by rw [aP (hm b _ q fun z=>z)];exact q,fun b ps q=>⟨#[],by rw [aP (hm b _ q fun z=>z),q];simp⟩⟩
 by_cases hbe:b=e
 ·subst hbe;exact heo
 ·exact ⟨u,k b u hbe q⟩
end
def trk (h:Heap) (H:Hp):List Addr:=(List.range h.objs.size).filter fun a=>(H a).isSome
def rN (h:Heap) (H:Hp):Heap:=PySem.W.hideAll h (trk h H)
theorem oV (h:Heap) (H:Hp):(rN h H).objs.size=h.objs.size:=PySem.W.hideAll_size _ _
theorem rO {h:Heap} {H:Hp} {b:Addr} {o:Obj} (e:h.get? b=some o) (n:H b=none):(rN h H).get? b=some o:=
 PySem.W.hideAll_get _ e fun hm=>by
  have q:(H b).isSome=true:=(List.mem_filter.mp hm).2
  rw [n] at q;simp at q
theorem uv {h:Heap} {H:Hp} {b:Addr} {o:Obj} (e:(rN h H).get? b=some o):h.get? b=some o∧H b=none:=by
 have e':h.get? b=some o:=PySem.W.of_hideAll (trk h H) e
 refine ⟨e',?_⟩
 cases q:H b with
 | none=>rfl
 | some x=>
  have hm:b∈trk h H:=List.mem_filter.mpr ⟨List.mem_range.mpr (Heap.lt_size e'),by simp [q]⟩
  have z:(rN h H).get? b=none:=PySem.W.hideAll_none (trk h H) hm
  rw [z] at e;cases e
def uw (g h:Heap) (L:Addr):List (Addr×Obj):=(List.range h.objs.size).filterMap fun a=>if a=L∨(g.get? a).isSome=true then none else (h.get? a).map fun o=>(a,o)
def rest (g h:Heap) (L d:Addr):List (Addr×Obj):=(uw g h L).filter fun p=>decide (p.1≠d)
end L2
namespace L2
open PySem PySem.Spec PyProof.Rows
structure Mod (K:PySem.W.Frag) (mg:Str→Option Value) (base:Heap):Prop where
 kin:K.In base
 glob:base.Ns mainGlobals mg
 blt:∃ mb,base.Ns builtinsNs mb∧∀ x:Str,x ≠ "__name__" → mb x=bootBuiltins x
 nolimit:base.NoLimit
structure Cx where
 prog:Program
 w:World
 K:PySem.W.Frag
 mg:Str→Option Value
 base:Heap
 A:Around
 N:List Str
 s₀:Shared
 H₀:Hp
 env:Env
 outer:List Env
 stack:List Env
 ex:List Addr
 fn:Str→Bool
 calm:Bool
 pn:List (Addr×Obj)
 xe:Value→Shared→Prop
def frs (l:List Env):List Addr:=l.filterMap (·.frame)
abbrev Cx.fs (X:Cx):List Addr:=frs X.outer
def Vis (sc:Scope) (x:Str):Prop:=sc.names.lookup x=some .local∨sc.names.lookup x=some .cell∨sc.names.lookup x=some .free
def Loc (sc:Scope) (x:Str):Prop:=sc.names.lookup x=some .local∨sc.names.lookup x=some .cell
def yR (env:Env) (h:Heap) (m:Str→Option Value) (x:Str) (u:Value):Prop:=
 (env.kindOf x=some .local∧m x=some u)∨((env.kindOf x=some .cell∨env.kindOf x=some .free)∧∃ c,env.cells.lookup x=some c∧h.IsCell c (some u))
structure Cx.Ok (X:Cx):Prop where
 mod:Mod X.K X.mg X.base
 kind:X.env.scope.kind = .function
 glob:X.env.globals=mainGlobals
 blt:X.env.builtins=builtinsNs
 above:X.s₀.heap.objs.size≤X.env.locals
 inj:∀ x y c,X.env.cells.lookup x=some c→X.env.cells.lookup y=some c→x=y
 has:∀ x,(X.env.kindOf x=some .cell∨X.env.kindOf x=some .free)→∃ c,X.env.cells.lookup x=some c
 cab:∀ x c,X.fn x=true→X.env.cells.lookup x=some c→X.s₀.heap.objs.size≤c
 hd:X.calm=true→X.A.handled=none
 frames:X.A.frames=some X.stack
 stk:X.stack=X.outer∨(X.stack=X.env :: X.outer∧X.env.frame=some X.env.locals)
 exf:∀ b∈X.ex,b≠X.env.locals∧∀ x c,X.env.cells.lookup x=some c→c≠b
 bs:∀ b o,X.base.get? b=some o→X.s₀.heap.get? b=some o∧X.H₀ b=none
 bsz:X.base.objs.size≤X.s₀.heap.objs.size
 noex:∀ b o,X.base.get? b=some o→b∉X.ex
 exfs:∀ b∈X.ex,b∉X.fs
 funs:X.s₀.heap.FunFrames X.base X.outer
 frf:∀ b∈X.fs,X.H₀ b=none
structure Inv (X:Cx) (pins:List (Addr×Obj)) (σ:List (Option V)) (H:Hp) (s:Shared):Prop where
 ok:X.Ok
 os:s.os=X.s₀.os
 bare:AllBare s.gens
 base:Un X.fs X.ex X.H₀ H X.s₀.heap s.heap
 loc:∃ m,s.heap.Ns X.env.locals m∧∀ (i:Nat) (x:Str) (v:V),X.N[i]? = some x→σ[i]? = some (some v)→Vis X.env.scope x→∃ u,RelV v u∧yR X.env s.heap m x u
 cell:∀ x c,X.env.cells.lookup x=some c→∃ v,s.heap.IsCell c v
 free:H X.env.locals=none
 freeC:∀ x c,X.env.cells.lookup x=some c→H c=none
 pin:∀ p∈X.pn++pins,s.heap.get? p.1=some p.2∧H p.1=none∧p.1≠X.env.locals∧p.1∉X.fs∧∀ v,p.2.data ≠ .cell v
 hok:HOk X.prog X.w H s.heap
 len:σ.length=X.N.length
section
variable {X:Cx} {pins:List (Addr×Obj)} {σ:List (Option V)} {H H':Hp} {s:Shared} {h':Heap}
theorem Cx.Ok.nofr (ok:X.Ok) {b:Addr} {o:Obj} (e:X.base.get? b=some o):b∉X.fs:=fun hb=>by
 have:=(ok.funs.mem hb).1
 rw [e] at this;cases this
theorem Inv.bs (I:Inv X pins σ H s):∀ b o,X.base.get? b=some o→s.heap.get? b=some o∧H b=none:=fun b o e=>
 ⟨I.base.keep b o (I.ok.bs b o e).1 (I.ok.bs b o e).2 (I.ok.nofr e) (I.ok.noex b o e),I.base.free b o (I.ok.bs b o e).1 (I.ok.bs b o e).2 (I.ok.noex b o e)⟩
theorem Inv.bk (I:Inv X pins σ H s):∀ b o,X.base.get? b=some o→s.heap.get? b=some o:=fun b o e=>(I.bs b o e).1
theorem Inv.mod (I:Inv X pins σ H s):Mod X.K X.mg X.base:=I.ok.mod
theorem Inv.kIn (I:Inv X pins σ H s):X.K.In s.heap:=I.ok.mod.kin.keeps I.bk
theorem Inv.lt (I:Inv X pins σ H s):X.env.locals < s.heap.objs.size:=let ⟨_,hn,_⟩:=I.loc;hn.lt
theorem Inv.sz (I:Inv X pins σ H s):X.s₀.heap.objs.size≤s.heap.objs.size:=Nat.le_trans I.ok.above (Nat.le_of_lt I.lt)
theorem Inv.nofs (I:Inv X pins σ H s) {a:Addr} (h:s.heap.objs.size≤a):a∉X.fs:=fun hb=>by
 obtain ⟨_,o,ho,_⟩:=I.ok.funs.mem hb
 exact absurd (Nat.lt_of_lt_of_le (Heap.lt_size ho) (Nat.le_trans I.sz h)) (Nat.lt_irrefl _)
theorem Inv.cne (I:Inv X pins σ H s):∀ x c,X.env.cells.lookup x=some c→c≠X.env.locals:=fun x c e z=>by
 obtain ⟨v,o,ho,hd⟩:=I.cell x c e
 obtain ⟨m,⟨o',es,ep,ho',hd',_⟩,_⟩:=I.loc
 rw [z,ho'] at ho;cases ho;rw [hd'] at hd;cases hd
theorem Inv.funs (I:Inv X pins σ H s):s.heap.FunFrames X.base X.outer:=by
 have all:∀ (l:List Env),(∀ b∈frs l,b∈X.fs)→X.s₀.heap.FunFrames X.base l→s.heap.FunFrames X.base l:=by
  intro l
  induction l with
  | nil=>intro _ _;trivial
  | cons env r ih=>
   intro hs hl
   obtain ⟨hk,⟨L,o,hf,hn,ho,hd⟩,hr⟩:=hl
   have hL:L∈X.fs:=hs L (by unfold frs;rw [List.filterMap_cons,hf];exact List.mem_cons_self)
   obtain ⟨sl,e⟩:=I.base.slot L o ho (I.ok.frf L hL) hL fun z=>I.ok.exfs L z hL
   exact ⟨hk,⟨L,_,hf,hn,e,hd⟩,ih (fun b hb=>hs b (by unfold frs;rw [List.filterMap_cons,hf];exact List.mem_cons_of_mem _ hb)) hr⟩
 exact all X.outer (fun _ hb=>hb) I.ok.funs
theorem Inv.stack (I:Inv X pins σ H s):s.heap.FunFrames X.base X.stack:=by
 rcases I.ok.stk with e | ⟨e,hf⟩
 ·rw [e];exact I.funs
 ·rw [e]
  obtain ⟨m,hn,_⟩:=I.loc
  refine .cons (by rw [I.ok.kind];decide) hf hn ?_ I.funs
  exact Heap.get?_none_of_le (Nat.le_trans I.ok.bsz I.ok.above)
theorem Inv.stkSub (I:Inv X pins σ H s):∀ b∈frs X.stack,b∈X.env.locals :: X.fs:=fun b hb=>by
 rcases I.ok.stk with e | ⟨e,hf⟩
 ·rw [e] at hb;exact List.mem_cons_of_mem _ hb
 ·rw [e] at hb
  unfold frs at hb
  rw [List.filterMap_cons,hf] at hb
  exact hb
theorem Inv.stkFree (I:Inv X pins σ H s):∀ b∈frs X.stack,H b=none:=fun b hb=>by
 rcases List.mem_cons.mp (I.stkSub b hb) with e | hb
 ·rw [e];exact I.free
 ·obtain ⟨_,o,ho,_⟩:=I.ok.funs.mem hb
  exact I.base.free b o ho (I.ok.frf b hb) fun z=>I.ok.exfs b z hb
theorem Inv.step {g':Array GenState} {t':Nat} {d':Drawn} {ch:List Addr} (I:Inv X pins σ H s)
  (hch:∀ b∈ch,(b∈X.ex∨X.s₀.heap.objs.size≤b)∧b≠X.env.locals∧(∀ x c,X.env.cells.lookup x=some c→c≠b)∧∀ p∈X.pn++pins,p.1≠b)
  (keep:∀ b o,b≠X.env.locals→b∉X.fs→b∉ch→s.heap.get? b=some o→H b=none→h'.get? b=some o)
  (slot:∀ b o,b≠X.env.locals→b∈X.fs→b∉ch→s.heap.get? b=some o→H b=none→∃ sl,h'.get? b=some {o with slots:=sl}) (free:∀ b o,b∉ch→s.heap.get? b=some o→H b=none→H' b=none)
  (there:∀ b o,b∉ch→s.heap.get? b=some o→∃ o',h'.get? b=some o')
  (tups:∀ b xs,H b=some (.tup xs)→H' b=some (.tup xs)) (frzs:∀ b o u,H b=some (.frz o u)→H' b=some (.frz o u)) (tbls:∀ b ps,H b=some (.tbl ps)→∃ more,H' b=some (.tbl (ps++more)))
  (ns:∀ m,s.heap.Ns X.env.locals m→h'.Ns X.env.locals m) (hok:HOk X.prog X.w H' h') (hg:AllBare g') :
  Inv X pins σ H' {s with heap:=h',gens:=g',drawn:=d',toks:=t'}:=by
 have neL:∀ b o,X.s₀.heap.get? b=some o→b≠X.env.locals:=fun b o e=>Nat.ne_of_lt (Nat.lt_of_lt_of_le (Heap.lt_size e) I.ok.above)
 have neC:∀ b o,X.s₀.heap.get? b=some o→b∉X.ex→b∉ch:=fun b o e hx hb=>by
  rcases (hch b hb).1 with z | z
  ·exact hx z
  ·exact absurd (Nat.lt_of_lt_of_le (Heap.lt_size e) z) (Nat.lt_irrefl _)
 have cellK:∀ x c,X.env.cells.lookup x=some c→∀ v,s.heap.IsCell c v→h'.IsCell c v:=fun x c e v ⟨o,ho,hd⟩=>by
  have nch:c∉ch:=fun z=>(hch c z).2.2.1 x c e rfl
  by_cases hc:c∈X.fs
  ·obtain ⟨sl,q⟩:=slot c o (I.cne x c e) hc nch ho (I.freeC x c e)
   exact ⟨_,q,hd⟩
  ·exact ⟨o,keep c o (I.cne x c e) hc nch ho (I.freeC x c e),hd⟩
 refine ⟨I.ok,I.os,hg,⟨fun b o e n hb hx => ?_,fun b o e n hb hx => ?_,fun b o e n hx => ?_,fun b o e hx => ?_,fun b xs e=>tups b xs (I.base.tups b xs e),fun b o xs e=>frzs b o xs (I.base.frzs b o xs e),fun b ps e => ?_⟩,?_,fun x c e => ?_,?_,fun x c e => ?_,fun p hp => ?_,hok,I.len⟩
 ·exact keep b o (neL b o e) hb (neC b o e hx) (I.base.keep b o e n hb hx) (I.base.free b o e n hx)
 ·obtain ⟨sl,e1⟩:=I.base.slot b o e n hb hx
  obtain ⟨sl',e2⟩:=slot b _ (neL b o e) hb (neC b o e hx) e1 (I.base.free b o e n hx)
  exact ⟨sl',e2⟩
 ·obtain ⟨o',e1⟩:=I.base.there b o e hx
  exact free b o' (neC b o e hx) e1 (I.base.free b o e n hx)
 ·obtain ⟨o',e1⟩:=I.base.there b o e hx
  exact there b o' (neC b o e hx) e1
 ·obtain ⟨m1,e1⟩:=I.base.tbls b ps e
  obtain ⟨m2,e2⟩:=tbls b _ e1
  exact ⟨m1++m2,by rw [e2,Array.append_assoc]⟩
 ·obtain ⟨m,hn,hl⟩:=I.loc
  refine ⟨m,ns m hn,fun i x v e1 e2 e3 => ?_⟩
  obtain ⟨u,r,l⟩:=hl i x v e1 e2 e3
  refine ⟨u,r,?_⟩
  rcases l with l | ⟨k,c,e,z⟩
  ·exact .inl l
  ·exact .inr ⟨k,c,e,cellK x c e _ z⟩
 ·obtain ⟨v,z⟩:=I.cell x c e
  exact ⟨v,cellK x c e v z⟩
 ·obtain ⟨m,⟨o,_,_,ho,_⟩,_⟩:=I.loc
  exact free _ o (fun z=>(hch _ z).2.1 rfl) ho I.free
 ·obtain ⟨v,o,ho,hd⟩:=I.cell x c e
  exact free c o (fun z=>(hch c z).2.2.1 x c e rfl) ho (I.freeC x c e)
 ·obtain ⟨e,n,ne,nf,d⟩:=I.pin p hp
  have nch:p.1∉ch:=fun z=>(hch p.1 z).2.2.2 p hp rfl
  exact ⟨keep p.1 p.2 ne nf nch e n,free p.1 p.2 nch e n,ne,nf,d⟩
theorem Inv.un {t':Nat} (I:Inv X pins σ H s) (u:Un X.fs [] H H' s.heap h') (hok:HOk X.prog X.w H' h'):Inv X pins σ H' {s with heap:=h',toks:=t'}:=by
 obtain ⟨m,⟨o,es,ep,ho,r⟩,_⟩:=id I.loc
 obtain ⟨sl,hL⟩:=u.any ho I.free (by simp)
 exact I.step (g':=s.gens) (d':=s.drawn) (ch:=[]) (fun _ z=>nomatch z) (fun b o _ hb _ e n=>u.keep b o e n hb (by simp)) (fun b o _ hb _ e n=>u.slot b o e n hb (by simp)) (fun b o _ e n=>u.free b o e n (by simp)) (fun b o _ e=>u.there b o e (by simp)) u.tups u.frzs u.tbls (fun m' hm=>by
  obtain ⟨o',es',ep',ho',r'⟩:=hm
  rw [ho] at ho';cases ho'
  exact ⟨_,es',ep',hL,r'⟩) hok I.bare
theorem Inv.call {g':Array GenState} {t':Nat} {d':Drawn} {ch:List Addr} (I:Inv X pins σ H s) (u:Un (frs X.stack) ch H H' s.heap h') (hok:HOk X.prog X.w H' h') (hg:AllBare g')
  (hch:∀ b∈ch,(b∈X.ex∨X.s₀.heap.objs.size≤b)∧b≠X.env.locals∧(∀ x c,X.env.cells.lookup x=some c→c≠b)∧∀ p∈X.pn++pins,p.1≠b) :
  Inv X pins σ H' {s with heap:=h',gens:=g',drawn:=d',toks:=t'}:=by
 obtain ⟨m,⟨o,es,ep,ho,r⟩,_⟩:=id I.loc
 obtain ⟨sl,hL⟩:=u.any ho I.free fun z=>(hch _ z).2.1 rfl
 exact I.step (ch:=ch) hch (fun b o hL hb hc e n=>u.keep b o e n (fun z=>(List.mem_cons.mp (I.stkSub b z)).elim hL hb) hc) (fun b o _ _ hc e n=>u.any e n hc) (fun b o hc e n=>u.free b o e n hc) (fun b o hc e=>u.there b o e hc) u.tups u.frzs u.tbls (fun m' hm=>by
  obtain ⟨o',es',ep',ho',r'⟩:=hm
  rw [ho] at ho';cases ho'
  exact ⟨_,es',ep',hL,r'⟩) hok hg
theorem Inv.turned {t':Nat} {it:Addr} (I:Inv X pins σ H s) (k:∀ b o,b≠it→s.heap.get? b=some o→h'.get? b=some o) (hn:H it=none) (hL:it≠X.env.locals)
  (h1:it∈X.ex∨X.s₀.heap.objs.size≤it) (h2:∀ x c,X.env.cells.lookup x=some c→c≠it) (h3:∀ p∈X.pn++pins,p.1≠it):Inv X pins σ H {s with heap:=h',toks:=t'}:=by
 have nit:∀ b u,H b=some u→b≠it:=fun b u e z=>by rw [z,hn] at e;cases e
 refine I.step (g':=s.gens) (d':=s.drawn) (ch:=[it]) (fun b hb => ?_) (fun b o _ _ hc e _=>k b o (fun z=>hc (by simp [z])) e) (fun b o _ _ hc e _=>⟨o.slots,k b o (fun z=>hc (by simp [z])) e⟩) (fun _ _ _ _ n=>n)
  (fun b o hc e=>⟨o,k b o (fun z=>hc (by simp [z])) e⟩) (fun _ _ e=>e) (fun _ _ _ e=>e) (fun b ps e=>⟨#[],by rw [e];simp⟩) (fun m hm => ?_) (fun b u e => ?_) I.bare
 ·have e:b=it:=by simpa using hb
  subst e
  exact ⟨h1,hL,h2,h3⟩
 ·obtain ⟨o,es,ep,ho,r⟩:=hm
  exact ⟨o,es,ep,k _ o (Ne.symm hL) ho,r⟩
 ·refine (I.hok b u e).stay (fun c v hc q=>k c v ?_ q) (fun _ q=>q) fun _ _ q=>q
  rcases hc with z | z
  ·rw [z];exact nit b u e
  ·exact nit c _ z
theorem Inv.tok (I:Inv X pins σ H s) (t:Nat):Inv X pins σ H {s with toks:=t}:=I.un (h':=s.heap) (t':=t) Un.refl I.hok
theorem Inv.kept {t':Nat} (I:Inv X pins σ H s) (k:∀ b u,s.heap.get? b=some u→h'.get? b=some u):Inv X pins σ H {s with heap:=h',toks:=t'}:=I.un (Un.kept k) (I.hok.kept k)
theorem Inv.laid {a:Addr} {o:HO} {t':Nat} (I:Inv X pins σ H s) (k:∀ b u,s.heap.get? b=some u→h'.get? b=some u) (hp:s.heap.objs.size≤a) (new:ObjOk X.prog X.w (upd H a o) h' a o) :
  Inv X pins σ (upd H a o) {s with heap:=h',toks:=t'}:=I.un (Un.laid k hp (I.hok.fresh hp)) (I.hok.laid k hp new)
theorem Inv.write {x e:Addr} {o:HO} {t':Nat} (I:Inv X pins σ H s) (mu:Mut (H x)) (he:e=x∨H e=some (.own x)) (k:∀ b u,b≠e→s.heap.get? b=some u→h'.get? b=some u) (heo:∃ u,h'.get? e=some u)
  (new:ObjOk X.prog X.w (upd H x o) h' x o):Inv X pins σ (upd H x o) {s with heap:=h',toks:=t'}:=I.un (Un.write mu he k heo) (I.hok.write mu he k heo new)
theorem Inv.pins_of {pins':List (Addr×Obj)} (I:Inv X pins σ H s) (h:∀ p∈pins',s.heap.get? p.1=some p.2∧H p.1=none∧p.1≠X.env.locals∧p.1∉X.fs∧∀ v,p.2.data ≠ .cell v):Inv X pins' σ H s:=
 ⟨I.ok,I.os,I.bare,I.base,I.loc,I.cell,I.free,I.freeC,fun p hp=>(List.mem_append.mp hp).elim (fun z=>I.pin p (List.mem_append_left _ z)) (h p),I.hok,I.len⟩
theorem jJ {N:List Str} (hN:N.Nodup) {i j:Nat} {x:Str} (a:N[i]? = some x) (b:N[j]? = some x):i=j:=by
 obtain ⟨h1,e1⟩:=List.getElem?_eq_some_iff.mp a
 obtain ⟨h2,e2⟩:=List.getElem?_eq_some_iff.mp b
 exact (List.getElem_inj hN).mp (e1.trans e2.symm)
theorem kj {M:Model} {A:Around} {E:Value→Shared→Prop} {i:Nat} {x:Str} {v:V} {u:Value} {Q:Unit→Shared→Prop} (I:Inv X pins σ H s) (hN:X.N.Nodup) (hi:X.N[i]? = some x) (hx:Loc X.env.scope x) (r:RelV v u)
  (h:∀ s',Inv X pins (σ.set i (some v)) H s'→(∃ a,Heap.SameBut a s.heap s'.heap∧(a=X.env.locals∨X.env.cells.lookup x=some a))→Q () s') (hf:X.fn x=true∨X.env.scope.names.lookup x=some .local:=by first | exact .inl rfl | exact .inr rfl | assumption):wpAny M A (storeName X.env x u) Q E s:=by
 obtain ⟨m,hn,hl⟩:=id I.loc
 have hcls:(X.env.scope.kind == .class || (X.env.scope.kind == .module && X.env.locals != X.env.globals))=false:=by rw [I.ok.kind];rfl
 have hiσ:i < σ.length:=by rw [I.len];exact (List.getElem?_eq_some_iff.mp hi).1
 have cne:=I.cne
 have tracked:∀ {a:Addr} {h':Heap},(∃ o,s.heap.get? a=some o∧H a=none)→Heap.SameBut a s.heap h'→HOk X.prog X.w H h':=fun {a h'} ha hs b ob e=>by
  obtain ⟨_,_,hfree⟩:=ha
  refine (I.hok b ob e).stay (fun c w' hc q=>(hs.2 c ?_).trans q) (fun _ q=>q) fun _ _ q=>q
  rintro rfl
  rcases hc with rfl | hc
  ·rw [hfree] at e;cases e
  ·rw [hfree] at hc;cases hc
 rcases hx with hk | hk
 ·refine wpAny_storeName_local hk hn (fun h' hn' hs => ?_) hcls
  obtain ⟨oL,_,_,hoL,_⟩:=id hn
  refine h _ ⟨I.ok,I.os,I.bare,⟨fun b o e n hb hx => ?_,fun b o e n hb hx => ?_,I.base.free,fun b o e hx => ?_,I.base.tups,I.base.frzs,I.base.tbls⟩,⟨_,hn',fun j y v' e1 e2 e3 => ?_⟩,fun y c e => ?_,I.free,I.freeC,fun p hp => ?_,tracked ⟨oL,hoL,I.free⟩ hs,by simpa using I.len⟩ ⟨_,hs,.inl rfl⟩
  ·exact (hs.2 b (Nat.ne_of_lt (Nat.lt_of_lt_of_le (Heap.lt_size e) I.ok.above))).trans (I.base.keep b o e n hb hx)
  ·obtain ⟨sl,e1⟩:=I.base.slot b o e n hb hx
   exact ⟨sl,(hs.2 b (Nat.ne_of_lt (Nat.lt_of_lt_of_le (Heap.lt_size e) I.ok.above))).trans e1⟩
  ·obtain ⟨o',e1⟩:=I.base.there b o e hx
   exact ⟨o',(hs.2 b (Nat.ne_of_lt (Nat.lt_of_lt_of_le (Heap.lt_size e) I.ok.above))).trans e1⟩
  ·by_cases hj:j=i
   ·subst hj
    rw [hi] at e1;cases e1
    rw [List.getElem?_set_self hiσ] at e2
    cases e2
    exact ⟨u,r,.inl ⟨hk,by simp⟩⟩
   ·rw [List.getElem?_set_ne (Ne.symm hj)] at e2
    obtain ⟨u',r',q⟩:=hl j y v' e1 e2 e3
    refine ⟨u',r',?_⟩
    rcases q with ⟨k,e⟩ | ⟨k,c,e,z⟩
    ·refine .inl ⟨k,?_⟩
     have:y≠x:=fun e=>hj (jJ hN e1 (e ▸ hi))
     simp [this,e]
    ·exact .inr ⟨k,c,e,z.sameBut hs (cne y c e)⟩
  ·obtain ⟨w',z⟩:=I.cell y c e
   exact ⟨w',z.sameBut hs (cne y c e)⟩
  ·obtain ⟨e,n,ne,nf,d⟩:=I.pin p hp
   exact ⟨(hs.2 p.1 ne).trans e,n,ne,nf,d⟩
 ·have hfn:X.fn x=true:=by
   rcases hf with z | z
   ·exact z
   ·rw [z] at hk;cases hk
  obtain ⟨c,hc⟩:=I.ok.has x (.inl hk)
  obtain ⟨w',z⟩:=I.cell x c hc
  refine wpAny_storeName_cell I.ok.kind hk hc z (fun h' hc' hs => ?_)
  obtain ⟨oc,hoc,hocd⟩:=id z
  refine h {s with heap:=h'} ⟨I.ok,I.os,I.bare,⟨fun b o e n hb hx => ?_,fun b o e n hb hx => ?_,I.base.free,fun b o e hx => ?_,I.base.tups,I.base.frzs,I.base.tbls⟩,⟨m,hn.sameBut hs (Ne.symm (cne x c hc)),fun j y v' e1 e2 e3 => ?_⟩,fun y c' e => ?_,I.free,I.freeC,fun p hp => ?_,tracked ⟨oc,hoc,I.freeC x c hc⟩ hs,by simpa using I.len⟩ ⟨c,hs,.inr hc⟩
  ·exact (hs.2 b (Nat.ne_of_lt (Nat.lt_of_lt_of_le (Heap.lt_size e) (I.ok.cab x c hfn hc)))).trans (I.base.keep b o e n hb hx)
  ·obtain ⟨sl,e1⟩:=I.base.slot b o e n hb hx
   exact ⟨sl,(hs.2 b (Nat.ne_of_lt (Nat.lt_of_lt_of_le (Heap.lt_size e) (I.ok.cab x c hfn hc)))).trans e1⟩
  ·obtain ⟨o',e1⟩:=I.base.there b o e hx
   exact ⟨o',(hs.2 b (Nat.ne_of_lt (Nat.lt_of_lt_of_le (Heap.lt_size e) (I.ok.cab x c hfn hc)))).trans e1⟩
  ·by_cases hj:j=i
   ·subst hj
    rw [hi] at e1;cases e1
    rw [List.getElem?_set_self hiσ] at e2
    cases e2
    exact ⟨u,r,.inr ⟨.inl hk,c,hc,hc'⟩⟩
   ·rw [List.getElem?_set_ne (Ne.symm hj)] at e2
    obtain ⟨u',r',q⟩:=hl j y v' e1 e2 e3
    refine ⟨u',r',?_⟩
    rcases q with q | ⟨k,c',e,z'⟩
    ·exact .inl q
    ·refine .inr ⟨k,c',e,z'.sameBut hs ?_⟩
     rintro rfl
     exact hj (jJ hN e1 (I.ok.inj _ _ _ e hc ▸ hi))
  ·by_cases hcc:c'=c
   ·subst hcc;exact ⟨_,hc'⟩
   ·obtain ⟨w2,z2⟩:=I.cell y c' e
    exact ⟨w2,z2.sameBut hs hcc⟩
  ·obtain ⟨e,n,ne,nf,d⟩:=I.pin p hp
   refine ⟨(hs.2 p.1 ?_).trans e,n,ne,nf,d⟩
   intro q
   rw [q,hoc] at e
   have q':oc=p.2:=Option.some.inj e
   exact d w' (by rw [← q'];exact hocd)
theorem fo {M:Model} {A:Around} {E:Value→Shared→Prop} {i:Nat} {x:Str} {v:V} {u:Value} {Q:Unit→Shared→Prop} (I:Inv X pins σ H s) (hN:X.N.Nodup) (hi:X.N[i]? = some x) (hx:Loc X.env.scope x) (r:RelV v u)
  (h:∀ s',Inv X pins (σ.set i (some v)) H s'→Q () s') (hf:X.fn x=true∨X.env.scope.names.lookup x=some .local:=by first | exact .inl rfl | exact .inr rfl | assumption):wpAny M A (storeName X.env x u) Q E s:=
 kj I hN hi hx r (fun s' I' _=>h s' I') hf
theorem Inv.call' {s':Shared} {ch:List Addr} (I:Inv X pins σ H s) (ho:s'.os=s.os) (u:Un (frs X.stack) ch H H' s.heap s'.heap) (hok:HOk X.prog X.w H' s'.heap) (hg:AllBare s'.gens)
  (hch:∀ b∈ch,(b∈X.ex∨X.s₀.heap.objs.size≤b)∧b≠X.env.locals∧(∀ x c,X.env.cells.lookup x=some c→c≠b)∧∀ p∈X.pn++pins,p.1≠b):Inv X pins σ H' s':=by
 obtain ⟨h',g',d',t',o'⟩:=s'
 have e:o'=s.os:=ho
 subst e
 exact I.call (g':=g') (t':=t') (d':=d') u hok hg hch
end
abbrev XK:=Value→Option Addr→Hp→Prop
abbrev St:=List (Option V)
abbrev VK:=V→Hp→Prop
abbrev TE:=St→Hp→VK→Prop
abbrev TT:=St→Hp→(Bool→Hp→Prop)→Prop
abbrev TA:=St→Hp→(List V→Hp→Prop)→Prop
structure Ends where
 nx:St→Hp→Prop
 rt:VK
 bk:St→Hp→Prop:=fun _ _=>False
 ct:St→Hp→Prop:=fun _ _=>False
abbrev TS:=Ends→St→Hp→Prop
def EP (X:Cx) (pins:List (Addr×Obj)) (σ:St) (Q:VK) (u:Value) (s':Shared):Prop:=∃ v H',Inv X pins σ H' s'∧RelV v u∧Q v H'
def TP (X:Cx) (pins:List (Addr×Obj)) (σ:St) (Q:Bool→Hp→Prop) (b:Bool) (s':Shared):Prop:=∃ H',Inv X pins σ H' s'∧Q b H'
def AP (X:Cx) (pins:List (Addr×Obj)) (σ:St) (Q:List V→Hp→Prop) (us:List Value) (s':Shared):Prop:=∃ vs H',Inv X pins σ H' s'∧Vals vs us∧Q vs H'
def SP (X:Cx) (pins:List (Addr×Obj)) (D:Ends) (f:Flow) (s':Shared):Prop:=
 match f with
 | .next=>∃ σ' H',Inv X pins σ' H' s'∧D.nx σ' H'
 | .brk=>∃ σ' H',Inv X pins σ' H' s'∧D.bk σ' H'
 | .cont=>∃ σ' H',Inv X pins σ' H' s'∧D.ct σ' H'
 | .ret u=>∃ v σ' H',Inv X pins σ' H' s'∧RelV v u∧D.rt v H'
def PE (X:Cx) (e:Expr) (t:TE):Prop:=
 ∀ (pins:List (Addr×Obj)) (s:Shared) (σ:St) (H:Hp) (Q:VK),Inv X pins σ H s→t σ H Q→wpAny (model X.prog X.w) X.A (eval e X.env) (EP X pins σ Q) X.xe s
def PT (X:Cx) (e:Expr) (t:TT):Prop:=
 ∀ (pins:List (Addr×Obj)) (s:Shared) (σ:St) (H:Hp) (Q:Bool→Hp→Prop),Inv X pins σ H s→t σ H Q→wpAny (model X.prog X.w) X.A (isTrue e X.env (eval e X.env)) (TP X pins σ Q) X.xe s
def PW (X:Cx) (e:Expr) (t:TT):Prop:=
 ∀ (whole:Sem Value) (pins:List (Addr×Obj)) (s:Shared) (σ:St) (H:Hp) (Q:Bool→Hp→Prop),Inv X pins σ H s→t σ H Q→wpAny (model X.prog X.w) X.A (isTrue e X.env whole) (TP X pins σ Q) X.xe s
theorem PW.pt {X:Cx} {e:Expr} {t:TT} (h:PW X e t):PT X e t:=h _
def PA (X:Cx) (es:List Expr) (t:TA):Prop:=
 ∀ (pos:Pos) (pins:List (Addr×Obj)) (s:Shared) (σ:St) (H:Hp) (Q:List V→Hp→Prop),Inv X pins σ H s→t σ H Q→wpAny (model X.prog X.w) X.A (spliced (backTo pos (starEach es X.env))) (AP X pins σ Q) X.xe s
def PS (X:Cx) (st:Stmt) (t:TS):Prop:=
 ∀ (pins:List (Addr×Obj)) (s:Shared) (σ:St) (H:Hp) (D:Ends),Inv X pins σ H s→t D σ H→wpAny (model X.prog X.w) X.A (exec st X.env) (SP X pins D) X.xe s
def PSs (X:Cx) (st:List Stmt) (t:TS):Prop:=
 ∀ (pins:List (Addr×Obj)) (s:Shared) (σ:St) (H:Hp) (D:Ends),Inv X pins σ H s→t D σ H→wpAny (model X.prog X.w) X.A (execs st X.env) (SP X pins D) X.xe s
theorem thn {α:Type} {t:Sem α} {Q Q':α→Shared→Prop} {M:Model} {A:Around} {E:Value→Shared→Prop} {s:Shared} (h:wpAny M A t Q E s) (hQ:∀ a s,Q a s→Q' a s):wpAny M A t Q' E s:=wpAny_mono h hQ fun _ _ x=>x
end L2
namespace L2
open PySem PySem.Spec PyProof.Rows
section
variable {X:Cx}
def jb (i:Nat):TE:=fun σ H Q=>∃ v,σ[i]? = some (some v)∧Q v H
def tC (v:V):TE:=fun _ H Q=>Q v H
theorem tR {i:Nat} {x:Str} {pos:Pos} (hN:X.N[i]? = some x) (hv:Vis X.env.scope x) (hd:(x == ("__debug__" : Str))=false:=by decide) (hcd:(x == ("__classdict__" : Str))=false:=by decide):PE X (.Name x pos) (jb i):=by
 intro pins s σ H Q I h
 obtain ⟨v,e,h⟩:=h
 obtain ⟨m,hn,hl⟩:=I.loc
 obtain ⟨u,r,l⟩:=hl i x v hN e hv
 have fin:EP X pins σ Q u s:=⟨v,H,I,r,h⟩
 rcases l with ⟨hk,hm⟩ | ⟨hk,c,hc,hcell⟩
 ·exact wpAny_Name (wpAny_loadName_local I.ok.kind hk hn hm fin) hd
 ·rcases hk with hk | hk
  ·exact wpAny_Name (wpAny_loadName_cell I.ok.kind hk hc hcell fin) hd
  ·exact wpAny_Name (wpAny_loadName_free I.ok.kind hk hc hcell fin hcd) hd
theorem ah {i j pos}:PE X (.Constant (.int i) j pos) (tC (.int i)):=fun _ _ _ H _ I h=>wpAny_Constant_int ⟨.int i,H,I.tok _,⟨_,rfl⟩,h⟩
theorem lV {b j pos}:PE X (.Constant (.bool b) j pos) (tC (.bl b)):=fun _ _ _ H _ I h=>Constant_bool ⟨.bl b,H,I,rfl,h⟩
theorem el {j pos}:PE X (.Constant .none j pos) (tC .non):=fun _ _ _ H _ I h=>Constant_none ⟨.non,H,I,rfl,h⟩
theorem il {x j pos}:PE X (.Constant (.str x) j pos) (tC (.str x)):=fun _ _ _ H _ I h=>Calls.Constant_str ⟨.str x,H,I.tok _,⟨_,rfl⟩,h⟩
def Gl (X:Cx) (x:Str):Prop:=X.env.kindOf x=some .globalImplicit
theorem eI {E:Value→Shared→Prop} {pins:List (Addr×Obj)} {s:Shared} {σ:St} {H:Hp} {x:Str} {u:Value} {pos:Pos} {Q:Value→Shared→Prop} (I:Inv X pins σ H s) (hg:Gl X x) (hm:X.mg x=some u) (h:Q u s)
  (hd:(x == ("__debug__" : Str))=false:=by decide):wpAny (model X.prog X.w) X.A (eval (.Name x pos) X.env) Q E s:=
 Calls.Name_function_global I.ok.kind hg (Calls.loadGlobal_global (by rw [I.ok.glob];exact I.mod.glob.keeps I.bk) hm h) hd
theorem kl {E:Value→Shared→Prop} {pins:List (Addr×Obj)} {s:Shared} {σ:St} {H:Hp} {x:Str} {u:Value} {pos:Pos} {Q:Value→Shared→Prop} (I:Inv X pins σ H s) (hg:Gl X x) (hm:X.mg x=none) (hv:bootBuiltins x=some u) (h:Q u s)
  (hn:x ≠ "__name__" := by decide) (hd:(x == ("__debug__" : Str))=false:=by decide):wpAny (model X.prog X.w) X.A (eval (.Name x pos) X.env) Q E s:=by
 obtain ⟨mb,h1,h2⟩:=I.mod.blt
 exact Calls.Name_function_global I.ok.kind hg (Calls.loadGlobal_builtin (by rw [I.ok.glob];exact I.mod.glob.keeps I.bk) hm (by rw [I.ok.blt];exact h1.keeps I.bk) ((h2 x hn).trans hv) h) hd
theorem lW {x:Str} {v:V} {u:Value} {pos:Pos} (hg:Gl X x) (hm:X.mg x=some u) (r:RelV v u) (hd:(x == ("__debug__" : Str))=false:=by decide):PE X (.Name x pos) (tC v):=
 fun _ _ _ H _ I h=>eI I hg hm ⟨v,H,I,r,h⟩ hd
theorem ux {x:Str} {v:V} {u:Value} {pos:Pos} (hg:Gl X x) (hm:X.mg x=none) (hv:bootBuiltins x=some u) (r:RelV v u) (hn:x ≠ "__name__" := by decide) (hd:(x == ("__debug__" : Str))=false:=by decide):PE X (.Name x pos) (tC v):=
 fun _ _ _ H _ I h=>kl I hg hm hv ⟨v,H,I,r,h⟩ hn hd
def t2I (ta tb:TE) (k:Int→Int→Hp→Prop):St→Hp→Prop:=fun σ H=>ta σ H fun x H1=>tb σ H1 fun y H2=>∃ i j,x = .int i∧y = .int j∧k i j H2
def BX (ta tb:TE):TE:=fun σ H Q=>t2I ta tb (fun i j H2=>Q (.int (i+j)) H2) σ H
def BY (ta tb:TE):TE:=fun σ H Q=>t2I ta tb (fun i j H2=>Q (.int (i - j)) H2) σ H
def BZ (ta tb:TE):TE:=fun σ H Q=>t2I ta tb (fun i j H2=>(-(2 ^ 64) < i∧i < 2 ^ 64)∧Q (.int (i * j)) H2) σ H
variable {a b:Expr} {ta tb:TE} {pos:Pos}
def PC (X:Cx) (op:CmpOp) (a b:Expr) (t:TE):Prop:=
 ∀ (pins:List (Addr×Obj)) (s:Shared) (σ:St) (H:Hp) (Q:VK),Inv X pins σ H s→t σ H Q →
  wpAny (model X.prog X.w) X.A (eval a X.env) (fun v s₁=>wpAny (model X.prog X.w) X.A (eval b X.env) (fun u s₂=>wpAny (model X.prog X.w) X.A (compareOp op v u) (EP X pins σ Q) X.xe s₂) X.xe s₁) X.xe s
def wt (p:Int→Int→Bool) (ta tb:TE):TE:=fun σ H Q=>t2I ta tb (fun i j H2=>Q (.bl (p i j)) H2) σ H
abbrev tLt:TE→TE→TE:=wt fun i j=>decide (i < j)
abbrev tLe:TE→TE→TE:=wt fun i j=>decide (i≤j)
abbrev tGt:TE→TE→TE:=wt fun i j=>decide (j < i)
abbrev tGe:TE→TE→TE:=wt fun i j=>decide (j≤i)
abbrev B0:TE→TE→TE:=wt fun i j=>decide (i=j)
abbrev B1:TE→TE→TE:=wt fun i j => !decide (i=j)
def B2 (ta:TE):TE:=fun σ H Q=>ta σ H fun x H1=>Q (.bl (decide (x = .non))) H1
def Bc (ta:TE):TE:=fun σ H Q=>ta σ H fun x H1=>Q (.bl (!decide (x = .non))) H1
def tB (t:TE):TT:=fun σ H Q=>t σ H fun x H1=>∃ c,x = .bl c∧Q c H1
theorem cC {e:Expr} {t:TE} (h:PE X e t) (he:∀ whole,isTrue e X.env whole=(do let v ← whole;standAt e.pos;holding [v] (truthy v)):=by intro _;rfl):PT X e (tB t):=by
 intro pins s σ H Q I hw
 refine isTrue_plain (thn (h pins s σ H _ I hw) fun v s1 ⟨x,H1,I1,r1,q1⟩ => ?_) (he _)
 obtain ⟨d,rfl,q⟩:=q1
 cases r1
 exact wpAny_truthy_bool ⟨H1,I1,q⟩
variable {tA tB':TT} {rest:List Expr}
def yS (t u:TT):TT:=fun σ H Q=>t σ H fun c H1=>if c=true then u σ H1 Q else Q false H1
def tOr (t u:TT):TT:=fun σ H Q=>t σ H fun c H1=>if c=true then Q true H1 else u σ H1 Q
def Aq (t:TT):TT:=fun σ H Q=>t σ H fun c H1=>Q (!c) H1
theorem io (ha:PT X a tA):PW X (.BoolOp .And [a] pos) tA:=by
 intro wh pins s σ H Q I h
 refine isTrue_and (thn (ha pins s σ H Q I h) fun c s1 e => ?_)
 cases c with
 | true=>exact isTrue_and_nil e
 | false=>exact e
theorem ip (ha:PT X a tA):PW X (.BoolOp .Or [a] pos) tA:=by
 intro wh pins s σ H Q I h
 refine isTrue_or (thn (ha pins s σ H Q I h) fun c s1 e => ?_)
 cases c with
 | false=>exact isTrue_or_nil e
 | true=>exact e
theorem jp (ha:PT X a tA) (hb:PW X (.BoolOp .And (b :: rest) pos) tB'):PW X (.BoolOp .And (a :: b :: rest) pos) (yS tA tB'):=by
 intro wh pins s σ H Q I h
 refine isTrue_and (thn (ha pins s σ H _ I h) fun c s1 ⟨H1,I1,q1⟩ => ?_)
 cases c with
 | true=>exact hb wh pins s1 σ H1 Q I1 q1
 | false=>exact ⟨H1,I1,q1⟩
theorem km (ha:PT X a tA) (hb:PW X (.BoolOp .Or (b :: rest) pos) tB'):PW X (.BoolOp .Or (a :: b :: rest) pos) (tOr tA tB'):=by
 intro wh pins s σ H Q I h
 refine isTrue_or (thn (ha pins s σ H _ I h) fun c s1 ⟨H1,I1,q1⟩ => ?_)
 cases c with
 | true=>exact ⟨H1,I1,q1⟩
 | false=>exact hb wh pins s1 σ H1 Q I1 q1
theorem tS (ha:PT X a tA):PT X (.UnaryOp .Not a pos) (Aq tA):=by
 intro pins s σ H Q I h
 exact isTrue_not (ha pins s σ H (fun c H1=>Q (!c) H1) I h)
def wD (ta tb:TE):TE:=fun σ H Q=>ta σ H fun x H1=>∃ c,x = .bl c∧if c=true then tb σ H1 Q else Q (.bl false) H1
def B3 (ta tb:TE):TE:=fun σ H Q=>ta σ H fun x H1=>∃ c,x = .bl c∧if c=true then Q (.bl true) H1 else tb σ H1 Q
def Bd (ta:TE):TE:=fun σ H Q=>ta σ H fun x H1=>∃ c,x = .bl c∧Q (.bl (!c)) H1
theorem oW {op} {t:TE} (h:PE X a t):PE X (.BoolOp op [a] pos) t:=fun pins s σ H Q I hw=>BoolOp_one (h pins s σ H Q I hw)
theorem oX (ha:PE X a ta) (hb:PE X (.BoolOp .And (b :: rest) pos) tb):PE X (.BoolOp .And (a :: b :: rest) pos) (wD ta tb):=by
 intro pins s σ H Q I h
 refine BoolOp_and (thn (ha pins s σ H _ I h) fun v s1 ⟨x,H1,I1,r1,q1⟩ => ?_)
 obtain ⟨c,rfl,q1⟩:=q1
 cases r1
 refine wpAny_truthy_bool ?_
 cases c with
 | true=>exact hb pins s1 σ H1 Q I1 q1
 | false=>exact ⟨.bl false,H1,I1,rfl,q1⟩
def tIf (t:TT) (ta tb:TE):TE:=fun σ H Q=>t σ H fun c H1=>if c=true then ta σ H1 Q else tb σ H1 Q
theorem mX {c:Expr} (hc:PT X c tA) (ha:PE X a ta) (hb:PE X b tb):PE X (.IfExp c a b pos) (tIf tA ta tb):=by
 intro pins s σ H Q I h
 refine wpAny_IfExp (thn (hc pins s σ H _ I h) fun d s1 ⟨H1,I1,q1⟩ => ?_)
 cases d with
 | true=>exact ha pins s1 σ H1 Q I1 q1
 | false=>exact hb pins s1 σ H1 Q I1 q1
end
end L2
namespace L2
open PySem PySem.Spec PyProof.Rows
def SqL (K:PySem.W.Frag) (H:Hp) (a:Addr) (xs:List V):Prop:=
 Rd H a (.lst xs) ∨
  ∃ (o:Obj) (its:Array Value) (n:Nat),K.lookup a=some o∧o.cls = .type "list" ∧ o.dict=none∧o.data = .seq its n∧its.size≤sizeLine∧Vals xs its.toList
def SqT (K:PySem.W.Frag) (H:Hp) (a:Addr) (xs:List V):Prop:=
 Rd H a (.tup xs) ∨
  ∃ (o:Obj) (its:Array Value) (n:Nat),K.lookup a=some o∧o.cls = .type "tuple" ∧ o.data = .seq its n∧its.size≤sizeLine∧Vals xs its.toList
def Be:Value→Option V
 | .none=>some .non
 | .bool b=>some (.bl b)
 | .int i _=>some (.int i)
 | .str x _=>some (.str x)
 | .bytes b _=>some (.byt b)
 | .float b _=>some (.flt b)
 | .ref a=>some (.ref a)
 | .type n=>some (.ty n)
 | _=>none
theorem RelV.abs {x:V} {u:Value} (r:RelV x u):Be u=some x:=by
 cases x with
 | non=>cases r;rfl
 | bl _=>cases r;rfl
 | int _=>obtain ⟨t,rfl⟩:=r;rfl
 | str _=>obtain ⟨t,rfl⟩:=r;rfl
 | byt _=>obtain ⟨t,rfl⟩:=r;rfl
 | flt _=>obtain ⟨t,rfl⟩:=r;rfl
 | ref _=>cases r;rfl
 | ty _=>cases r;rfl
theorem RelV.inj {x y:V} {u:Value} (r:RelV x u) (q:RelV y u):x=y:=Option.some.inj (r.abs.symm.trans q.abs)
theorem Vals.inj:∀ {xs ys:List V} {us:List Value},Vals xs us→Vals ys us→xs=ys
 | _,_,_,.nil,.nil=>rfl
 | _,_,_,.cons r t,.cons r' t'=>by rw [r.inj r',Vals.inj t t']
section
variable {X:Cx} {pins:List (Addr×Obj)} {σ:St} {H:Hp} {s:Shared} {a:Addr} {xs ys:List V}
theorem SqL.of {K:PySem.W.Frag} (h:H a=some (.lst xs)):SqL K H a xs := .inl (.inl h)
theorem SqT.of {K:PySem.W.Frag} (h:H a=some (.tup xs)):SqT K H a xs := .inl (.inl h)
theorem Inv.list (I:Inv X pins σ H s) (h:SqL X.K H a xs):∃ its:List Value,Vals xs its∧PlainL s.heap a its.toArray∧xs.length≤sizeLine:=by
 rcases h with h | ⟨o,its,n,hk,hc,hd,hs,hz,r⟩
 ·obtain ⟨z,its,n,r,e⟩:=h.ok I.hok
  exact ⟨its,r,⟨_,n,e,rfl,rfl,rfl⟩,z⟩
 ·refine ⟨its.toList,r,⟨o,n,I.kIn a o hk,hc,hd,by simpa using hs⟩,?_⟩
  have e:=r.length
  simp only [Array.length_toList] at e
  omega
theorem Inv.tuple (I:Inv X pins σ H s) (h:SqT X.K H a xs):∃ its:List Value,Vals xs its∧IsTup s.heap a its.toArray∧xs.length≤sizeLine:=by
 rcases h with h | ⟨o,its,n,hk,hc,hs,hz,r⟩
 ·obtain ⟨z,its,r,p⟩:=h.ok I.hok
  exact ⟨its,r,p,z⟩
 ·refine ⟨its.toList,r,⟨o,I.kIn a o hk,hc,n,by simpa using hs⟩,?_⟩
  have e:=r.length
  simp only [Array.length_toList] at e
  omega
theorem Inv.list_inj (I:Inv X pins σ H s) (h:SqL X.K H a xs) (h':SqL X.K H a ys):xs=ys:=by
 obtain ⟨its,r,⟨o,n,e,_,_,d⟩,_⟩:=I.list h
 obtain ⟨its',r',⟨o',n',e',_,_,d'⟩,_⟩:=I.list h'
 rw [e] at e';cases e'
 rw [d] at d'
 injection d' with d1 _
 have:its=its':=by simpa using congrArg Array.toList d1
 subst this
 exact r.inj r'
end
abbrev Cx.wish (X:Cx) (E:Value→Shared→Prop):Cx:={X with xe:=E}
abbrev Cx.nox (X:Cx):Cx:=X.wish fun _ _=>False
theorem Cx.Ok.wish {X:Cx} (ok:X.Ok) (E:Value→Shared→Prop):(X.wish E).Ok:=
 ⟨ok.mod,ok.kind,ok.glob,ok.blt,ok.above,ok.inj,ok.has,ok.cab,ok.hd,ok.frames,ok.stk,ok.exf,ok.bs,ok.bsz,ok.noex,ok.exfs,ok.funs,ok.frf⟩
theorem Cx.Ok.unwish {X:Cx} {E:Value→Shared→Prop} (ok:(X.wish E).Ok):X.Ok:=
 ⟨ok.mod,ok.kind,ok.glob,ok.blt,ok.above,ok.inj,ok.has,ok.cab,ok.hd,ok.frames,ok.stk,ok.exf,ok.bs,ok.bsz,ok.noex,ok.exfs,ok.funs,ok.frf⟩
section
variable {X:Cx} {pins:List (Addr×Obj)} {σ:St} {H:Hp} {s:Shared} {E:Value→Shared→Prop}
theorem Inv.wish (I:Inv X pins σ H s) (E:Value→Shared→Prop):Inv (X.wish E) pins σ H s:=⟨I.ok.wish E,I.os,I.bare,I.base,I.loc,I.cell,I.free,I.freeC,I.pin,I.hok,I.len⟩
theorem Inv.unwish (I:Inv (X.wish E) pins σ H s):Inv X pins σ H s:=⟨I.ok.unwish,I.os,I.bare,I.base,I.loc,I.cell,I.free,I.freeC,I.pin,I.hok,I.len⟩
theorem SP.unwish {D:Ends} {f:Flow} {s':Shared} (h:SP (X.wish E) pins D f s'):SP X pins D f s':=by
 cases f with
 | next=>obtain ⟨σ',H',I,q⟩:=h;exact ⟨σ',H',I.unwish,q⟩
 | brk=>obtain ⟨σ',H',I,q⟩:=h;exact ⟨σ',H',I.unwish,q⟩
 | cont=>obtain ⟨σ',H',I,q⟩:=h;exact ⟨σ',H',I.unwish,q⟩
 | ret u=>obtain ⟨v,σ',H',I,r,q⟩:=h;exact ⟨v,σ',H',I.unwish,r,q⟩
theorem PSs.nox {st:List Stmt} {t:TS} (h:PSs X.nox st t):PSs X st t:=fun pins s σ H D I hw=>
 wpAny_mono (h pins s σ H D (I.wish _) hw) (fun _ _ q=>q.unwish) fun _ _ z=>False.elim z
end
section
variable {X:Cx} {st:Stmt} {rest:List Stmt} {t u:TS} {e:Expr} {te:TE} {pos:Pos}
def wE:TS:=fun D σ H=>D.nx σ H
def Ar (t u:TS):TS:=fun D σ H=>t {D with nx:=u D} σ H
theorem aD:PSs X [] wE:=fun _ _ σ H _ I h=>wpAny_execs_nil ⟨σ,H,I,h⟩
theorem ae (h1:PS X st t) (h2:PSs X rest u):PSs X (st :: rest) (Ar t u):=by
 intro pins s σ H D I h
 refine wpAny_execs_cons (thn (h1 pins s σ H {D with nx:=u D} I h) fun f s1 q => ?_)
 cases f with
 | next=>
  obtain ⟨σ',H',I',q⟩:=q
  exact h2 pins s1 σ' H' D I' q
 | ret v=>exact q
 | brk=>exact q
 | cont=>exact q
theorem ad (h1:PS X st t):PSs X [st] t:=by
 intro pins s σ H D I h
 refine wpAny_execs_cons (thn (h1 pins s σ H D I h) fun f s1 q => ?_)
 cases f with
 | next=>exact wpAny_execs_nil q
 | ret v=>exact q
 | brk=>exact q
 | cont=>exact q
def As:TS:=fun D σ H=>D.bk σ H
def Bf:TS:=fun D σ H=>D.ct σ H
theorem Inv.quiet {pins:List (Addr×Obj)} {σ:St} {H:Hp} {s:Shared} (I:Inv X pins σ H s):interactive X.env=false:=by simp [interactive,I.ok.kind]
def uy (te:TE):TS:=fun D σ H=>te σ H fun _ H1=>D.nx σ H1
theorem ay (he:PE X e te) (hs:swapsWith e none pos.line X.env=pure false:=by rfl):PS X (.Expr e pos) (uy te):=by
 intro pins s σ H D I h
 exact wpAny_Expr_any (thn (he pins s σ H _ I h) fun v s1 ⟨x,H1,I1,r1,q1⟩=>⟨σ,H1,I1,q1⟩) I.quiet hs
def Au (te:TE):TS:=fun D σ H=>te σ H D.rt
theorem aF (he:PE X e te):PS X (.Return (some e) pos) (Au te):=by
 intro pins s σ H D I h
 exact wpAny_Return_some (thn (he pins s σ H _ I h) fun v s1 ⟨x,H1,I1,r1,q1⟩=>⟨x,σ,H1,I1,r1,q1⟩)
def wF:TS:=fun D _ H=>D.rt .non H
theorem uz:PS X (.Return none pos) wF:=fun _ _ σ H _ I h=>wpAny_Return_none ⟨.non,σ,H,I,rfl,h⟩
def Av (c:TT) (t u:TS):TS:=fun D σ H=>c σ H fun b H1=>if b=true then t D σ H1 else u D σ H1
theorem aZ {c:Expr} {a b:List Stmt} {tc:TT} (hc:PT X c tc) (ha:PSs X a t) (hb:PSs X b u):PS X (.If c a b pos) (Av tc t u):=by
 intro pins s σ H D I h
 refine wpAny_If (thn (hc pins s σ H _ I h) fun d s1 ⟨H1,I1,q1⟩ => ?_)
 cases d with
 | true=>exact ha pins s1 σ H1 D I1 q1
 | false=>exact hb pins s1 σ H1 D I1 q1
def wG:TS:=fun _ _ _=>False
theorem rP:PS X st wG:=fun _ _ _ _ _ _ h=>h.elim
end
abbrev TG:=V→St→Hp→(St→Hp→Prop)→Prop
abbrev TGs:=List V→St→Hp→(St→Hp→Prop)→Prop
def PG (X:Cx) (target:Expr) (t:TG):Prop:=
 ∀ (pins:List (Addr×Obj)) (s:Shared) (σ:St) (H:Hp) (v:V) (u:Value) (Q:St→Hp→Prop),Inv X pins σ H s→RelV v u→t v σ H Q →
  wpAny (model X.prog X.w) X.A (assign target X.env u) (fun _ s'=>∃ σ' H',Inv X pins σ' H' s'∧Q σ' H') X.xe s
def PGs (X:Cx) (ts:List Expr) (t:TGs):Prop:=
 ∀ (pins:List (Addr×Obj)) (s:Shared) (σ:St) (H:Hp) (vs:List V) (us:List Value) (Q:St→Hp→Prop),Inv X pins σ H s→Vals vs us→t vs σ H Q →
  wpAny (model X.prog X.w) X.A (assignInOrder ((assignEach ts X.env).map (·.2)) us) (fun _ s'=>∃ σ' H',Inv X pins σ' H' s'∧Q σ' H') X.xe s
abbrev wH:=V→V→V→Hp→(Hp→Prop)→Prop
def Aw (X:Cx) (t:wH):Prop:=
 ∀ (pins:List (Addr×Obj)) (s:Shared) (σ:St) (H:Hp) (o i v:V) (ov iv u:Value) (Q:Hp→Prop),Inv X pins σ H s→RelV o ov→RelV i iv→RelV v u→t o i v H Q →
  wpAny (model X.prog X.w) X.A (setItem ov iv u) (fun _ s'=>∃ H',Inv X pins σ H' s'∧Q H') X.xe s
abbrev TIp:=V→V→Hp→VK→Prop
def PIp (X:Cx) (op:Operator) (t:TIp):Prop:=
 ∀ (pins:List (Addr×Obj)) (s:Shared) (σ:St) (H:Hp) (x y:V) (v u:Value) (Q:VK),Inv X pins σ H s→RelV x v→RelV y u→t x y H Q →
  wpAny (model X.prog X.w) X.A (inplaceOp op v u) (EP X pins σ Q) X.xe s
section
variable {X:Cx} {pos:Pos}
def cy (i:Nat):TG:=fun v σ H Q=>Q (σ.set i (some v)) H
theorem bj {i:Nat} {x:Str} (hN:X.N.Nodup) (hi:X.N[i]? = some x) (hx:Loc X.env.scope x) (hf:X.fn x=true∨X.env.scope.names.lookup x=some .local:=by first | exact .inl rfl | exact .inr rfl | assumption):PG X (.Name x pos) (cy i):=by
 intro pins s σ H v u Q I r h
 exact wpAny_assign_Name (fo I hN hi hx r (fun s' I'=>⟨_,H,I',h⟩) hf)
def Ax:TGs:=fun vs σ H Q=>vs=[]∧Q σ H
def wI (t:TG) (u:TGs):TGs:=fun vs σ H Q=>∃ v r,vs=v :: r∧t v σ H fun σ' H'=>u r σ' H' Q
theorem uA:PGs X [] Ax:=by
 intro pins s σ H vs us Q I r h
 obtain ⟨e,h⟩:=h
 subst e
 cases r
 exact assignInOrder_nil ⟨σ,H,I,h⟩
theorem mY {e:Expr} {es:List Expr} {t:TG} {u:TGs} (h1:PG X e t) (h2:PGs X es u)
  (hs:(assignEach (e :: es) X.env).map (·.2)=assign e X.env :: (assignEach es X.env).map (·.2):=by rfl):PGs X (e :: es) (wI t u):=by
 intro pins s σ H vs us Q I r h
 obtain ⟨v,vr,e1,h⟩:=h
 subst e1
 cases r with
 | cons r rr=>
  rw [hs]
  refine assignInOrder_cons (thn (h1 pins s σ H _ _ _ I r h) fun _ s1 ⟨σ1,H1,I1,q1⟩ => ?_)
  exact h2 pins s1 σ1 H1 _ _ Q I1 rr q1
def wJ (K:PySem.W.Frag) (n:Nat) (t:TGs):TG:=fun v σ H Q=>∃ a xs,v = .ref a∧SqT K H a xs∧xs.length=n∧t xs σ H Q
theorem wK {es:List Expr} {k:Nat} {t:TGs} {n:Nat} (hc:X.calm=true) (h:PGs X es t)
  (hn:(assignEach es X.env).length=n:=by rfl) (hst:(assignEach es X.env).findIdx? (·.1)=none:=by rfl):PG X (.Tuple es k pos) (wJ X.K n t):=by
 intro pins s σ H v u Q I r hw
 obtain ⟨a,xs,e1,hq,hl,hw⟩:=hw
 subst e1
 cases r
 obtain ⟨its,rv,ht,hz⟩:=I.tuple hq
 refine assign_Tuple_tuple (I.ok.hd hc) ht (by simp [hn,← hl,rv.length]) hst fun h' hx => ?_
 have I1:Inv X pins σ H {s with heap:=h'}:=I.kept (t':=s.toks) fun b o e=>hx b o (Nat.ne_of_lt (Heap.lt_size e)) e
 exact h pins _ σ H xs _ Q I1 (by simpa using rv) hw
def Ay (to ti:TE) (t:wH):TG:=fun v σ H Q=>to σ H fun o H1=>ti σ H1 fun i H2=>t o i v H2 fun H3=>Q σ H3
theorem wL {o i:Expr} {to ti:TE} {t:wH} (ho:PE X o to) (hi:PE X i ti) (hs:Aw X t)
  (ha:∀ v,assign (.Subscript o i pos) X.env v=(do
   let ov ← holding [v] (eval o X.env)
   let iv ← holding [v,ov] (eval i X.env)
   standAt pos
   holding [v,ov,iv] (setItem ov iv v)
   release [v,ov,iv] []):=by intro _;rfl):PG X (.Subscript o i pos) (Ay to ti t):=by
 intro pins s σ H v u Q I r h
 rw [ha]
 refine wpAny_bind (wpAny_holding (thn (ho pins s σ H _ I h) fun ov s1 ⟨x,H1,I1,r1,q1⟩ => ?_))
 refine wpAny_bind (wpAny_holding (thn (hi pins s1 σ H1 _ I1 q1) fun iv s2 ⟨y,H2,I2,r2,q2⟩ => ?_))
 refine wpAny_bind (wpAny_standAt (wpAny_bind (wpAny_holding (thn (hs pins s2 σ H2 x y v ov iv u _ I2 r1 r2 r q2) fun _ s3 ⟨H3,I3,q3⟩ => ?_))))
 exact wpAny_release ⟨σ,H3,I3,q3⟩
def wu (te:TE) (g:TG):TS:=fun D σ H=>te σ H fun x H1=>g x σ H1 D.nx
theorem tT {tg e:Expr} {te:TE} {g:TG} (he:PE X e te) (hg:PG X tg g) (hs:swapsWithSole [tg] e pos.line X.env=pure false:=by rfl) (hw:swappedStores [tg] e X.env=pure none:=by rfl)
  (h1:(assignEach [tg] X.env).map (·.2)=[assign tg X.env]:=by rfl):PS X (.Assign [tg] e pos) (wu te g):=by
 intro pins s σ H D I h
 refine wpAny_Assign_stores (thn (he pins s σ H _ I h) fun v s1 ⟨x,H1,I1,r1,q1⟩ => ?_) hs hw
 rw [h1]
 exact thn (hg pins s1 σ H1 x v _ I1 r1 q1) fun _ s2 q=>q
theorem aN {i:Nat} {x:Str} {e:Expr} {te:TE} {pos':Pos} (hN:X.N.Nodup) (hi:X.N[i]? = some x) (hx:Loc X.env.scope x) (he:PE X e te) (hs:swapsWith e (some (.Name x pos')) pos.line X.env=pure false:=by rfl) (hf:X.fn x=true∨X.env.scope.names.lookup x=some .local:=by first | exact .inl rfl | exact .inr rfl | assumption) :
  PS X (.Assign [.Name x pos'] e pos) (wu te (cy i)):=by
 intro pins s σ H D I h
 refine wpAny_Assign_Name (thn (he pins s σ H _ I h) fun v s1 ⟨y,H1,I1,r1,q1⟩ => ?_) hs
 exact fo I1 hN hi hx r1 (fun s2 I2=>⟨_,H1,I2,q1⟩) hf
def B4 (i j:Nat) (ta:TA):TS:=fun D σ H=>ta σ H fun vs H1=>∃ v w,vs=[v,w]∧D.nx ((σ.set i (some v)).set j (some w)) H1
def Az (i:Nat) (te:TE) (ti:TIp):TS:=fun D σ H=>∃ x,σ[i]? = some (some x)∧te σ H fun y H1=>ti x y H1 fun z H2=>D.nx (σ.set i (some z)) H2
theorem wM {i:Nat} {x:Str} {e:Expr} {te:TE} {op:Operator} {ti:TIp} {pos':Pos} (hN:X.N.Nodup) (hi:X.N[i]? = some x) (hx:Loc X.env.scope x) (he:PE X e te) (ho:PIp X op ti) (hf:X.fn x=true∨X.env.scope.names.lookup x=some .local:=by first | exact .inl rfl | exact .inr rfl | assumption) :
  PS X (.AugAssign (.Name x pos') op e pos) (Az i te ti):=by
 intro pins s σ H D I h
 obtain ⟨v,e1,h⟩:=h
 obtain ⟨m,hn,hl⟩:=I.loc
 have vis:Vis X.env.scope x:=by rcases hx with k | k;exact .inl k;exact .inr (.inl k)
 obtain ⟨u,r,l⟩:=hl i x v hi e1 vis
 refine wpAny_AugAssign_Name ?_
 have go:wpAny (model X.prog X.w) X.A (eval e X.env) (fun w s₂=>wpAny (model X.prog X.w) X.A (inplaceOp op u w) (fun r s₃=>wpAny (model X.prog X.w) X.A (storeName X.env x r) (fun _=>SP X pins D .next) X.xe s₃) X.xe s₂) X.xe s:=by
  refine thn (he pins s σ H _ I h) fun w s1 ⟨y,H1,I1,r1,q1⟩ => ?_
  refine thn (ho pins s1 σ H1 v y u w _ I1 r r1 q1) fun z s2 ⟨zv,H2,I2,r2,q2⟩ => ?_
  exact fo I2 hN hi hx r2 (fun s3 I3=>⟨_,H2,I3,q2⟩) hf
 rcases l with ⟨hk,hm⟩ | ⟨hk,c,hc,hcell⟩
 ·exact wpAny_loadName_local I.ok.kind hk hn hm go
 ·rcases hk with hk | hk
  ·exact wpAny_loadName_cell I.ok.kind hk hc hcell go
  ·rcases hx with k | k
   ·have:X.env.scope.names.lookup x=some .free:=hk
    rw [k] at this;cases this
   ·have:X.env.scope.names.lookup x=some .free:=hk
    rw [k] at this;cases this
def Bg (to ti te:TE) (tget:V→V→Hp→VK→Prop) (tip:TIp) (tset:wH):TS:=fun D σ H=>to σ H fun o H1=>ti σ H1 fun i H2=>tget o i H2 fun x H3=>te σ H3 fun y H4=>tip x y H4 fun z H5=>tset o i z H5 fun H6=>D.nx σ H6
def Ca (X:Cx) (t:V→V→Hp→VK→Prop):Prop:=
 ∀ (pins:List (Addr×Obj)) (s:Shared) (σ:St) (H:Hp) (o i:V) (ov iv:Value) (Q:VK),Inv X pins σ H s→RelV o ov→RelV i iv→t o i H Q →
  wpAny (model X.prog X.w) X.A (getItem ov iv) (EP X pins σ Q) X.xe s
def ipI (f:Int→Int→Int):TIp:=fun x y H Q=>∃ i j,x = .int i∧y = .int j∧Q (.int (f i j)) H
theorem wN:PIp X .Add (ipI fun i j=>i+j):=by
 intro pins s σ H x y v u Q I r1 r2 h
 obtain ⟨i,j,e1,e2,q⟩:=h
 subst e1;subst e2
 obtain ⟨t,rfl⟩:=r1
 obtain ⟨t',rfl⟩:=r2
 exact iadd_int ⟨.int _,H,I.tok _,⟨_,rfl⟩,q⟩
end
section
variable {X:Cx} {pos:Pos}
def tU (c:TT) (tb:TS):TS:=fun D σ H=>∃ W:Nat→St→Hp→Prop,(∃ m,W m σ H)∧∀ m σ H,W m σ H →
 c σ H fun b H1=>if b=true then ∃ N:St→Hp→Prop,(∀ σ' H',N σ' H'→∃ m',m' < m∧W m' σ' H')∧tb {D with nx:=N,ct:=N,bk:=D.nx} σ H1 else D.nx σ H1
theorem rQ {c:Expr} {body:List Stmt} {tc:TT} {tb:TS} (hp:PassesOwn (model X.prog X.w) X.A X.env X.xe) (hc:PT X c tc) (hb:PSs X body tb):PS X (.While c body [] pos) (tU tc tb):=by
 intro pins s σ H D I h
 obtain ⟨W,⟨m0,w0⟩,uj⟩:=h
 refine wpAny_While (codeAny_whileLoop (fun n s'=>∃ σ' H',Inv X pins σ' H' s'∧W n σ' H') ?_ m0 ⟨σ,H,I,w0⟩)
 rintro n s1 ⟨σ1,H1,I1,w1⟩
 refine wpAny_passesOwn hp (thn (hc pins s1 σ1 H1 _ I1 (uj n σ1 H1 w1)) fun b s2 ⟨H2,I2,q2⟩ => ?_)
 cases b with
 | true=>
  obtain ⟨N,hN,q2⟩:=q2
  rw [if_pos rfl]
  refine wpAny_passesOwn hp (thn (hb pins s2 σ1 H2 _ I2 q2) fun f s3 q3 => ?_)
  cases f with
  | next=>
   obtain ⟨σ3,H3,I3,n3⟩:=q3
   obtain ⟨m',hm,w3⟩:=hN σ3 H3 n3
   exact ⟨m',hm,σ3,H3,I3,w3⟩
  | cont=>
   obtain ⟨σ3,H3,I3,n3⟩:=q3
   obtain ⟨m',hm,w3⟩:=hN σ3 H3 n3
   exact ⟨m',hm,σ3,H3,I3,w3⟩
  | brk=>exact q3
  | ret v=>exact q3
 | false=>
  rw [if_neg Bool.false_ne_true]
  exact wpAny_execs_nil ⟨σ1,H2,I2,q2⟩
end
structure It where
 go:Nat→Hp→Prop
 yld:Nat→Hp→V→Hp→Prop
 stop:Nat→Hp→Prop
def oS (X:Cx) (pins:List (Addr×Obj)) (H:Hp) (b:Addr):Prop:=
 H b=none∧b≠X.env.locals∧b∉X.fs∧(b∈X.ex∨X.s₀.heap.objs.size≤b)∧(∀ x c,X.env.cells.lookup x=some c→c≠b)∧∀ p∈X.pn++pins,p.1≠b
theorem Inv.fpOk {X:Cx} {pins:List (Addr×Obj)} {σ:St} {H H':Hp} {s:Shared} {b:Addr} (I:Inv X pins σ H s) (hb:s.heap.objs.size≤b) (hn:H' b=none):oS X pins H' b:=by
 refine ⟨hn,Nat.ne_of_gt (Nat.lt_of_lt_of_le I.lt hb),I.nofs hb,.inr (Nat.le_trans I.sz hb),fun x c e z => ?_,fun p hp z => ?_⟩
 ·obtain ⟨v,q⟩:=I.cell x c e
  exact absurd (Nat.lt_of_lt_of_le q.lt (by rw [z];exact hb)) (Nat.lt_irrefl _)
 ·exact absurd (Nat.lt_of_lt_of_le (Heap.lt_size (I.pin p hp).1) (by rw [z];exact hb)) (Nat.lt_irrefl _)
structure Turn (P:Program) (w:World) (K:PySem.W.Frag) (tg:Expr) (J:It) (fp:List Addr) (it:Addr) (tn:Nat→Heap→Prop):Prop where
 mem:it∈fp
 obj:∀ i h,tn i h→∀ b∈fp,∃ o,h.get? b=some o∧∀ v,o.data ≠ .cell v
 keep:∀ i h h',tn i h→(∀ b∈fp,∀ o,h.get? b=some o→h'.get? b=some o)→tn i h'
 item:∀ (X:Cx),X.prog=P→X.w=w→X.K=K→X.calm=true→∀ (i:Nat) (pins:List (Addr×Obj)) (s:Shared) (σ:St) (H:Hp) (E:Value→Shared→Prop),Inv X pins σ H s→(∀ b∈fp,oS X pins H b)→tn i s.heap→J.go i H →
  wpAny (model P w) X.A (pyNext (.ref it)) (fun r s1=>∃ u,r=some u ∧
   wpAny (model P w) X.A (letOwnedTupleGo tg (.ref it) u) (fun _ s2=>∃ x H',Inv X pins σ H' s2∧RelV x u∧J.yld i H x H'∧tn (i+1) s2.heap∧∀ b∈fp,H' b=none) E s1) E s
 done:∀ (X:Cx),X.prog=P→X.w=w→X.K=K→X.calm=true→∀ (i:Nat) (pins:List (Addr×Obj)) (s:Shared) (σ:St) (H:Hp) (E:Value→Shared→Prop),Inv X pins σ H s→(∀ b∈fp,oS X pins H b)→tn i s.heap→J.stop i H →
  wpAny (model P w) X.A (pyNext (.ref it)) (fun r s1=>r=none∧Inv X pins σ H s1) E s
 self:∀ (A:Around) (i:Nat) (s:Shared) (Q:Value→Shared→Prop) (E:Value→Shared→Prop),tn i s.heap→Q (.ref it) s→wpAny (model P w) A (pyIter (.ref it)) Q E s
abbrev TI:=St→Hp→(It→Hp→Prop)→Prop
def PIE (X:Cx) (pins:List (Addr×Obj)) (σ:St) (tg:Expr) (R:It→Hp→Prop) (itv:Value) (s2:Shared):Prop:=
 ∃ (it:Addr) (fp:List Addr) (tn:Nat→Heap→Prop) (J:It) (H':Hp),itv = .ref it∧Inv X pins σ H' s2∧Turn X.prog X.w X.K tg J fp it tn∧tn 0 s2.heap∧(∀ b∈fp,oS X pins H' b)∧R J H'
def PI (X:Cx) (tg iter:Expr) (wi:TI):Prop:=
 ∀ (pins:List (Addr×Obj)) (s:Shared) (σ:St) (H:Hp) (R:It→Hp→Prop),Inv X pins σ H s→wi σ H R →
  wpAny (model X.prog X.w) X.A (eval iter X.env) (fun v s1=>wpAny (model X.prog X.w) X.A (pyIter v) (PIE X pins σ tg R) X.xe s1) X.xe s
theorem uB {M:Model} {A:Around} {E:Value→Shared→Prop} {s:Shared} {tg:Expr} {it:Addr} {u:Value} {o:Obj} {n:String} {vs:Array Value} {Q:Unit→Shared→Prop} (ho:s.heap.get? it=some o) (hc:o.cls = .type n) (hd:o.data = .fields vs)
  (hn:["enumerate", "zip", "dict_itemiterator", "dict_reverseitemiterator", "odict_iterator", "itertools.zip_longest", "itertools.pairwise"].contains n=false) (hQ:Q () s):wpAny M A (letOwnedTupleGo tg (.ref it) u) Q E s:=by
 unfold letOwnedTupleGo
 cases tg <;> first
  | exact wpAny_pure hQ
  | (cases u <;> first
    | exact wpAny_pure hQ
    | (
      refine wpAny_bind (wpAny_load ho ?_)
      rw [hc,hd]
      show wpAny M A (if (["enumerate", "zip", "dict_itemiterator", "dict_reverseitemiterator", "odict_iterator", "itertools.zip_longest", "itertools.pairwise"].contains n && vs[0]? == some (rawInt _))=true then _ else _) Q E s
      rw [if_neg (by intro h;rw [hn,Bool.false_and] at h;cases h)]
      exact wpAny_pure hQ))
def Itl (K:PySem.W.Frag) (a:Addr):It:=
 ⟨fun i H=>∃ xs x,SqL K H a xs∧xs[i]? = some x,fun i H x H'=>H'=H∧∀ xs,SqL K H a xs→xs[i]? = some x,fun i H=>∃ xs,SqL K H a xs∧xs.length≤i⟩
def Itt (K:PySem.W.Frag) (a:Addr):It:=
 ⟨fun i H=>∃ xs x,SqT K H a xs∧xs[i]? = some x,fun i H x H'=>H'=H∧∀ xs,SqT K H a xs→xs[i]? = some x,fun i H=>∃ xs,SqT K H a xs∧xs.length≤i⟩
def Itr (lo:Int) (n:Nat):It:=⟨fun i _=>i < n,fun i H x H'=>H'=H∧x = .int (lo+i),fun i _=>n≤i⟩
theorem oY {P:Program} {w:World} {K:PySem.W.Frag} {tg:Expr} (a it:Addr):Turn P w K tg (Itl K a) [it] it (fun i h=>h.IsListIter it a i) where
 mem:=by simp
 obj:=fun i h st b hb=>by
  have e:b=it:=by simpa using hb
  subst e
  obtain ⟨o,e,c,d⟩:=st
  exact ⟨o,e,fun v z=>by rw [d] at z;cases z⟩
 keep:=fun i h h' st k=>st.at fun o e=>k it (by simp) o e
 item:=by
  intro X hP hw hK hc i pins s σ H E I hf st hg
  subst hP hw hK
  obtain ⟨xs,x,hq,hx⟩:=hg
  obtain ⟨its,rv,p,hz⟩:=I.list hq
  obtain ⟨u,hu,ru⟩:=rv.get hx
  obtain ⟨f0,f1,f2,f3,f4,f5⟩:=hf it (by simp)
  refine wpAny_pyNext_list_item st p.isList (x:=u) (by simpa using hu) fun h' st' sb => ?_
  have I1:Inv X pins σ H {s with heap:=h'}:=I.turned (t':=s.toks) (fun b o hb e=>(sb.2 b hb).trans e) f0 f1 f3 f4 f5
  obtain ⟨o,e,c,d⟩:=id st'
  exact ⟨u,rfl,uB (s:={s with heap:=h'}) e c d (by decide) ⟨x,H,I1,ru,⟨rfl,fun ys hy=>by rw [I.list_inj hy hq];exact hx⟩,st',fun b hb=>(hf b hb).1⟩⟩
 done:=by
  intro X hP hw hK hc i pins s σ H E I hf st hg
  subst hP hw hK
  obtain ⟨xs,hq,hx⟩:=hg
  obtain ⟨its,rv,p,hz⟩:=I.list hq
  obtain ⟨f0,f1,f2,f3,f4,f5⟩:=hf it (by simp)
  have hl:=rv.length
  exact wpAny_pyNext_list_end (I.ok.hd hc) st p.isList (by simp;omega) fun h' eb=>⟨rfl,I.turned (t':=s.toks) (fun b o hb e=>eb b o hb e) f0 f1 f3 f4 f5⟩
 self:=fun _ _ _ _ _ st h=>wpAny_pyIter_listiter st h
theorem nT {P:Program} {w:World} {K:PySem.W.Frag} {tg:Expr} (it:Addr) (lo:Int) (n:Nat):Turn P w K tg (Itr lo n) [it] it (fun i h=>IsRangeIter h it (lo+(i:Nat) * 1) ((n:Int) - (i:Nat)) 1) where
 mem:=by simp
 obj:=fun i h st b hb=>by
  have e:b=it:=by simpa using hb
  subst e
  exact ⟨_,st,fun v z=>by
   have z':Data.fields _=Data.cell v:=z
   cases z'⟩
 keep:=fun i h h' st k=>k it (by simp) _ st
 item:=by
  intro X hP hw hK hc i pins s σ H E I hf st hg
  subst hP hw hK
  obtain ⟨f0,f1,f2,f3,f4,f5⟩:=hf it (by simp)
  have W:=Walks.range (prog:=X.prog) (w:=X.w) (I.ok.hd hc) it lo 1 n
  refine W.item i s _ _ hg st fun v h' tk hv st' kk => ?_
  obtain ⟨t,rfl⟩:=hv
  have I1:Inv X pins σ H {s with heap:=h',toks:=tk}:=I.turned (fun b o hb e=>kk b o (by simpa using hb) e) f0 f1 f3 f4 f5
  refine ⟨_,rfl,uB (s:={s with heap:=h',toks:=tk}) (n := "range_iterator") st' rfl rfl (by decide) ⟨.int (lo+i),H,I1,⟨t,?_⟩,⟨rfl,rfl⟩,st',fun b hb=>(hf b hb).1⟩⟩
  rw [Int.mul_one]
 done:=by
  intro X hP hw hK hc i pins s σ H E I hf st hg
  subst hP hw hK
  obtain ⟨f0,f1,f2,f3,f4,f5⟩:=hf it (by simp)
  exact wpAny_pyNext_range_end (I.ok.hd hc) st (by have:n≤i:=hg;omega) fun h' eb=>⟨rfl,I.turned (t':=s.toks) (fun b o hb e=>eb b o hb e) f0 f1 f3 f4 f5⟩
 self:=fun _ _ _ _ _ st h=>wpAny_pyIter_rangeiter st h
end L2
namespace L2
open PySem PySem.Spec PyProof.Rows
section
variable {X:Cx} {tg:Expr}
def rR (K:PySem.W.Frag) (tl:TE):TI:=fun σ H R=>tl σ H fun x H1=>∃ a,x = .ref a∧(∃ xs,SqL K H1 a xs)∧R (Itl K a) H1
def Cb (K:PySem.W.Frag) (tl:TE):TI:=fun σ H R=>tl σ H fun x H1=>∃ a,x = .ref a∧(∃ xs,SqT K H1 a xs)∧R (Itt K a) H1
theorem uC {l:Expr} {tl:TE} (hl:PE X l tl):PI X tg l (rR X.K tl):=by
 intro pins s σ H R I h
 refine thn (hl pins s σ H _ I h) fun v s1 ⟨x,H1,I1,r1,q1⟩ => ?_
 obtain ⟨a,e,⟨xs,hq⟩,q⟩:=q1
 subst e
 cases r1
 obtain ⟨its,rv,p,hz⟩:=I1.list hq
 refine wpAny_pyIter_list p.isList ?_
 refine ⟨s1.heap.objs.size,[s1.heap.objs.size],_,_,H1,rfl,I1.kept (t':=s1.toks) fun b o e=>Heap.get?_push_of_some _ e,oY a _,⟨_,Heap.get?_push_size _ rfl,rfl,rfl⟩,fun b hb => ?_,q⟩
 have e:b=s1.heap.objs.size:=by simpa using hb
 subst e
 exact I1.fpOk (Nat.le_refl _) (I1.hok.fresh (Nat.le_refl _))
theorem rS {pins:List (Addr×Obj)} {σ:St} {H:Hp} {s:Shared} {R:It→Hp→Prop} {E:Value→Shared→Prop} {lo hi:Int} {t u v:Tok} {tk:Nat} (I:Inv X pins σ H s) (h1 : -(2 ^ 62)≤lo) (h2:lo < 2 ^ 62) (h3 : -(2 ^ 62)≤hi) (h4:hi < 2 ^ 62)
  (q:R (Itr lo (hi - lo).toNat) H):wpAny (model X.prog X.w) X.A (pyIter (.ref s.heap.objs.size)) (PIE X pins σ tg R) E {s with heap:=s.heap.push {cls := .type "range",data := .fields #[.int lo t,.int hi u,.int 1 v]},toks:=tk}:=by
 refine wpAny_pyIter_range (IsRange.new ..) (small_one h1 h2 h3 h4) ?_
 have I1:Inv X pins σ H {s with heap:=s.heap.push {cls := .type "range",data := .fields #[.int lo t,.int hi u,.int 1 v]},toks:=tk}:=I.kept fun b o e=>Heap.get?_push_of_some _ e
 refine ⟨(s.heap.push {cls := .type "range",data := .fields #[.int lo t,.int hi u,.int 1 v]}).objs.size,[(s.heap.push {cls := .type "range",data := .fields #[.int lo t,.int hi u,.int 1 v]}).objs.size],_,_,H,rfl,
  I1.kept (t':=tk) fun b o e=>Heap.get?_push_of_some _ e,nT _ lo (hi - lo).toNat,?_,fun b hb => ?_,q⟩
 ·have e1:lo+((0:Nat):Int) * 1=lo:=by simp
  have e2:(((hi - lo).toNat:Nat):Int) - ((0:Nat):Int)=Builtin.Range.rangeSize lo hi 1:=by rw [rangeSize_one];split <;> omega
  show IsRangeIter _ _ (lo+((0:Nat):Int) * 1) ((((hi - lo).toNat:Nat):Int) - ((0:Nat):Int)) 1
  rw [e1,e2]
  exact Heap.get?_push_size _ rfl
 ·have e:b=(s.heap.push {cls := .type "range",data := .fields #[.int lo t,.int hi u,.int 1 v]}).objs.size:=by simpa using hb
  subst e
  exact I1.fpOk (Nat.le_refl _) (I1.hok.fresh (Nat.le_refl _))
def uD (ta:TA):TI:=fun σ H R=>ta σ H fun vs H1=>∃ j:Int,vs=[.int j] ∧ -(2 ^ 62)≤j∧j < 2 ^ 62∧R (Itr 0 j.toNat) H1
def Bh (ta:TA):TI:=fun σ H R=>ta σ H fun vs H1=>∃ i j:Int,vs=[.int i,.int j]∧(-(2 ^ 62)≤i∧i < 2 ^ 62 ∧ -(2 ^ 62)≤j∧j < 2 ^ 62)∧R (Itr i (j - i).toNat) H1
theorem bP {a:Expr} {ta:TA} {p pos:Pos} (hg:Gl X "range") (hm:X.mg "range" = none) (ha:PA X [a] ta) (hs:starEach [a] X.env=[(false,eval a X.env)]:=by rfl):PI X tg (.Call (.Name "range" p) [a] [] pos) (uD ta):=by
 intro pins s σ H R I h
 refine Call_ (kl I hg hm boot_range (PyProof.Rows.callWith_type1 (thn (ha pos pins s σ H _ I h) fun us s1 ⟨vs,H1,I1,r1,q1⟩ => ?_) hs rfl))
 obtain ⟨j,e,q1,q2,q⟩:=q1
 subst e
 cases r1 with
 | cons r rr=>
  cases rr
  obtain ⟨t,rfl⟩:=r
  exact call_range_1 (rS I1 (by omega) (by omega) q1 q2 (by simpa using q))
def yT (wi:TI) (g:TG) (tb:TS):TS:=fun D σ H=>wi σ H fun J H1=>∃ W:Nat→Nat→St→Hp→Prop,(∃ m,W 0 m σ H1)∧∀ i m σ H,W i m σ H →
 (J.stop i H∧D.nx σ H)∨(J.go i H∧∃ N:St→Hp→Prop,(∀ σ' H',N σ' H'→∃ m',m' < m∧W (i+1) m' σ' H')∧∀ x H',J.yld i H x H'→g x σ H' fun σ2 H2=>tb {D with nx:=N,ct:=N,bk:=D.nx} σ2 H2)
def jq (fp:List Addr) (h:Heap):List (Addr×Obj):=fp.filterMap fun b=>(h.get? b).map fun o=>(b,o)
theorem dH {fp:List Addr} {h:Heap} {b:Addr} {o:Obj} (hb:b∈fp) (e:h.get? b=some o):(b,o)∈jq fp h:=List.mem_filterMap.mpr ⟨b,hb,by rw [e];rfl⟩
theorem oZ {fp:List Addr} {h:Heap} {p:Addr×Obj} (hp:p∈jq fp h):p.1∈fp∧h.get? p.1=some p.2:=by
 obtain ⟨b,hb,e⟩:=List.mem_filterMap.mp hp
 cases q:h.get? b with
 | none=>rw [q] at e;cases e
 | some o=>
  rw [q] at e
  have e':(b,o)=p:=Option.some.inj e
  subst e'
  exact ⟨hb,q⟩
theorem Inv.pinned {pins:List (Addr×Obj)} {σ:St} {H:Hp} {s:Shared} {fp:List Addr} (I:Inv X pins σ H s) (hf:∀ b∈fp,oS X pins H b) (ho:∀ b∈fp,∃ o,s.heap.get? b=some o∧∀ v,o.data ≠ .cell v):Inv X (pins++jq fp s.heap) σ H s:=
 I.pins_of fun p hp=>(List.mem_append.mp hp).elim (fun z=>I.pin p (List.mem_append_right _ z)) fun z=>by
  obtain ⟨hb,e⟩:=oZ z
  obtain ⟨f0,f1,f2,_⟩:=hf p.1 hb
  obtain ⟨o,e',d⟩:=ho p.1 hb
  rw [e] at e';cases e'
  exact ⟨e,f0,f1,f2,d⟩
theorem Inv.unpinned {pins pl:List (Addr×Obj)} {σ:St} {H:Hp} {s:Shared} (I:Inv X (pins++pl) σ H s):Inv X pins σ H s:=I.pins_of fun p hp=>I.pin p (List.mem_append_right _ (List.mem_append_left _ hp))
theorem cq {iter:Expr} {body:List Stmt} {wi:TI} {g:TG} {tb:TS} {pos:Pos} (hp:PassesOwn (model X.prog X.w) X.A X.env X.xe) (hc:X.calm=true) (hi:PI X tg iter wi) (hg:PG X tg g) (hb:PSs X body tb)
  (hs:∀ x,foldedSetIterable iter X.env x=pure x:=by intro _;rfl):PS X (.For tg iter body [] pos) (yT wi g tb):=by
 intro pins s σ H D I h
 refine wpAny_For (thn (hi pins s σ H _ I h) fun v s1 h1=>thn h1 fun itv s2 h2 => ?_) hs
 obtain ⟨it,fp,tn,J,H2,e,I2,T,st2,f2,W,⟨m0,w0⟩,uj⟩:=h2
 subst e
 have stat:∀ {H':Hp},(∀ b∈fp,H' b=none)→∀ b∈fp,oS X pins H' b:=fun hn b hb=>⟨hn b hb,(f2 b hb).2⟩
 refine codeAny_forLoop_any (fun n s'=>∃ i σ' H',Inv X pins σ' H' s'∧tn i s'.heap∧(∀ b∈fp,H' b=none)∧W i n σ' H') ?_ m0 ⟨0,σ,H2,I2,st2,fun b hb=>(f2 b hb).1,w0⟩
 rintro n s3 ⟨i,σ3,H3,I3,st3,fr3,w3⟩
 rcases uj i n σ3 H3 w3 with ⟨stop,qn⟩ | ⟨go,N,hN,step⟩
 ·refine wpAny_passesOwn hp (thn (T.done X rfl rfl rfl hc i pins s3 σ3 H3 X.xe I3 (stat fr3) st3 stop) fun r s4 ⟨hr,I4⟩ => ?_)
  subst hr
  exact wpAny_execs_nil ⟨σ3,H3,I4,qn⟩
 ·refine wpAny_passesOwn hp (thn (T.item X rfl rfl rfl hc i pins s3 σ3 H3 X.xe I3 (stat fr3) st3 go) fun r s4 ⟨u,hr,h4⟩ => ?_)
  subst hr
  refine wpAny_passesOwn hp (thn h4 fun _ s5 ⟨x,H5,I5,r5,y5,st5,fr5⟩ => ?_)
  have I5':=I5.pinned (stat fr5) (T.obj _ _ st5)
  refine wpAny_passesOwn hp (thn (hg _ s5 σ3 H5 x u _ I5' r5 (step x H5 y5)) fun _ s6 ⟨σ6,H6,I6,q6⟩ => ?_)
  refine wpAny_passesOwn hp (thn (hb _ s6 σ6 H6 _ I6 q6) fun f s7 q7 => ?_)
  have again:∀ {σ7:St} {H7:Hp},Inv X (pins++jq fp s5.heap) σ7 H7 s7→N σ7 H7→∃ m,m < n∧∃ i σ' H',Inv X pins σ' H' s7∧tn i s7.heap∧(∀ b∈fp,H' b=none)∧W i m σ' H':=fun {σ7 H7} I7 n7=>by
   obtain ⟨m',hm,w7⟩:=hN σ7 H7 n7
   refine ⟨m',hm,i+1,σ7,H7,I7.unpinned,T.keep _ _ _ st5 fun b hb o e=>(I7.pin (b,o) (List.mem_append_right _ (List.mem_append_right _ (dH hb e)))).1,fun b hb => ?_,w7⟩
   obtain ⟨o,e,d⟩:=T.obj _ _ st5 b hb
   exact (I7.pin (b,o) (List.mem_append_right _ (List.mem_append_right _ (dH hb e)))).2.1
  cases f with
  | next=>obtain ⟨σ7,H7,I7,n7⟩:=q7;exact again I7 n7
  | cont=>obtain ⟨σ7,H7,I7,n7⟩:=q7;exact again I7 n7
  | brk=>obtain ⟨σ7,H7,I7,q7⟩:=q7;exact ⟨σ7,H7,I7.unpinned,q7⟩
  | ret v=>obtain ⟨x7,σ7,H7,I7,r7,q7⟩:=q7;exact ⟨x7,σ7,H7,I7.unpinned,r7,q7⟩
end
theorem rT {K:PySem.W.Frag} {a:Addr} {xs:List V} {g:TG} {tb:TS} {D:Ends} {σ:St} {H:Hp} (Pv:Nat→St→Hp→Prop) (h0:Pv 0 σ H) (hl:∀ i σ H,i≤xs.length→Pv i σ H→SqL K H a xs)
  (hs:∀ i x σ H,xs[i]? = some x→Pv i σ H→g x σ H fun σ2 H2=>tb {D with nx:=Pv (i+1),ct:=Pv (i+1),bk:=D.nx} σ2 H2) (hd:∀ σ H,Pv xs.length σ H→D.nx σ H) :
  ∃ W:Nat→Nat→St→Hp→Prop,(∃ m,W 0 m σ H)∧∀ i m σ H,W i m σ H →
   ((Itl K a).stop i H∧D.nx σ H)∨((Itl K a).go i H∧∃ N:St→Hp→Prop,(∀ σ' H',N σ' H'→∃ m',m' < m∧W (i+1) m' σ' H')∧∀ x H',(Itl K a).yld i H x H'→g x σ H' fun σ2 H2=>tb {D with nx:=N,ct:=N,bk:=D.nx} σ2 H2):=by
 refine ⟨fun i m σ H=>m=xs.length - i∧i≤xs.length∧Pv i σ H,⟨xs.length,by simp,Nat.zero_le _,h0⟩,?_⟩
 rintro i m σ H ⟨rfl,hi,p⟩
 have q:=hl i σ H hi p
 by_cases hlt:i < xs.length
 ·refine .inr ⟨⟨xs,xs[i],q,by simp [hlt]⟩,Pv (i+1),fun σ' H' p'=>⟨xs.length - (i+1),by omega,rfl,hlt,p'⟩,fun x H' y => ?_⟩
  obtain ⟨e,y⟩:=y
  subst e
  exact hs i x σ _ (y xs q) p
 ·have e:i=xs.length:=by omega
  subst e
  exact .inl ⟨⟨xs,q,Nat.le_refl _⟩,hd σ H p⟩
theorem o0 {lo:Int} {n:Nat} {g:TG} {tb:TS} {D:Ends} {σ:St} {H:Hp} (Pv:Nat→St→Hp→Prop) (h0:Pv 0 σ H)
  (hs:∀ i σ H,i < n→Pv i σ H→g (.int (lo+i)) σ H fun σ2 H2=>tb {D with nx:=Pv (i+1),ct:=Pv (i+1),bk:=D.nx} σ2 H2) (hd:∀ σ H,Pv n σ H→D.nx σ H) :
  ∃ W:Nat→Nat→St→Hp→Prop,(∃ m,W 0 m σ H)∧∀ i m σ H,W i m σ H →
   ((Itr lo n).stop i H∧D.nx σ H)∨((Itr lo n).go i H∧∃ N:St→Hp→Prop,(∀ σ' H',N σ' H'→∃ m',m' < m∧W (i+1) m' σ' H')∧∀ x H',(Itr lo n).yld i H x H'→g x σ H' fun σ2 H2=>tb {D with nx:=N,ct:=N,bk:=D.nx} σ2 H2):=by
 refine ⟨fun i m σ H=>m=n - i∧i≤n∧Pv i σ H,⟨n,by simp,Nat.zero_le _,h0⟩,?_⟩
 rintro i m σ H ⟨rfl,hi,p⟩
 by_cases hlt:i < n
 ·refine .inr ⟨hlt,Pv (i+1),fun σ' H' p'=>⟨n - (i+1),by omega,rfl,hlt,p'⟩,fun x H' y => ?_⟩
  obtain ⟨e,y⟩:=y
  subst e y
  exact hs i σ _ hlt p
 ·have e:i=n:=by omega
  subst e
  exact .inl ⟨Nat.le_refl _,hd σ H p⟩
theorem rV {c:TT} {tb:TS} {D:Ends} {σ:St} {H:Hp} (Pv:St→Hp→Prop) (μ:St→Hp→Nat) (h0:Pv σ H)
  (hs:∀ σ H,Pv σ H→c σ H fun b H1=>if b=true then tb {D with nx:=fun σ' H'=>Pv σ' H'∧μ σ' H' < μ σ H,ct:=fun σ' H'=>Pv σ' H'∧μ σ' H' < μ σ H,bk:=D.nx} σ H1 else D.nx σ H1)
  (mono:∀ σ H Q Q',(∀ b H1,Q b H1→Q' b H1)→c σ H Q→c σ H Q'):tU c tb D σ H:=by
 refine ⟨fun m σ H=>m=μ σ H∧Pv σ H,⟨_,rfl,h0⟩,?_⟩
 rintro m σ H ⟨rfl,p⟩
 refine mono σ H _ _ (fun b H1 q => ?_) (hs σ H p)
 cases b with
 | true=>exact ⟨_,fun σ' H' ⟨p',l⟩=>⟨_,l,rfl,p'⟩,q⟩
 | false=>exact q
end L2
namespace L2
open PySem PySem.Spec PyProof.Rows
abbrev R2:=V→V→Hp→VK→Prop
def OpR (X:Cx) (f:Value→Value→Sem Value) (r:R2):Prop:=
 ∀ (pins:List (Addr×Obj)) (s:Shared) (σ:St) (H:Hp) (x y:V) (v u:Value) (Q:VK),Inv X pins σ H s→RelV x v→RelV y u→r x y H Q →
  wpAny (model X.prog X.w) X.A (f v u) (EP X pins σ Q) X.xe s
def UnR (X:Cx) (f:Value→Sem Value) (r:V→Hp→VK→Prop):Prop:=
 ∀ (pins:List (Addr×Obj)) (s:Shared) (σ:St) (H:Hp) (x:V) (v:Value) (Q:VK),Inv X pins σ H s→RelV x v→r x H Q →
  wpAny (model X.prog X.w) X.A (f v) (EP X pins σ Q) X.xe s
def fu (X:Cx) (f:Value) (r:List V→Hp→VK→Prop):Prop:=
 ∀ (pins:List (Addr×Obj)) (s:Shared) (σ:St) (H:Hp) (xs:List V) (us:List Value) (Q:VK),Inv X pins σ H s→Vals xs us→r xs H Q →
  wpAny (model X.prog X.w) X.A (call f us) (EP X pins σ Q) X.xe s
def Bi (X:Cx) (r:V→Hp→(Bool→Hp→Prop)→Prop):Prop:=
 ∀ (pins:List (Addr×Obj)) (s:Shared) (σ:St) (H:Hp) (x:V) (v:Value) (Q:Bool→Hp→Prop),Inv X pins σ H s→RelV x v→r x H Q →
  wpAny (model X.prog X.w) X.A (truthy v) (TP X pins σ Q) X.xe s
def tOp (r:R2) (ta tb:TE):TE:=fun σ H Q=>ta σ H fun x H1=>tb σ H1 fun y H2=>r x y H2 Q
def tUn (r:V→Hp→VK→Prop) (ta:TE):TE:=fun σ H Q=>ta σ H fun x H1=>r x H1 Q
def rI (C:Int→Int→Prop) (g:Int→Int→V):R2:=fun x y H Q=>∃ i j,x = .int i∧y = .int j∧C i j∧Q (g i j) H
def rI0 (g:Int→Int→V):R2:=fun x y H Q=>∃ i j,x = .int i∧y = .int j∧Q (g i j) H
def rU (g:Int→V):V→Hp→VK→Prop:=fun x H Q=>∃ i,x = .int i∧Q (g i) H
section
variable {X:Cx} {a b c:Expr} {ta tb tc:TE} {pos:Pos}
theorem yU (ha:PE X a ta) (hb:PE X b tb) {pins:List (Addr×Obj)} {s:Shared} {σ:St} {H:Hp} {R:V→V→Hp→Prop} (I:Inv X pins σ H s)
  (h:ta σ H fun x H1=>tb σ H1 fun y H2=>R x y H2) {Q:Value→Shared→Prop} {f:Value→Value→Sem Value}
  (hf:∀ v u s2 x y H2,Inv X pins σ H2 s2→RelV x v→RelV y u→R x y H2→wpAny (model X.prog X.w) X.A (f v u) Q X.xe s2) :
  wpAny (model X.prog X.w) X.A (eval a X.env) (fun v s₁=>wpAny (model X.prog X.w) X.A (eval b X.env) (fun u s₂=>wpAny (model X.prog X.w) X.A (f v u) Q X.xe s₂) X.xe s₁) X.xe s:=by
 refine thn (ha pins s σ H _ I h) fun v s1 ⟨x,H1,I1,r1,q1⟩ => ?_
 refine thn (hb pins s1 σ H1 _ I1 q1) fun u s2 ⟨y,H2,I2,r2,q2⟩ => ?_
 exact hf v u s2 x y H2 I2 r1 r2 q2
theorem aB {op:Operator} {r:R2} (ho:OpR X (binaryOp op) r) (ha:PE X a ta) (hb:PE X b tb):PE X (.BinOp a op b pos) (tOp r ta tb):=by
 intro pins s σ H Q I h
 exact wpAny_BinOp (yU ha hb I h fun v u s2 x y H2 I2 rx ry q=>ho pins s2 σ H2 x y v u Q I2 rx ry q)
theorem uE {op:UnaryOp} {r:V→Hp→VK→Prop} (ho:UnR X (unaryOp op) r) (ha:PE X a ta):PE X (.UnaryOp op a pos) (tUn r ta):=by
 intro pins s σ H Q I h
 exact UnaryOp_ (thn (ha pins s σ H _ I h) fun v s1 ⟨x,H1,I1,r1,q1⟩=>ho pins s1 σ H1 x v Q I1 r1 q1)
theorem opI {f:Value→Value→Sem Value} {C:Int→Int→Prop} {g:Int→Int→Int}
  (rule:∀ (i j:Int) (t u:Tok) (s:Shared) (Q:Value→Shared→Prop) (E:Value→Shared→Prop),C i j→Q (.int (g i j) s.toks) {s with toks:=s.toks+1}→wpAny (model X.prog X.w) X.A (f (.int i t) (.int j u)) Q E s) :
  OpR X f (rI C fun i j => .int (g i j)):=by
 intro pins s σ H x y v u Q I rx ry h
 obtain ⟨i,j,rfl,rfl,hc,q⟩:=h
 obtain ⟨t,rfl⟩:=rx
 obtain ⟨t',rfl⟩:=ry
 exact rule i j t t' s _ _ hc ⟨.int (g i j),H,I.tok _,⟨_,rfl⟩,q⟩
theorem yH {f:Value→Value→Sem Value} {g:Int→Int→Int}
  (rule:∀ (i j:Int) (t u:Tok) (s:Shared) (Q:Value→Shared→Prop) (E:Value→Shared→Prop),Q (.int (g i j) s.toks) {s with toks:=s.toks+1}→wpAny (model X.prog X.w) X.A (f (.int i t) (.int j u)) Q E s) :
  OpR X f (rI0 fun i j => .int (g i j)):=by
 intro pins s σ H x y v u Q I rx ry h
 obtain ⟨i,j,rfl,rfl,q⟩:=h
 obtain ⟨t,rfl⟩:=rx
 obtain ⟨t',rfl⟩:=ry
 exact rule i j t t' s _ _ ⟨.int (g i j),H,I.tok _,⟨_,rfl⟩,q⟩
theorem yI {f:Value→Value→Sem Value} {g:Int→Int→Bool}
  (rule:∀ (i j:Int) (t u:Tok) (s:Shared) (Q:Value→Shared→Prop) (E:Value→Shared→Prop),Q (.bool (g i j)) s→wpAny (model X.prog X.w) X.A (f (.int i t) (.int j u)) Q E s) :
  OpR X f (rI0 fun i j => .bl (g i j)):=by
 intro pins s σ H x y v u Q I rx ry h
 obtain ⟨i,j,rfl,rfl,q⟩:=h
 obtain ⟨t,rfl⟩:=rx
 obtain ⟨t',rfl⟩:=ry
 exact rule i j t t' s _ _ ⟨.bl (g i j),H,I,rfl,q⟩
def Bj (i j:Int):Prop:=0 < j∧j < 1073741824
def Bk (i j:Int):Prop:=j≠0∧j.natAbs < 1073741824
def Bl (i j:Int):Prop:=0≤j∧j≤1000000∧i.natAbs < 2 ^ 64
def CMul (i j:Int):Prop:=(-(2 ^ 64) < i∧i < 2 ^ 64)∨(-(2 ^ 64) < j∧j < 2 ^ 64)
theorem CMul.ok {i j:Int} (h:CMul i j):IntMulOk i j:=by
 rcases h with ⟨h1,h2⟩ | ⟨h1,h2⟩
 ·exact .of_left (intBits_le_64 h1 h2)
 ·exact .of_right (intBits_le_64 h1 h2)
theorem nU (k:Nat):(0:Int)≤2 ^ k:=by
 rw [two_pow_cast]
 exact Int.natCast_nonneg _
theorem bC:OpR X (binaryOp .Add) (rI0 fun i j => .int (i+j)):=yH fun _ _ _ _ _ _ _ q=>add_int q
theorem iq:OpR X (binaryOp .Sub) (rI0 fun i j => .int (i - j)):=yH fun _ _ _ _ _ _ _ q=>sub_int q
theorem eA:OpR X (binaryOp .Mult) (rI CMul fun i j => .int (i * j)):=opI fun _ _ _ _ _ _ _ hc q=>mul_int q hc.ok
theorem da:OpR X (binaryOp .FloorDiv) (rI Bj fun i j => .int (i / j)):=opI fun i j _ _ _ _ _ hc q=>by
 have h1:(0:Int) < j:=hc.1
 have h2:j < 1073741824:=hc.2
 exact floordiv_int (by omega) (by rw [Int.fdiv_eq_ediv_of_nonneg i (by omega)];exact q) (.inl (PyProof.noPylong_small (by omega)))
theorem bQ:OpR X (binaryOp .Mod) (rI (fun _ j=>0 < j) fun i j => .int (i % j)):=opI fun i j _ _ _ _ _ hc q=>by
 have h1:(0:Int) < j:=hc
 exact mod_int' (by omega) (by rw [Int.fmod_eq_emod_of_nonneg i (by omega)];exact q)
theorem wO:OpR X (binaryOp .LShift) (rI Bl fun i j => .int (i * 2 ^ j.toNat)):=opI fun _ _ _ _ _ _ _ hc q=>lshift_int_small hc.1 hc.2.1 hc.2.2 q
theorem tV:OpR X (binaryOp .RShift) (rI (fun _ j=>0≤j) fun i j => .int (i / 2 ^ j.toNat)):=opI fun i j _ _ _ _ _ hc q=>
 rshift_int hc (by rw [Int.fdiv_eq_ediv_of_nonneg i (nU _)];exact q)
theorem tW:OpR X (binaryOp .BitAnd) (rI0 fun i j => .int (Builtin.bitAnd i j)):=yH fun _ _ _ _ _ _ _ q=>and_int q
theorem wP:OpR X (binaryOp .BitXor) (rI0 fun i j => .int (Builtin.bitXor i j)):=yH fun _ _ _ _ _ _ _ q=>xor_int q
theorem unI {f:Value→Sem Value} {g:Int→Int}
  (rule:∀ (i:Int) (t:Tok) (s:Shared) (Q:Value→Shared→Prop) (E:Value→Shared→Prop),Q (.int (g i) s.toks) {s with toks:=s.toks+1}→wpAny (model X.prog X.w) X.A (f (.int i t)) Q E s) :
  UnR X f (rU fun i => .int (g i)):=by
 intro pins s σ H x v Q I rx h
 obtain ⟨i,rfl,q⟩:=h
 obtain ⟨t,rfl⟩:=rx
 exact rule i t s _ _ ⟨.int (g i),H,I.tok _,⟨_,rfl⟩,q⟩
theorem o5:UnR X (unaryOp .USub) (rU fun i => .int (-i)):=unI fun _ _ _ _ _ q=>neg_int q
end
def AA:V→V→Bool
 | .non,.non=>true | .non,.int _=>true | .int _,.non=>true | .non,.bl _=>true | .bl _,.non=>true | .non,.str _=>true | .str _,.non=>true
 | .int _,.int _=>true | .bl _,.bl _=>true | .str _,.str _=>true | .byt _,.byt _=>true
 | .int _,.str _=>true | .str _,.int _=>true | .bl _,.str _=>true | .str _,.bl _=>true
 | _,_=>false
def rEq:R2:=fun x y H Q=>AA x y=true∧Q (.bl (decide (x=y))) H
def rNe:R2:=fun x y H Q=>AA x y=true∧Q (.bl (!decide (x=y))) H
theorem jK {i j:Int}:decide (V.int i=V.int j)=(i == j):=by
 rw [Bool.eq_iff_iff]
 simp
theorem tX {i j:Bool}:decide (V.bl i=V.bl j)=(i == j):=by
 rw [Bool.eq_iff_iff]
 simp
theorem o6 {i j:Str}:decide (V.str i=V.str j)=(i == j):=by
 rw [Bool.eq_iff_iff]
 simp
theorem o8 {i j:Array UInt8}:decide (V.byt i=V.byt j)=(i.toList == j.toList):=by
 rw [Bool.eq_iff_iff]
 cases i
 cases j
 simp
section
variable {X:Cx} {a b c:Expr} {ta tb tc:TE} {pos:Pos}
theorem aV {pins:List (Addr×Obj)} {σ:St} {H:Hp} {s:Shared} {Q:VK} {k k':Bool} (I:Inv X pins σ H s) (q:Q (.bl k) H) (e:k=k'):EP X pins σ Q (.bool k') s:=by
 subst e
 exact ⟨.bl k,H,I,rfl,q⟩
theorem cG:OpR X (compareOp .Eq) rEq:=by
 intro pins s σ H x y v u Q I rx ry h
 obtain ⟨hs,q⟩:=h
 cases x with
 | non=>
  cases rx
  cases y with
  | non=>cases ry;exact PySem.EqNone.eq_none_none (aV I q (by simp))
  | bl j=>cases ry;exact PySem.EqNone.eq_none_bool (aV I q (by simp))
  | int j=>obtain ⟨t',rfl⟩:=ry;exact PySem.EqNone.eq_none_int (aV I q (by simp))
  | str j=>obtain ⟨t',rfl⟩:=ry;exact PySem.EqNone.eq_none_str (aV I q (by simp))
  | _=>exact absurd (show false=true from hs) Bool.false_ne_true
 | bl i=>
  cases rx
  cases y with
  | non=>cases ry;exact PySem.EqNone.eq_bool_none (aV I q (by simp))
  | bl j=>cases ry;exact eq_bool (aV I q tX)
  | str j=>obtain ⟨t',rfl⟩:=ry;exact PySem.EqMixed.eq_bool_str (aV I q (by simp))
  | _=>exact absurd (show false=true from hs) Bool.false_ne_true
 | int i=>
  obtain ⟨t,rfl⟩:=rx
  cases y with
  | non=>cases ry;exact PySem.EqNone.eq_int_none (aV I q (by simp))
  | int j=>obtain ⟨t',rfl⟩:=ry;exact eq_int (aV I q jK)
  | str j=>obtain ⟨t',rfl⟩:=ry;exact PySem.EqMixed.eq_int_str (aV I q (by simp))
  | _=>exact absurd (show false=true from hs) Bool.false_ne_true
 | str i=>
  obtain ⟨t,rfl⟩:=rx
  cases y with
  | non=>cases ry;exact PySem.EqNone.eq_str_none (aV I q (by simp))
  | bl j=>cases ry;exact PySem.EqMixed.eq_str_bool (aV I q (by simp))
  | int j=>obtain ⟨t',rfl⟩:=ry;exact PySem.EqMixed.eq_str_int (aV I q (by simp))
  | str j=>obtain ⟨t',rfl⟩:=ry;exact eq_str (aV I q o6)
  | _=>exact absurd (show false=true from hs) Bool.false_ne_true
 | byt i=>
  obtain ⟨t,rfl⟩:=rx
  cases y with
  | byt j=>obtain ⟨t',rfl⟩:=ry;exact PySem.W.eq_bytes (aV I q o8)
  | _=>exact absurd (show false=true from hs) Bool.false_ne_true
 | _=>cases y <;> exact absurd (show false=true from hs) Bool.false_ne_true
theorem nV:OpR X (compareOp .NotEq) rNe:=by
 intro pins s σ H x y v u Q I rx ry h
 obtain ⟨hs,q⟩:=h
 cases x with
 | non=>
  cases rx
  cases y with
  | non=>cases ry;exact PySem.EqNone.ne_none_none (aV I q (by simp))
  | bl j=>cases ry;exact PySem.EqNone.ne_none_bool (aV I q (by simp))
  | int j=>obtain ⟨t',rfl⟩:=ry;exact PySem.EqNone.ne_none_int (aV I q (by simp))
  | str j=>obtain ⟨t',rfl⟩:=ry;exact PySem.EqNone.ne_none_str (aV I q (by simp))
  | _=>exact absurd (show false=true from hs) Bool.false_ne_true
 | bl i=>
  cases rx
  cases y with
  | non=>cases ry;exact PySem.EqNone.ne_bool_none (aV I q (by simp))
  | bl j=>cases ry;exact ne_bool (aV I q (congrArg not tX))
  | str j=>obtain ⟨t',rfl⟩:=ry;exact PySem.EqMixed.ne_bool_str (aV I q (by simp))
  | _=>exact absurd (show false=true from hs) Bool.false_ne_true
 | int i=>
  obtain ⟨t,rfl⟩:=rx
  cases y with
  | non=>cases ry;exact PySem.EqNone.ne_int_none (aV I q (by simp))
  | int j=>obtain ⟨t',rfl⟩:=ry;exact ne_int (aV I q (congrArg not jK))
  | str j=>obtain ⟨t',rfl⟩:=ry;exact PySem.EqMixed.ne_int_str (aV I q (by simp))
  | _=>exact absurd (show false=true from hs) Bool.false_ne_true
 | str i=>
  obtain ⟨t,rfl⟩:=rx
  cases y with
  | non=>cases ry;exact PySem.EqNone.ne_str_none (aV I q (by simp))
  | bl j=>cases ry;exact PySem.EqMixed.ne_str_bool (aV I q (by simp))
  | int j=>obtain ⟨t',rfl⟩:=ry;exact PySem.EqMixed.ne_str_int (aV I q (by simp))
  | str j=>obtain ⟨t',rfl⟩:=ry;exact ne_str (aV I q (congrArg not o6))
  | _=>exact absurd (show false=true from hs) Bool.false_ne_true
 | byt i=>
  obtain ⟨t,rfl⟩:=rx
  cases y with
  | byt j=>obtain ⟨t',rfl⟩:=ry;exact PySem.W.ne_bytes (aV I q (congrArg not o8))
  | _=>exact absurd (show false=true from hs) Bool.false_ne_true
 | _=>cases y <;> exact absurd (show false=true from hs) Bool.false_ne_true
theorem jL:OpR X (compareOp .Lt) (rI0 fun i j => .bl (decide (i < j))):=yI fun _ _ _ _ _ _ _ q=>lt_int q
theorem yV:OpR X (compareOp .LtE) (rI0 fun i j => .bl (decide (i≤j))):=yI fun _ _ _ _ _ _ _ q=>le_int q
theorem nW:OpR X (compareOp .Gt) (rI0 fun i j => .bl (decide (j < i))):=yI fun _ _ _ _ _ _ _ q=>gt_int q
theorem wQ:OpR X (compareOp .GtE) (rI0 fun i j => .bl (decide (j≤i))):=yI fun _ _ _ _ _ _ _ q=>ge_int q
theorem wR:OpR X (compareOp .Is) (fun x y H Q=>y = .non∧Q (.bl (decide (x = .non))) H):=by
 intro pins s σ H x y v u Q I rx ry h
 obtain ⟨rfl,q⟩:=h
 cases ry
 refine is_none_gen (aV I q ?_)
 cases x <;> first
  | (cases rx;rfl)
  | (obtain ⟨t,rfl⟩:=rx;rfl)
theorem uF:OpR X (compareOp .IsNot) (fun x y H Q=>y = .non∧Q (.bl (!decide (x = .non))) H):=by
 intro pins s σ H x y v u Q I rx ry h
 obtain ⟨rfl,q⟩:=h
 cases ry
 refine isnot_none_gen (aV I q ?_)
 cases x <;> first
  | (cases rx;rfl)
  | (obtain ⟨t,rfl⟩:=rx;rfl)
def Bm:HO→Bool
 | .lst _=>true
 | .ins _ _ _=>true
 | _=>false
theorem ax (b:Expr) {op:CmpOp} (h:op ≠ .In:=by decide) (h2:op ≠ .NotIn:=by decide):behindInMarks op b=false:=by
 have e1:(op == CmpOp.In)=false:=by cases op <;> first | rfl | exact absurd rfl h
 have e2:(op == CmpOp.NotIn)=false:=by cases op <;> first | rfl | exact absurd rfl h2
 cases b <;> simp [behindInMarks,e1,e2]
theorem cc {op:CmpOp} {r:R2} (ho:OpR X (compareOp op) r) (ha:PE X a ta) (hb:PE X b tb) (hm:behindInMarks op b=false):PE X (.Compare a [op] [b] pos) (tOp r ta tb):=by
 intro pins s σ H Q I h
 exact wpAny_Compare1 (yU ha hb I h fun v u s2 x y H2 I2 rx ry q=>ho pins s2 σ H2 x y v u Q I2 rx ry q) hm
def nX (t:TE):TT:=fun σ H Q=>t σ H fun x H'=>∃ k,x = .bl k∧Q k H'
theorem au {op:CmpOp} {r:R2} (ho:OpR X (compareOp op) r) (ha:PE X a ta) (hb:PE X b tb) (hm:behindInMarks op b=false):PT X (.Compare a [op] [b] pos) (nX (tOp r ta tb)):=by
 intro pins s σ H Q I h
 refine wpAny_isTrue_Compare1 (thn (ha pins s σ H _ I h) fun v s1 ⟨x,H1,I1,r1,q1⟩=>thn (hb pins s1 σ H1 _ I1 q1) fun u s2 ⟨y,H2,I2,r2,q2⟩=>
  thn (ho pins s2 σ H2 x y v u _ I2 r1 r2 q2) fun c s3 ⟨z,H3,I3,r3,k,e,q3⟩ => ?_) hm
 subst e
 cases r3
 exact wpAny_truthy_bool ⟨H3,I3,q3⟩
def AB (r r':R2) (ta tb tc:TE):TE:=fun σ H Q=>ta σ H fun x H1=>tb σ H1 fun y H2=>r x y H2 fun z H3=>∃ k,z = .bl k ∧
 (if k=true then tc σ H3 fun w' H4=>r' y w' H4 Q else Q (.bl false) H3)
def yW (K:PySem.W.Frag) (x:V) (H:Hp) (k:Bool):Prop:=
 match x with
 | .non=>k=false
 | .bl b=>k=b
 | .int i=>k=(i != 0)
 | .str y=>y.length≤sizeLine∧k=((y.length:Int) != 0)
 | .byt y=>y.size≤sizeLine∧k=((y.size:Int) != 0)
 | .ref p=>(∃ xs,SqL K H p xs∧k = !xs.isEmpty)∨(∃ xs,SqT K H p xs∧k = !xs.isEmpty)∨∃ kvs,H p=some (.dK kvs)∧k = !kvs.isEmpty
 | _=>False
theorem nY {κ:Type} {kvs:List (κ×V)} {vs:List (κ×Value)} (r:KV kvs vs):(!vs.isEmpty) = !kvs.isEmpty:=by
 cases r <;> rfl
theorem jr {xs:List V} {its:List Value} (r:Vals xs its):(!its.toArray.isEmpty) = !xs.isEmpty:=by
 cases r <;> simp
theorem ko:(sizeLine:Nat) < 2 ^ 63:=by rw [sizeLine_eq];decide
theorem wS:Bi X (fun x H Q=>∃ k,yW X.K x H k∧Q k H):=by
 intro pins s σ H x v Q I rx h
 obtain ⟨k,e,q⟩:=h
 have hl:=ko
 have hs:sizeLine=16777216:=sizeLine_eq
 cases x with
 | non=>
  cases rx
  have e':k=false:=e
  subst e'
  exact truthy_none ⟨H,I,q⟩
 | bl b=>
  cases rx
  have e':k=b:=e
  subst e'
  exact wpAny_truthy_bool ⟨H,I,q⟩
 | int i=>
  obtain ⟨t,rfl⟩:=rx
  have e':k=(i != 0):=e
  subst e'
  exact PySem.P.truthy_int ⟨H,I,q⟩
 | str y=>
  obtain ⟨t,rfl⟩:=rx
  obtain ⟨hy,e'⟩:y.length≤sizeLine∧k=((y.length:Int) != 0):=e
  subst e'
  exact PySem.P.truthy_str (by omega) ⟨H,I.tok _,q⟩
 | byt y=>
  obtain ⟨t,rfl⟩:=rx
  obtain ⟨hy,e'⟩:y.size≤sizeLine∧k=((y.size:Int) != 0):=e
  subst e'
  exact PySem.W.truthy_bytes (by omega) ⟨H,I.tok _,q⟩
 | ref p=>
  cases rx
  have e':(∃ xs,SqL X.K H p xs∧k = !xs.isEmpty)∨(∃ xs,SqT X.K H p xs∧k = !xs.isEmpty)∨∃ kvs,H p=some (.dK kvs)∧k = !kvs.isEmpty:=e
  rcases e' with ⟨xs,hx,e'⟩ | ⟨xs,hx,e'⟩ | ⟨kvs,hx,e'⟩
  ·subst e'
   obtain ⟨its,r,pl,hz⟩:=I.list hx
   have hlen:=r.length
   exact wpAny_truthy_list pl.isList (by simp only [List.size_toArray];omega) ⟨H,I.tok _,by rw [jr r];exact q⟩
  ·subst e'
   obtain ⟨its,r,pl,hz⟩:=I.tuple hx
   have hlen:=r.length
   exact truthy_tuple pl (by simp only [List.size_toArray];omega) ⟨H,I.tok _,by rw [jr r];exact q⟩
  ·subst e'
   obtain ⟨hz,hS,vs,r,m⟩:kvs.length≤sizeLine∧(p == sysModules)=false∧∃ vs,KV kvs vs∧s.heap.DictOf (lU X.prog X.w) p vs:=I.hok p _ hx
   have hlen:kvs.length=vs.length:=Paired.length r
   exact wpAny_truthy_dict hS m (by omega) ⟨H,I.tok _,by rw [nY r];exact q⟩
 | _=>exact (show False from e).elim
theorem rW (ha:PE X a ta) (he:∀ whole,isTrue a X.env whole=(do let v ← whole;standAt a.pos;holding [v] (truthy v))) :
  PT X a (fun σ H Q=>ta σ H fun x H'=>∃ k,yW X.K x H' k∧Q k H'):=by
 intro pins s σ H Q I h
 exact isTrue_plain (thn (ha pins s σ H _ I h) fun v s1 ⟨x,H1,I1,r1,q1⟩=>wS pins s1 σ H1 x v Q I1 r1 q1) (he _)
def yJ (b:Expr):Prop:=∀ o i,subscripted b false o i=operate [o,i] (getItem o i)
theorem o9 {x:V} {us:List Value} (r:Vals [x] us):∃ u,us=[u]∧RelV x u:=by
 cases r with
 | cons r1 r2=>cases r2;exact ⟨_,rfl,r1⟩
theorem wT {x y:V} {us:List Value} (r:Vals [x,y] us):∃ u w',us=[u,w']∧RelV x u∧RelV y w':=by
 cases r with
 | cons r1 r2=>
  cases r2 with
  | cons r3 r4=>cases r4;exact ⟨_,_,rfl,r1,r3⟩
def Cc (K:PySem.W.Frag) (x:V) (H:Hp) (n:Nat):Prop:=
 match x with
 | .str y=>y.length≤sizeLine∧n=y.length
 | .byt y=>y.size≤sizeLine∧n=y.size
 | .ref p=>(∃ xs,SqL K H p xs∧n=xs.length)∨∃ xs,SqT K H p xs∧n=xs.length
 | _=>False
end
end L2
namespace L2
open PySem PySem.Spec PyProof.Rows
structure ObjM (h:Heap) (x dx C:Addr) (mA:Str→Option Value):Prop where
 obj:h.get? x=some (PySem.W.instObj C dx)
 ns:h.Ns1 dx mA
 ne:dx≠x
theorem pd {h:Heap} {dx:Addr} {mA:Str→Option Value} (n:h.Ns1 dx mA):∃ od,h.get? dx=some od∧∀ name,PySem.W.lookIn name od=some (mA name):=by
 obtain ⟨o,es,ep,ho,hd,hk,_,hm⟩:=n
 refine ⟨o,ho,fun name => ?_⟩
 have e:=hm name
 unfold nsFind findBy at e
 rw [← Array.find?_toList] at e
 unfold PySem.W.lookIn
 rw [hd]
 dsimp only
 split
 ·rename_i y q
  rw [q] at e
  exact congrArg some e
 ·rename_i q
  rw [q] at e
  have a:es.toList.any (·.refKey)=false:=by
   rw [List.any_eq_false]
   intro y hy
   obtain ⟨z,t,hkey⟩:=hk y (Array.mem_toList_iff.mp hy)
   simp [DictEntry.refKey,hkey]
  have a':¬ es.toList.any (·.refKey)=true:=by rw [a];exact Bool.false_ne_true
  rw [if_neg a']
  exact congrArg some e
theorem ObjM.look {h:Heap} {x dx C:Addr} {mA:Str→Option Value} (I:ObjM h x dx C mA):∃ od,PySem.W.InstAt h x (PySem.W.instObj C dx) C (some od)∧∀ name,PySem.W.lookIn name od=some (mA name):=
 let ⟨od,ho,hl⟩:=pd I.ns
 ⟨od,⟨I.obj,rfl,rfl,ho⟩,hl⟩
section
variable {prog:Program} {w:World} {A:Around} {E:Value→Shared→Prop} {s:Shared} {K:PySem.W.Frag} {x dx C f:Addr} {mA:Str→Option Value} {name:Str} {v:Value}
theorem uG {expr:Bool} {Q:Value→Shared→Prop} (X:K.In s.heap) (I:ObjM s.heap x dx C mA) (hg:PySem.W.plainGet K C name=true) (hh:PySem.W.hasDictIn K C=true)
  (ha:PySem.W.findIn K (.ref C) name=some none) (hv:mA name=some v) (hv':PySem.W.handedIn v=true) (h:Q v {s with toks:=s.toks+1}) :
  wpAny (model prog w) A (getAttr (.ref x) name expr) Q E s:=by
 obtain ⟨od,J,hl⟩:=I.look
 exact PySem.W.get_value X J (PySem.W.plainGet_of hg).1 (PySem.W.findObj_own hh ha rfl (by rw [hl,hv])) hv' h
theorem rX {pl:Sem Bool} {Q:Value×List Value→Shared→Prop} (X:K.In s.heap) (I:ObjM s.heap x dx C mA) (hg:PySem.W.plainGet K C name=true)
  (hf:PySem.W.findIn K (.ref C) name=some (some (.ref f))) (ht:PySem.W.isFn K (.ref f)=true) (hv:mA name=none) (h:Q (.ref f,[.ref x]) s) :
  wpAny (model prog w) A (getMethod (.ref x) name pl) Q E s:=by
 obtain ⟨od,J,hl⟩:=I.look
 exact PySem.W.method_fn X J (PySem.W.plainGet_of hg).1 (PySem.W.plainGet_of hg).2 hf (beq_iff_eq.mp ht) (by show (PySem.W.lookIn name od).map (·.isSome)=some false;rw [hl,hv];rfl) h
theorem uH {ns:List Str} {Q:Unit→Shared→Prop} (X:K.In s.heap) (I:ObjM s.heap x dx C mA)
  (hs:PySem.W.findIn K (.ref C) "__setattr__" = some (some (.builtin "object.__setattr__"))) (hp:PySem.W.plainOver K C=true) (ht:PySem.W.takerIn K C name=some none) (hh:PySem.W.hasDictIn K C=true)
  (hw:PySem.Within mA ns) (hsz:ns.length≤sizeLine)
  (h:∀ h',ObjM h' x dx C (fun y=>if y=name then some v else mA y)→Heap.SameBut dx s.heap h'→Q () {s with heap:=h',toks:=s.toks+2}) :
  wpAny (model prog w) A (setAttr (.ref x) name v) Q E s:=by
 obtain ⟨od,J,hl⟩:=I.look
 refine PySem.W.set_plain X J hs (PySem.W.osa_open (s:={s with toks:=s.toks+1}) (r:=none) X J hp ht fun b => ?_)
 obtain ⟨cd,hc,hd'⟩:=PySem.W.any_some hh
 have hx:s.heap.get? x=some ⟨.ref C,some dx,.plain,#[]⟩:=I.obj
 refine wpAny_bind (wpAny_pure (wpAny_bind (wpAny_bind (wpAny_loadPart hx (wpAny_bind (PySem.W.Looks.here (s:={s with toks:=s.toks+1}) (PySem.W.looks_clsIn X hc) ?_))))))
 rw [hd']
 refine wpAny_pure (a:=some dx) (wpAny_bind (wpAny_pure (wpAny_bind ?_)))
 refine wpAny_nsSet1 (s:={s with toks:=s.toks+1}) I.ns fun h' hn2 hs2 => ?_
 obtain ⟨oD,esD,epD,hoD,hdD,hcD⟩:=hn2.count (PySem.Within.cons name v hw)
 refine wpAny_bind (wpAny_lookBehind hoD (by rw [hdD];exact pastItsLine_dict (Nat.le_trans hcD (by rw [List.length_cons];omega))) ?_)
 exact wpAny_pure (h _ ⟨(hs2.2 _ (Ne.symm I.ne)).trans I.obj,hn2,I.ne⟩ hs2)
theorem rY {R:Result→Shared→Prop} {vs:List Value} {kw:List (Str×Value)} (X:K.In s.heap) (hm:PySem.W.makesIn K C=true)
  (hi:PySem.W.findIn K (.ref C) "__init__" = some (some (.ref f))) (hf:PySem.W.typeIn K (.ref f)=some (.type "function"))
  (h:codeAny (model prog w) (A.under (.builtin "type.__call__" ⟨.ref C :: vs,kw⟩)) (.call (.ref f) ⟨.ref (s.heap.objs.size+1) :: vs,kw⟩) (PySem.W.InitBack (s.heap.objs.size+1) R)
   {s with heap:=(s.heap.push PySem.W.emptyDict).push (PySem.W.instObj C s.heap.objs.size)}) :
  codeAny (model prog w) A (.call (.ref C) ⟨vs,kw⟩) R s:=by
 obtain ⟨hh,g,d,t,os⟩:=s
 exact PySem.W.make_core (PySem.W.makes_of X hm) (PySem.W.looks_findIn X hi) (fun self=>PySem.W.bind_fn X self hf) (.inl rfl) h
end
def dI (f:Str) (v:V):List (Str×V)→List (Str×V)
 | []=>[(f,v)]
 | (g,x) :: r=>if g=f then (g,v) :: r else (g,x) :: dI f v r
theorem ir (f g:Str) (v:V):∀ fs:List (Str×V),(dI f v fs).lookup g=if g=f then some v else fs.lookup g
 | []=>by
  show List.lookup g [(f,v)]=_
  by_cases h:g=f
  ·have hb:(g == f)=true:=beq_iff_eq.mpr h
   simp only [List.lookup,hb,if_pos h]
  ·have hb:(g == f)=false:=beq_eq_false_iff_ne.mpr h
   simp only [List.lookup,hb,if_neg h]
 | (k,x) :: r=>by
  have ih:=ir f g v r
  rw [show dI f v ((k,x) :: r)=(if k=f then (k,v) :: r else (k,x) :: dI f v r) from rfl]
  by_cases hk:k=f
  ·rw [if_pos hk]
   by_cases h:g=k
   ·have hb:(g == k)=true:=beq_iff_eq.mpr h
    simp only [List.lookup,hb,if_pos (h.trans hk)]
   ·have hb:(g == k)=false:=beq_eq_false_iff_ne.mpr h
    simp only [List.lookup,hb,if_neg (fun e:g=f=>h (e.trans hk.symm))]
  ·rw [if_neg hk]
   by_cases h:g=k
   ·have hb:(g == k)=true:=beq_iff_eq.mpr h
    simp only [List.lookup,hb,if_neg (fun e:g=f=>hk (h.symm.trans e))]
   ·have hb:(g == k)=false:=beq_eq_false_iff_ne.mpr h
    simp only [List.lookup,hb]
    exact ih
theorem iu (f:Str) (v:V):∀ fs:List (Str×V),f∈(dI f v fs).map (·.1)∧∀ g,g∈fs.map (·.1)→g∈(dI f v fs).map (·.1)
 | []=>⟨by simp [dI],fun g h=>by simp at h⟩
 | (k,x) :: r=>by
  obtain ⟨i1,i2⟩:=iu f v r
  rw [show dI f v ((k,x) :: r)=(if k=f then (k,v) :: r else (k,x) :: dI f v r) from rfl]
  by_cases hk:k=f
  ·rw [if_pos hk]
   subst hk
   exact ⟨by simp,fun g h=>by simpa using h⟩
  ·rw [if_neg hk]
   refine ⟨?_,fun g h => ?_⟩
   ·rw [List.map_cons]
    exact List.mem_cons_of_mem _ i1
   ·rw [List.map_cons] at h ⊢
    rcases List.mem_cons.mp h with e | e
    ·exact List.mem_cons.mpr (.inl e)
    ·exact List.mem_cons_of_mem _ (i2 g e)
theorem iw (f:Str) (v:V):∀ fs:List (Str×V),(dI f v fs).length≤fs.length+1
 | []=>by simp [dI]
 | (k,x) :: r=>by
  have ih:=iw f v r
  rw [show dI f v ((k,x) :: r)=(if k=f then (k,v) :: r else (k,x) :: dI f v r) from rfl]
  by_cases hk:k=f
  ·rw [if_pos hk,List.length_cons,List.length_cons];omega
  ·rw [if_neg hk,List.length_cons,List.length_cons];omega
theorem RelO.some_of {v:V} {o:Option Value} (r:RelO (some v) o):∃ u,o=some u∧RelV v u:=by
 cases o with
 | none=>exact (show False from r).elim
 | some u=>exact ⟨u,rfl,r⟩
theorem RelO.none_of {o:Option Value} (r:RelO none o):o=none:=by
 cases o with
 | none=>rfl
 | some u=>exact (show False from r).elim
theorem pe {v:V} {u:Value} (r:RelV v u):PySem.W.handedIn u=true:=by
 cases v with
 | non=>cases (show u=Value.none from r);rfl
 | bl b=>cases (show u=Value.bool b from r);rfl
 | int i=>obtain ⟨t,e⟩:=(show ∃ t,u=Value.int i t from r);cases e;rfl
 | str x=>obtain ⟨t,e⟩:=(show ∃ t,u=Value.str x t from r);cases e;rfl
 | byt b=>obtain ⟨t,e⟩:=(show ∃ t,u=Value.bytes b t from r);cases e;rfl
 | flt b=>obtain ⟨t,e⟩:=(show ∃ t,u=Value.float b t from r);cases e;rfl
 | ref a=>cases (show u=Value.ref a from r);rfl
 | ty n=>cases (show u=Value.type n from r);rfl
section
variable {P:Program} {w:World} {H H':Hp} {h h':Heap} {a C dx:Addr} {fs fs':List (Str×V)}
theorem lX (hok:HOk P w H h) (e:H a=some (.ins C dx fs)):∃ mA,ObjM h a dx C mA∧(∀ f,RelO (fs.lookup f) (mA f))∧PySem.Within mA (fs.map (·.1))∧fs.length≤1000∧H dx=some (.own a):=by
 obtain ⟨d,z,ne,ob,mA,n,r,q⟩:=(show ObjOk P w H h a (.ins C dx fs) from hok a _ e)
 exact ⟨mA,⟨ob,n,ne⟩,r,q,z,d⟩
end
structure Cls (K:PySem.W.Frag) (C:Addr):Prop where
 pg:PySem.W.plainGet K C Str.empty=true
 hd:PySem.W.hasDictIn K C=true
 po:PySem.W.plainOver K C=true
 sa:PySem.W.findIn K (.ref C) "__setattr__" = some (some (.builtin "object.__setattr__"))
theorem Cls.get {K:PySem.W.Frag} {C:Addr} (c:Cls K C) (f:Str):PySem.W.plainGet K C f=true:=c.pg
def NoAttr (K:PySem.W.Frag) (C:Addr) (f:Str):Prop:=PySem.W.findIn K (.ref C) f=some none
theorem NoAttr.taker {K:PySem.W.Frag} {C:Addr} {f:Str} (n:NoAttr K C f):PySem.W.takerIn K C f=some none:=by
 unfold PySem.W.takerIn
 rw [show PySem.W.findIn K (.ref C) f=some none from n]
 rfl
structure Con (K:PySem.W.Frag) (C:Addr) (f:Str) (v:V) (u:Value):Prop where
 at_:PySem.W.findIn K (.ref C) f=some (some u)
 rel:RelV v u
 get:PySem.W.specialIn K u "__get__" = some none
 cp:PySem.W.copiedNames.contains f=false
structure Meth (K:PySem.W.Frag) (C:Addr) (m:Str) (f:Addr):Prop where
 at_:PySem.W.findIn K (.ref C) m=some (some (.ref f))
 fn:PySem.W.isFn K (.ref f)=true
 kp:PySem.W.keepIn K (.ref f)=true
section
variable {X:Cx} {pins:List (Addr×Obj)} {σ:St} {H:Hp} {s:Shared} {a C dx:Addr} {fs:List (Str×V)} {f:Str} {v:V} {A:Around} {E:Value→Shared→Prop}
theorem jt {b:Bool} {Q:Value→Shared→Prop} (I:Inv X pins σ H s) (e:H a=some (.ins C dx fs)) (c:Cls X.K C) (n:NoAttr X.K C f) (l:fs.lookup f=some v)
  (h:∀ u s',Inv X pins σ H s'→RelV v u→Q u s'):wpAny (model X.prog X.w) A (getAttr (.ref a) f b) Q E s:=by
 obtain ⟨mA,O,r,_,_,_⟩:=lX I.hok e
 obtain ⟨u,hu,ru⟩:=RelO.some_of (v:=v) (o:=mA f) (by rw [← l];exact r f)
 exact uG I.kIn O (c.get f) c.hd n hu (pe ru) (h u _ (I.tok _) ru)
theorem ju {m:Str} {g:Addr} {pl:Sem Bool} {Q:Value×List Value→Shared→Prop} (I:Inv X pins σ H s) (e:H a=some (.ins C dx fs)) (c:Cls X.K C) (k:Meth X.K C m g) (l:fs.lookup m=none)
  (h:Q (.ref g,[.ref a]) s):wpAny (model X.prog X.w) A (getMethod (.ref a) m pl) Q E s:=by
 obtain ⟨mA,O,r,_,_,_⟩:=lX I.hok e
 have hn:mA m=none:=RelO.none_of (by rw [← l];exact r m)
 exact rX I.kIn O (c.get m) k.at_ k.fn hn h
theorem jv {y:V} {u:Value} {Q:Unit→Shared→Prop} (I:Inv X pins σ H s) (e:H a=some (.ins C dx fs)) (c:Cls X.K C) (n:NoAttr X.K C f) (hl:fs.length < 1000) (ry:RelV y u)
  (h:∀ s',Inv X pins σ (upd H a (.ins C dx (dI f y fs))) s'→Q () s'):wpAny (model X.prog X.w) A (setAttr (.ref a) f u) Q E s:=by
 obtain ⟨mA,O,r,wi,_,ho⟩:=lX I.hok e
 have hz:(fs.map (·.1)).length≤sizeLine:=by rw [List.length_map,sizeLine_eq];omega
 refine uH I.kIn O c.sa c.po n.taker c.hd wi hz fun h' O' sb=>h _ ?_
 have hd:∃ o,h'.get? dx=some o:=let ⟨o,_,_,e',_⟩:=O'.ns;⟨o,e'⟩
 refine I.write (x:=a) (e:=dx) (by rw [e];exact True.intro) (.inr ho) (fun b q hb z=>(sb.2 b hb).trans z) hd ?_
 refine ⟨by rw [aP O.ne];exact ho,?_,O.ne,O'.obj,_,O'.ns,fun g => ?_,fun g hg => ?_⟩
 ·have:=iw f y fs;omega
 ·show RelO ((dI f y fs).lookup g) (if g=f then some u else mA g)
  rw [ir]
  by_cases q:g=f
  ·rw [if_pos q,if_pos q];exact ry
  ·rw [if_neg q,if_neg q];exact r g
 ·by_cases q:g=f
  ·rw [q];exact (iu f y fs).1
  ·refine (iu f y fs).2 g (wi g fun z=>hg ?_)
   show (if g=f then some u else mA g)=none
   rw [if_neg q];exact z
theorem Inv.made (I:Inv X pins σ H s):Inv X pins σ (upd (upd H s.heap.objs.size (.own (s.heap.objs.size+1))) (s.heap.objs.size+1) (.ins C s.heap.objs.size []))
  {s with heap:=(s.heap.push PySem.W.emptyDict).push (PySem.W.instObj C s.heap.objs.size)}:=by
 have e1:(s.heap.push PySem.W.emptyDict).get? s.heap.objs.size=some PySem.W.emptyDict:=Heap.get?_push_size s.heap rfl
 have e2:((s.heap.push PySem.W.emptyDict).push (PySem.W.instObj C s.heap.objs.size)).get? (s.heap.objs.size+1)=some (PySem.W.instObj C s.heap.objs.size):=by
  have:=Heap.get?_push_size (s.heap.push PySem.W.emptyDict) (o:=PySem.W.instObj C s.heap.objs.size) rfl
  rwa [Heap.size_push] at this
 have e3:(s.heap.push PySem.W.emptyDict).Ns s.heap.objs.size (fun _=>none):=⟨PySem.W.emptyDict,#[],_,e1,rfl,(fun e he=>absurd he (by simp)),fun _=>rfl⟩
 have I1:=I.laid (a:=s.heap.objs.size) (o := .own (s.heap.objs.size+1)) (h':=s.heap.push PySem.W.emptyDict) (t':=s.toks) (fun b u q=>Heap.get?_push_of_some _ q) (Nat.le_refl _) ⟨_,e1⟩
 refine I1.laid (a:=s.heap.objs.size+1) (o := .ins C s.heap.objs.size []) (t':=s.toks) (fun b u q=>Heap.get?_push_of_some _ q) (Nat.le_of_eq (Heap.size_push _ _)) ?_
 have ne:s.heap.objs.size≠s.heap.objs.size+1:=Nat.ne_of_lt (Nat.lt_succ_self _)
 refine ⟨by rw [aP ne,bq],Nat.zero_le _,ne,e2,fun _=>none,(Heap.Ns1.of_empty e3).at fun o q=>Heap.get?_push_of_some _ q,fun _=>True.intro,fun y hy=>absurd rfl hy⟩
theorem uI {prog:Program} {w:World} {env:Env} {e:Expr} {f:Str} {pos:Pos} {s:Shared} {Q:Value→Shared→Prop} (hb:attributeBase e f env (eval e env)=eval e env)
  (h:wpAny (model prog w) A (eval e env) (fun o s₁=>wpAny (model prog w) A (getAttr o f true) Q E s₁) E s):wpAny (model prog w) A (eval (.Attribute e f pos) env) Q E s:=
 Attribute_any_ h (by rw [arm_eval_Attribute,hb])
end
def yK (K:PySem.W.Frag) (ta:TE) (f:Str):TE:=fun σ H Q=>ta σ H fun x H1=>∃ a C dx fs v,x = .ref a∧H1 a=some (.ins C dx fs)∧Cls K C∧NoAttr K C f∧fs.lookup f=some v∧Q v H1
def Cd (K:PySem.W.Frag) (ta:TE) (f:Str):TE:=fun σ H Q=>ta σ H fun x H1=>∃ a C dx fs v u,x = .ref a∧H1 a=some (.ins C dx fs)∧Cls K C∧Con K C f v u∧fs.lookup f=none∧Q v H1
def yX (K:PySem.W.Frag) (ta tv:TE) (f:Str):TS:=fun D σ H=>tv σ H fun y H1=>ta σ H1 fun x H2=>∃ a C dx fs,x = .ref a∧H2 a=some (.ins C dx fs)∧Cls K C∧NoAttr K C f∧fs.length < 1000 ∧
 D.nx σ (upd H2 a (.ins C dx (dI f y fs)))
def yY (X:Cx) (op:Operator) (rd:V→V→Hp→VK→Prop):Prop:=
 ∀ (pins:List (Addr×Obj)) (s:Shared) (σ:St) (H:Hp) (x y:V) (u v:Value) (Q:VK),Inv X pins σ H s→RelV x u→RelV y v→rd x y H Q→wpAny (model X.prog X.w) X.A (inplaceOp op u v) (EP X pins σ Q) X.xe s
def lY (K:PySem.W.Frag) (ta tv:TE) (rd:V→V→Hp→VK→Prop) (f:Str):TS:=fun D σ H=>ta σ H fun x H1=>∃ a C dx fs v,x = .ref a∧H1 a=some (.ins C dx fs)∧Cls K C∧NoAttr K C f∧fs.lookup f=some v ∧
 tv σ H1 fun y H2=>rd v y H2 fun z H3=>∃ dx' fs',H3 a=some (.ins C dx' fs')∧fs'.length < 1000∧D.nx σ (upd H3 a (.ins C dx' (dI f z fs')))
section
variable {X:Cx} {o e value:Expr} {f:Str} {pos pos' tpos:Pos} {ta tv:TE}
theorem wU (he:PE X e ta) (hb:attributeBase e f X.env (eval e X.env)=eval e X.env):PE X (.Attribute e f pos) (yK X.K ta f):=by
 intro pins s σ H Q I h
 refine uI hb (thn (he pins s σ H _ I h) fun u s1 ⟨x,H1,I1,rx,a,C,dx,fs,v,ex,ea,c,n,l,q⟩ => ?_)
 subst ex
 obtain rfl:u=Value.ref a:=rx
 exact jt I1 ea c n l fun u' s2 I2 ru=>⟨v,H1,I2,ru,q⟩
theorem wV (ha:PE X o ta) (hv:PE X value tv) (hs:swapsWith value (some (.Attribute o f pos')) pos.line X.env=pure false):PS X (.Assign [.Attribute o f pos'] value pos) (yX X.K ta tv f):=by
 intro pins s σ H D I h
 refine plainObj_wpAny_Assign_Attribute (thn (hv pins s σ H _ I h) fun u s1 ⟨y,H1,I1,ry,q⟩=>thn (ha pins s1 σ H1 _ I1 q) fun ov s2 ⟨x,H2,I2,rx,a,C,dx,fs,ex,ea,c,n,l,q2⟩ => ?_) hs
 subst ex
 obtain rfl:ov=Value.ref a:=rx
 exact jv I2 ea c n l ry fun s3 I3=>⟨σ,_,I3,q2⟩
theorem pf {op:Operator} {rd:V→V→Hp→VK→Prop} (ha:PE X o ta) (hv:PE X value tv) (hop:yY X op rd):PS X (.AugAssign (.Attribute o f tpos) op value pos) (lY X.K ta tv rd f):=by
 intro pins s σ H D I h
 refine wpAny_AugAssign_AttributeAny (thn (ha pins s σ H _ I h) fun ov s1 ⟨x,H1,I1,rx,a,C,dx,fs,v,ex,ea,c,n,l,q⟩ => ?_)
 subst ex
 obtain rfl:ov=Value.ref a:=rx
 refine jt I1 ea c n l fun u s2 I2 ru=>thn (hv pins s2 σ H1 _ I2 q) fun w3 s3 ⟨y,H2,I3,ry,q3⟩=>thn (hop pins s3 σ H2 v y u w3 _ I3 ru ry q3) fun w4 s4 ⟨z,H3,I4,rz,dx',fs',ea',l',q4⟩ => ?_
 exact jv I4 ea' c n l' rz fun s5 I5=>⟨σ,_,I5,q4⟩
def AC:V→V→Hp→VK→Prop:=fun x y H Q=>∃ i j,x = .int i∧y = .int j∧Q (.int (i+j)) H
def Ce:V→V→Hp→VK→Prop:=fun x y H Q=>∃ i j,x = .int i∧y = .int j∧Q (.int (i - j)) H
theorem mZ:yY X .Add AC:=by
 rintro pins s σ H x y u v Q I rx ry ⟨i,j,rfl,rfl,q⟩
 obtain ⟨t,rfl⟩:=(show ∃ t,u=Value.int i t from rx)
 obtain ⟨t',rfl⟩:=(show ∃ t',v=Value.int j t' from ry)
 exact PyProof.Rows.iadd_int ⟨.int (i+j),H,I.tok _,⟨_,rfl⟩,q⟩
end
section
variable {X:Cx} {pins:List (Addr×Obj)} {σ:St} {H:Hp} {s:Shared} {A:Around} {E:Value→Shared→Prop} {Q:Value→Shared→Prop} {c:Value} {b:Bool}
inductive TyOf (K:PySem.W.Frag) (H:Hp):V→Value→Prop where
 | non:TyOf K H .non (.type "NoneType")
 | bl (x:Bool):TyOf K H (.bl x) (.type "bool")
 | int (i:Int):TyOf K H (.int i) (.type "int")
 | str (x:Str):TyOf K H (.str x) (.type "str")
 | flt (x:UInt64):TyOf K H (.flt x) (.type "float")
 | lst {a:Addr} {xs:List V} (e:H a=some (.lst xs)):TyOf K H (.ref a) (.type "list")
 | frz {a:Addr} {o:Obj} {xs:List V} (e:H a=some (.frz o (.lst xs))):TyOf K H (.ref a) (.type "list")
 | tup {a:Addr} {xs:List V} (e:H a=some (.tup xs)):TyOf K H (.ref a) (.type "tuple")
 | dK {a:Addr} {kvs:List (Key×V)} (e:H a=some (.dK kvs)):TyOf K H (.ref a) (.type "dict")
 | dT {a:Addr} {kvs:List (List Key×V)} (e:H a=some (.dT kvs)):TyOf K H (.ref a) (.type "dict")
 | ins {a C dx:Addr} {fs:List (Str×V)} (e:H a=some (.ins C dx fs)) (cl:Cls K C) (ha:PySem.W.findIn K (.ref C) "__class__" = some (some (.builtin "object.__class__")))
   (hn:PySem.W.specialIn K (.builtin "object.__class__") "__get__" = some (some (.builtin "getset_descriptor.__get__"))) (htk:PySem.W.takesIn K (.builtin "object.__class__")=some true)
   (hm:PySem.W.mroIn K C (.type "object")=some true):TyOf K H (.ref a) (.ref C)
end
end L2
namespace L2
open PySem PySem.Spec PyProof.Rows
structure Room (k:Nat) (A:Around):Prop where
 hd:A.handled=none
 dp:A.depth+3 * k+5 < recursionLimit
 un:A.units+16 * k+200 < cLine
theorem Room.mono {j k:Nat} {A:Around} (r:Room k A) (h:j≤k):Room j A:=⟨r.hd,by have:=r.dp;omega,by have:=r.un;omega⟩
theorem Room.deeper {k:Nat} {A:Around} (r:Room (k+1) A) (env:Env):Room k (A.deeper env):=
 ⟨r.hd,by have:=r.dp;show A.depth+1+3 * k+5 < _;omega,by have:=r.un;show A.units+3+16 * k+200 < _;omega⟩
theorem nZ {A:Around} {C:Addr} {us:List Value} {kw:List (Str×Value)}:(A.under (.builtin "type.__call__" ⟨.ref C :: us,kw⟩)).depth=A.depth+1:=by
 first | rfl | simp [Around.under,Code.weight,Code.isCreation,Code.isGuard,Code.isCaller,Code.frames,Code.isFrame,guardIds]
theorem n6 {A:Around} {C:Addr} {us:List Value} {kw:List (Str×Value)}:(A.under (.builtin "type.__call__" ⟨.ref C :: us,kw⟩)).units=A.units+1:=by
 first | rfl | simp [Around.under,Code.cUnits,Code.frames,Code.isFrame]
theorem Room.make {k:Nat} {A:Around} (r:Room (k+1) A) (C:Addr) (us:List Value) (kw:List (Str×Value)):Room k (A.under (.builtin "type.__call__" ⟨.ref C :: us,kw⟩)):=
 ⟨r.hd,by have:=r.dp;rw [nZ];omega,by have:=r.un;rw [n6];omega⟩
theorem Room.depth {k:Nat} {A:Around} (r:Room k A):A.depth < recursionLimit:=by have:=r.dp;omega
theorem Room.units {k:Nat} {A:Around} (r:Room k A):A.units+64 < cLine:=by have:=r.un;omega
def tY:TA:=fun _ H Q=>Q [] H
def uJ (ta:TE) (tr:TA):TA:=fun σ H Q=>ta σ H fun x H1=>tr σ H1 fun xs H2=>Q (x :: xs) H2
section
variable {X:Cx} {e:Expr} {es:List Expr} {te:TE} {t:TA} {pos:Pos}
theorem ac:PA X [] tY:=fun _ _ _ _ H Q I h=>Calls.spliced_nil ⟨[],H,I,.nil,h⟩
theorem aa (ha:PE X e te) (hr:PA X es t) (hs:starEach (e :: es) X.env=(false,eval e X.env) :: starEach es X.env:=by rfl):PA X (e :: es) (uJ te t):=by
 intro pos pins s σ H Q I h
 rw [hs]
 show wpAny _ _ (spliced ((false,eval e X.env) :: backTo pos (starEach es X.env))) _ _ s
 refine Calls.spliced_cons (thn (ha pins s σ H _ I h) fun u s1 ⟨x,H1,I1,r1,q1⟩ => ?_)
 exact thn (hr pos pins s1 σ H1 _ I1 q1) fun us s2 ⟨xs,H2,I2,r2,q2⟩=>⟨x :: xs,H2,I2,.cons r1 r2,q2⟩
def yZ (t:TA):TE:=fun σ H Q=>t σ H fun xs H1=>xs.length≤sizeLine∧∀ p,H1 p=none→Q (.ref p) (upd H1 p (.tup xs))
def AD (t:TA):TE:=fun σ H Q=>t σ H fun xs H1=>xs.length≤sizeLine∧∀ p,H1 p=none→Q (.ref p) (upd H1 p (.lst xs))
theorem ce {x1} (h:PA X es t):PE X (.Tuple es x1 pos) (yZ t):=by
 intro pins s σ H Q I hq
 refine wpAny_Tuple_spliced (thn (h pos pins s σ H _ I hq) fun us s1 ⟨xs,H1,I1,r,z,q⟩=>⟨by rw [← r.length];exact z,?_⟩)
 have hf:H1 s1.heap.objs.size=none:=I1.hok.fresh (Nat.le_refl _)
 refine ⟨.ref s1.heap.objs.size,upd H1 s1.heap.objs.size (.tup xs),I1.laid (t':=s1.toks) (fun b u e=>Heap.get?_push_of_some _ e) (Nat.le_refl _) ?_,rfl,q _ hf⟩
 exact ⟨z,us,r,⟨_,Heap.get?_push_size _ rfl,rfl,_,rfl⟩⟩
theorem bn (h:PA X es t):PE X (.List es pos) (AD t):=by
 intro pins s σ H Q I hq
 refine wpAny_List_spliced (thn (h pos pins s σ H _ I hq) fun us s1 ⟨xs,H1,I1,r,z,q⟩=>⟨by rw [← r.length];exact z,?_⟩)
 have hf:H1 s1.heap.objs.size=none:=I1.hok.fresh (Nat.le_refl _)
 refine ⟨.ref s1.heap.objs.size,upd H1 s1.heap.objs.size (.lst xs),I1.laid (t':=s1.toks) (fun b u e=>Heap.get?_push_of_some _ e) (Nat.le_refl _) ?_,rfl,q _ hf⟩
 exact ⟨z,us,0,r,Heap.get?_push_size _ rfl⟩
end
abbrev Sp:=List V→Hp→VK→XK→Prop
abbrev CXT:=List Env→Hp→Shared→XK→Value→Shared→Prop
structure Env0 (P:Program) (w:World) (K:PySem.W.Frag) (mg:Str→Option Value) (base:Heap) (A:Around) (outer:List Env) (s:Shared) (H:Hp):Prop where
 frames:A.frames=some outer
 mod:Mod K mg base
 bs:∀ b o,base.get? b=some o→s.heap.get? b=some o∧H b=none
 bsz:base.objs.size≤s.heap.objs.size
 funs:s.heap.FunFrames base outer
 frf:∀ b∈frs outer,H b=none
 hok:HOk P w H s.heap
 bare:AllBare s.gens
def CE (outer:List Env) (P:Program) (w:World) (H:Hp) (s:Shared) (Q:VK) (u:Value) (s':Shared):Prop:=
 ∃ v H',s'.os=s.os∧AllBare s'.gens∧Un (frs outer) [] H H' s.heap s'.heap∧HOk P w H' s'.heap∧RelV v u∧Q v H'
def CR (CX:CXT) (outer:List Env) (P:Program) (w:World) (H:Hp) (s:Shared) (Q:VK) (E:XK) (r:Result) (s':Shared):Prop:=
 match r with
 | .ok (.ret u)=>CE outer P w H s Q u s'
 | .ok _=>False
 | .error e=>CX outer H s E e s'
structure FnOk (P:Program) (w:World) (K:PySem.W.Frag) (mg:Str→Option Value) (base:Heap) (CX:CXT) (k:Nat) (f:Addr) (fd:FuncData) (ps:List Str) (sp:Sp):Prop where
 len:∀ vs H Q E,sp vs H Q E→vs.length=ps.length
 run:∀ (A:Around) (outer:List Env) (s:Shared) (H:Hp) (args:Args) (us:List Value) (vs:List V) (Q:VK) (E:XK),Room k A→Env0 P w K mg base A outer s H→BindsTo s fd args (ps.zip us)→Vals vs us→sp vs H Q E →
  codeAny (model P w) A (.call (.ref f) args) (CR CX outer P w H s Q E) s
theorem FnOk.imp {P:Program} {w:World} {K:PySem.W.Frag} {mg:Str→Option Value} {base:Heap} {CX:CXT} {k:Nat} {f:Addr} {fd:FuncData} {ps:List Str} {sp sp':Sp} (F:FnOk P w K mg base CX k f fd ps sp)
  (h:∀ vs H Q E,sp' vs H Q E→sp vs H Q E):FnOk P w K mg base CX k f fd ps sp':=
 ⟨fun vs H Q E q=>F.len vs H Q E (h _ _ _ _ q),fun A outer s H args us vs Q E hr he hb hv hs=>F.run A outer s H args us vs Q E hr he hb hv (h _ _ _ _ hs)⟩
theorem Env0.make {P:Program} {w:World} {K:PySem.W.Frag} {mg:Str→Option Value} {base:Heap} {A:Around} {outer:List Env} {s:Shared} {H:Hp} (e:Env0 P w K mg base A outer s H) (C:Addr) (us:List Value) (kw:List (Str×Value)) :
  Env0 P w K mg base (A.under (.builtin "type.__call__" ⟨.ref C :: us,kw⟩)) outer s H:=⟨by first | exact e.frames | (simpa [Around.under,Code.envs,Code.isFrame,pushEnvs] using e.frames),e.mod,e.bs,e.bsz,e.funs,e.frf,e.hok,e.bare⟩
section
variable {X:Cx} {pins:List (Addr×Obj)} {σ:St} {H:Hp} {s s':Shared}
theorem Inv.env0 (I:Inv X pins σ H s):Env0 X.prog X.w X.K X.mg X.base X.A X.stack s H:=
 ⟨I.ok.frames,I.ok.mod,I.bs,Nat.le_trans I.ok.bsz I.sz,I.stack,I.stkFree,I.hok,I.bare⟩
theorem Inv.after {Q:VK} {u:Value} (I:Inv X pins σ H s) (h:CE X.stack X.prog X.w H s Q u s'):EP X pins σ Q u s':=by
 obtain ⟨v,H',os,bare,un,hok,r,q⟩:=h
 obtain ⟨hh,g,d,t,os'⟩:=s'
 obtain rfl:os'=s.os:=os
 exact ⟨v,H',I.call (h':=hh) (g':=g) (d':=d) (t':=t) (ch:=[]) un hok bare (fun b z=>absurd z (by simp)),r,q⟩
end
def pi (sp:Sp) (dvs:List V) (E:XK) (t:TA):TE:=fun σ H Q=>t σ H fun vs H1=>sp (vs++dvs) H1 Q E
def kq (C:Addr) (m:Str) (sp:Sp) (dvs:List V) (E:XK) (ta:TE) (t:TA):TE:=fun σ H Q=>ta σ H fun x H1=>∃ a dx fs,x = .ref a∧H1 a=some (.ins C dx fs)∧fs.lookup m=none ∧
 t σ H1 fun vs H2=>sp (x :: (vs++dvs)) H2 Q E
def n8 (C:Addr) (sp:Sp) (dvs:List V) (E:XK) (t:TA):TE:=fun σ H Q=>t σ H fun vs H1=>∀ x dx,H1 x=none→H1 dx=none→dx≠x →
 sp (.ref x :: (vs++dvs)) (upd (upd H1 dx (.own x)) x (.ins C dx [])) (fun v H2=>v = .non∧Q (.ref x) H2) E
def Binds (K:PySem.W.Frag) (fd:FuncData) (ps:List Str) (ds:List Value):Prop:=
 ∀ (s:Shared) (us:List Value),K.In s.heap→(us++ds).length=ps.length→BindsTo s fd ⟨us,[]⟩ (ps.zip (us++ds))
theorem Binds.all {K:PySem.W.Frag} {fd:FuncData} {ps:List Str} (h:∀ us:List Value,us.length=ps.length→bindArgs fd ⟨us,[]⟩=pure (ps.zip us)):Binds K fd ps []:=fun s us _ hl=>by
 rw [List.append_nil] at hl ⊢
 exact .of_eq (h us hl)
def cf (CX:CXT) (X:Cx) (E:XK):Prop:=∀ (pins:List (Addr×Obj)) (σ:St) (H:Hp) (s:Shared) (e:Value) (s':Shared),Inv X pins σ H s→CX X.stack H s E e s'→X.xe e s'
section
variable {X:Cx} {CX:CXT} {k:Nat} {f C:Addr} {fd:FuncData} {ps:List Str} {sp:Sp} {dvs:List V} {ds:List Value} {E:XK} {x m:Str} {p pos apos:Pos} {e o:Expr} {es:List Expr} {ta:TE} {t:TA}
theorem pj {pins:List (Addr×Obj)} {σ:St} {H:Hp} {s:Shared} {Q:VK} {us:List Value} {vs:List V} (F:FnOk X.prog X.w X.K X.mg X.base CX k f fd ps sp) (hr:Room k X.A) (hb:Binds X.K fd ps ds) (hd:Vals dvs ds) (hx:cf CX X E)
  (I:Inv X pins σ H s) (r:Vals vs us) (h:sp (vs++dvs) H Q E):wpAny (model X.prog X.w) X.A (call (.ref f) us) (EP X pins σ Q) X.xe s:=by
 have r2:Vals (vs++dvs) (us++ds):=r.append hd
 have hl:(us++ds).length=ps.length:=by rw [← r2.length];exact F.len _ _ _ _ h
 refine wpAny_call (codeAny_mono (F.run X.A X.stack s H ⟨us,[]⟩ (us++ds) (vs++dvs) Q E hr I.env0 (hb s us I.kIn hl) r2 h) fun r s' hq => ?_)
 cases r with
 | error e=>exact hx pins σ H s e s' I hq
 | ok fl=>
  cases fl with
  | ret u=>exact I.after hq
  | next=>exact False.elim hq
  | brk=>exact False.elim hq
  | cont=>exact False.elim hq
theorem uK (F:FnOk X.prog X.w X.K X.mg X.base CX k f fd ps sp) (hr:Room k X.A) (hg:Gl X x) (hm:X.mg x=some (.ref f)) (hk:PySem.W.keepIn X.K (.ref f)=true) (hb:Binds X.K fd ps ds) (hd:Vals dvs ds) (hx:cf CX X E)
  (ha:PA X (e :: es) t) (hdb:(x == ("__debug__" : Str))=false:=by decide) (he:starEach (e :: es) X.env=(false,eval e X.env) :: starEach es X.env:=by rfl) (hpl:(backTo pos (starEach es X.env)).any (·.1)=false:=by rfl) :
  PE X (.Call (.Name x p) (e :: es) [] pos) (pi sp dvs E t):=by
 intro pins s σ H Q I h
 refine wpAny_Call_Name_kw (eI I hg hm ?_ hdb)
 refine PySem.W.callWith_K (h₀:=X.base) I.ok.mod.kin hk (thn (ha pos pins s σ H _ I h) fun us s1 ⟨vs,H1,I1,r,q⟩=>⟨I1.kIn,?_⟩) he hpl
 exact pj F hr hb hd hx I1 r q
theorem uL {pl:Sem Bool} (he:PE X o ta) (c:Cls X.K C) (hm:Meth X.K C m f) (F:FnOk X.prog X.w X.K X.mg X.base CX k f fd ps sp) (hr:Room k X.A) (hb:Binds X.K fd ps ds) (hd:Vals dvs ds) (hx:cf CX X E) (ha:PA X (e :: es) t)
  (hst:starEach (e :: es) X.env=(false,eval e X.env) :: starEach es X.env:=by rfl) (hpl:(backTo pos (starEach es X.env)).any (·.1)=false:=by rfl)
  (ht:eval (.Call (.Attribute o m apos) (e :: es) [] pos) X.env=(do
   let ov ← eval o X.env
   standAt apos.atName
   let (f,first) ← holding [ov] (getMethod ov m pl)
   callWith pos f first (backTo pos (starEach (e :: es) X.env)) (backToKw pos (keywordEach [] X.env))):=by rfl) :
  PE X (.Call (.Attribute o m apos) (e :: es) [] pos) (kq C m sp dvs E ta t):=by
 intro pins s σ H Q I h
 refine PySem.W.methodCall_KW (pl:=pl) (thn (he pins s σ H _ I h) fun u s1 ⟨x,H1,I1,rx,a,dx,fs,ex,ea,l,q⟩ => ?_) ht
 subst ex
 obtain rfl:u=Value.ref a:=rx
 refine ju I1 ea c hm l ?_
 refine PySem.W.callWith_K (first:=[.ref a]) (h₀:=X.base) I.ok.mod.kin hm.kp (thn (ha pos pins s1 σ H1 _ I1 q) fun us s2 ⟨vs,H2,I2,r,q2⟩=>⟨I2.kIn,?_⟩) hst hpl
 exact pj (us := .ref a :: us) (vs := .ref a :: vs) F hr hb hd hx I2 (.cons rfl r) q2
theorem rZ {pl:Sem Bool} (he:PE X o ta) (c:Cls X.K C) (hm:Meth X.K C m f) (F:FnOk X.prog X.w X.K X.mg X.base CX k f fd ps sp) (hr:Room k X.A) (hb:Binds X.K fd ps ds) (hd:Vals dvs ds) (hx:cf CX X E)
  (ht:eval (.Call (.Attribute o m apos) [] [] pos) X.env=(do
   let ov ← eval o X.env
   standAt apos.atName
   let (f,first) ← holding [ov] (getMethod ov m pl)
   callWith pos f first (backTo pos (starEach [] X.env)) (backToKw pos (keywordEach [] X.env))):=by rfl) :
  PE X (.Call (.Attribute o m apos) [] [] pos) (kq C m sp dvs E ta tY):=by
 intro pins s σ H Q I h
 refine PySem.W.methodCall_KW (pl:=pl) (thn (he pins s σ H _ I h) fun u s1 ⟨x,H1,I1,rx,a,dx,fs,ex,ea,l,q⟩ => ?_) ht
 subst ex
 obtain rfl:u=Value.ref a:=rx
 refine ju I1 ea c hm l ?_
 exact PySem.W.callWith_K0 (first:=[.ref a]) I1.kIn hm.kp (pj (us:=[.ref a]) (vs:=[.ref a]) F hr hb hd hx I1 (.cons rfl .nil) q)
structure Mk (K:PySem.W.Frag) (C f:Addr):Prop where
 makes:PySem.W.makesIn K C=true
 init:PySem.W.findIn K (.ref C) "__init__" = some (some (.ref f))
 fn:PySem.W.isFn K (.ref f)=true
 kp:PySem.W.keepIn K (.ref C)=true
theorem m7 {pins:List (Addr×Obj)} {σ:St} {H:Hp} {s:Shared} {Q:VK} {us:List Value} {vs:List V} (M:Mk X.K C f) (F:FnOk X.prog X.w X.K X.mg X.base CX k f fd ps sp) (hr:Room (k+1) X.A) (hb:Binds X.K fd ps ds) (hd:Vals dvs ds)
  (hx:cf CX X E) (I:Inv X pins σ H s) (r:Vals vs us)
  (h:∀ x dx,H x=none→H dx=none→dx≠x→sp (.ref x :: (vs++dvs)) (upd (upd H dx (.own x)) x (.ins C dx [])) (fun v H2=>v = .non∧Q (.ref x) H2) E) :
  wpAny (model X.prog X.w) X.A (call (.ref C) us) (EP X pins σ Q) X.xe s:=by
 have hq:=h (s.heap.objs.size+1) s.heap.objs.size (I.hok.fresh (Nat.le_succ _)) (I.hok.fresh (Nat.le_refl _)) (Nat.ne_of_lt (Nat.lt_succ_self _))
 have I2:=Inv.made (C:=C) I
 have r2:Vals (V.ref (s.heap.objs.size+1) :: (vs++dvs)) (Value.ref (s.heap.objs.size+1) :: (us++ds)) := .cons rfl (r.append hd)
 have hl:(Value.ref (s.heap.objs.size+1) :: us++ds).length=ps.length:=by
  have e:=r2.length
  rw [F.len _ _ _ _ hq] at e
  exact e.symm
 refine wpAny_call (rY (f:=f) I.kIn M.makes M.init (beq_iff_eq.mp M.fn) (codeAny_mono (F.run _ X.stack _ _ ⟨Value.ref (s.heap.objs.size+1) :: us,[]⟩ (Value.ref (s.heap.objs.size+1) :: (us++ds)) _ _ E (hr.make C us [])
  (I2.env0.make C us []) (hb _ (Value.ref (s.heap.objs.size+1) :: us) I2.kIn hl) r2 hq) fun r s' hq' => ?_))
 cases r with
 | error e=>exact hx pins σ _ _ e s' I2 hq'
 | ok fl=>
  cases fl with
  | ret u=>
   obtain ⟨v,H',I3,rv,ev,q3⟩:=I2.after hq'
   subst ev
   exact ⟨rv,⟨V.ref (s.heap.objs.size+1),H',I3,rfl,q3⟩⟩
  | next=>exact False.elim hq'
  | brk=>exact False.elim hq'
  | cont=>exact False.elim hq'
theorem uM (M:Mk X.K C f) (F:FnOk X.prog X.w X.K X.mg X.base CX k f fd ps sp) (hr:Room (k+1) X.A) (hg:Gl X x) (hm:X.mg x=some (.ref C)) (hb:Binds X.K fd ps ds) (hd:Vals dvs ds) (hx:cf CX X E)
  (ha:PA X (e :: es) t) (hdb:(x == ("__debug__" : Str))=false:=by decide) (he:starEach (e :: es) X.env=(false,eval e X.env) :: starEach es X.env:=by rfl) (hpl:(backTo pos (starEach es X.env)).any (·.1)=false:=by rfl) :
  PE X (.Call (.Name x p) (e :: es) [] pos) (n8 C sp dvs E t):=by
 intro pins s σ H Q I h
 refine wpAny_Call_Name_kw (eI I hg hm ?_ hdb)
 refine PySem.W.callWith_K (h₀:=X.base) I.ok.mod.kin M.kp (thn (ha pos pins s σ H _ I h) fun us s1 ⟨vs,H1,I1,r,q⟩=>⟨I1.kIn,?_⟩) he hpl
 exact m7 M F hr hb hd hx I1 r q
theorem r6 (M:Mk X.K C f) (F:FnOk X.prog X.w X.K X.mg X.base CX k f fd ps sp) (hr:Room (k+1) X.A) (hg:Gl X x) (hm:X.mg x=some (.ref C)) (hb:Binds X.K fd ps ds) (hd:Vals dvs ds) (hx:cf CX X E)
  (hdb:(x == ("__debug__" : Str))=false:=by decide):PE X (.Call (.Name x p) [] [] pos) (n8 C sp dvs E tY):=by
 intro pins s σ H Q I h
 refine wpAny_Call_Name_kw (eI I hg hm ?_ hdb)
 exact PySem.W.callWith_K0 I.kIn M.kp (m7 (us:=[]) M F hr hb hd hx I .nil h)
end
def PK (X:Cx) (kws:List Keyword) (t:TA):Prop:=
 ∀ (pos:Pos) (pins:List (Addr×Obj)) (s:Shared) (σ:St) (H:Hp) (Q:List V→Hp→Prop),Inv X pins σ H s→t σ H Q→wpAny (model X.prog X.w) X.A (evalAll ((backToKw pos (keywordEach kws X.env)).map (·.2))) (AP X pins σ Q) X.xe s
section
variable {X:Cx} {CX:CXT} {k:Nat} {f C:Addr} {fd:FuncData} {ps ks:List Str} {sp:Sp} {E:XK} {x m:Str} {p pos apos kpos:Pos} {e o:Expr} {es:List Expr} {kws:List Keyword} {te ta:TE} {t tk:TA} {nm:Option Str}
structure KBinds (K:PySem.W.Frag) (fd:FuncData) (ps ks:List Str) (g:List Value→List Value→List Value) (gV:List V→List V→List V):Prop where
 to:∀ (s:Shared) (us ws:List Value),K.In s.heap→(g us ws).length=ps.length→BindsTo s fd ⟨us,ks.zip ws⟩ (ps.zip (g us ws))
 rel:∀ {vs:List V} {us:List Value} {zs:List V} {ws:List Value},Vals vs us→Vals zs ws→Vals (gV vs zs) (g us ws)
def AE (sp:Sp) (gV:List V→List V→List V) (E:XK) (t tk:TA):TE:=fun σ H Q=>t σ H fun vs H1=>tk σ H1 fun zs H2=>sp (gV vs zs) H2 Q E
variable {g:List Value→List Value→List Value} {gV:List V→List V→List V}
end
structure FnScope (N P:List Str) (sc:Scope):Prop where
 kind:sc.kind = .function
 co:sc.isCoroutine=false
 gen:sc.isGenerator=false
 nd:N.Nodup
 pre:N.take P.length=P
 par:∀ x∈P,sc.names.lookup x=some .local∨sc.names.lookup x=some .cell
 nofree:∀ y∈sc.names,y.2 ≠ .free
theorem kr {kindOf:Str→Option NameKind} {x:Str}:∀ {binds:List (Str×Value)} {m:Str→Option Value},(∀ v,(x,v)∉binds)→bindL kindOf binds m x=m x
 | [],_,_=>rfl
 | (n,v) :: r,m,h=>by
  unfold bindL
  rw [kr fun w hw=>h w (List.mem_cons_of_mem _ hw)]
  split
  ·have:x≠n:=by rintro rfl;exact h v List.mem_cons_self
   simp [this]
  ·rfl
theorem ku {kindOf:Str→Option NameKind} {x:Str}:∀ {binds:List (Str×Value)} {m:Str→Option Value},(∀ v,(x,v)∉binds)→bindC kindOf binds m x=m x
 | [],_,_=>rfl
 | (n,v) :: r,m,h=>by
  unfold bindC
  rw [ku fun w hw=>h w (List.mem_cons_of_mem _ hw)]
  split
  ·rfl
  ·have:x≠n:=by rintro rfl;exact h v List.mem_cons_self
   simp [this]
theorem kx {kindOf:Str→Option NameKind} {x:Str} {v:Value}:∀ {P:List Str} {vs:List Value} {i:Nat} {m:Str→Option Value},P.Nodup→P[i]? = some x→vs[i]? = some v→kindOf x=some .local →
  bindL kindOf (P.zip vs) m x=some v
 | [],_,_,_,_,h,_,_=>by simp at h
 | _ :: _,[],_,_,_,_,h,_=>by simp at h
 | p :: P,w :: vs,0,m,nd,h1,h2,hk=>by
  simp at h1 h2;subst h1;subst h2
  show bindL kindOf ((p,w) :: P.zip vs) m p=_
  unfold bindL
  rw [kr fun v hv=>(List.nodup_cons.mp nd).1 (List.of_mem_zip hv).1,if_pos hk]
  simp
 | p :: P,w :: vs,i+1,m,nd,h1,h2,hk=>by
  show bindL kindOf ((p,w) :: P.zip vs) m x=_
  unfold bindL
  exact kx (i:=i) (List.nodup_cons.mp nd).2 (by simpa using h1) (by simpa using h2) hk
theorem ky {kindOf:Str→Option NameKind} {x:Str} {v:Value}:∀ {P:List Str} {vs:List Value} {i:Nat} {m:Str→Option Value},P.Nodup→P[i]? = some x→vs[i]? = some v→kindOf x≠some .local →
  bindC kindOf (P.zip vs) m x=some v
 | [],_,_,_,_,h,_,_=>by simp at h
 | _ :: _,[],_,_,_,_,h,_=>by simp at h
 | p :: P,w :: vs,0,m,nd,h1,h2,hk=>by
  simp at h1 h2;subst h1;subst h2
  show bindC kindOf ((p,w) :: P.zip vs) m p=_
  unfold bindC
  rw [ku fun v hv=>(List.nodup_cons.mp nd).1 (List.of_mem_zip hv).1,if_neg hk]
  simp
 | p :: P,w :: vs,i+1,m,nd,h1,h2,hk=>by
  show bindC kindOf ((p,w) :: P.zip vs) m x=_
  unfold bindC
  exact ky (i:=i) (List.nodup_cons.mp nd).2 (by simpa using h1) (by simpa using h2) hk
def start (N:List Str) (vs:List V):St:=vs.map some++List.replicate (N.length - vs.length) none
def bt (CX:CXT) (P:Program) (w:World) (K:PySem.W.Frag) (mg:Str→Option Value) (base:Heap) (N:List Str) (qual:Str) (scope:Scope) (f:Addr) (cd:Value) (A:Around) (outer:List Env) (s:Shared) (H:Hp) (E:XK):Cx where
 prog:=P
 w:=w
 K:=K
 mg:=mg
 base:=base
 A:=A.deeper (envOfC qual scope s.heap.objs.size f cd)
 N:=N
 s₀:=s
 H₀:=H
 env:=envOfC qual scope s.heap.objs.size f cd
 outer:=outer
 stack:=envOfC qual scope s.heap.objs.size f cd :: outer
 ex:=[]
 calm:=true
 fn:=fun _=>true
 pn:=[]
 xe:=fun e s'=>wpAny (model P w) (A.deeper (envOfC qual scope s.heap.objs.size f cd)) (leaving (envOfC qual scope s.heap.objs.size f cd) e) (fun _ s''=>CX outer H s E e s'') (fun e' s''=>CX outer H s E e' s'') s'
theorem m8 {sc:Scope} {n:Nat} {x:Str} (h:sc.names.lookup x=some .cell):∃ c,(cellsFrom n sc.names []).lookup x=some c:=by
 have q:=PySem.W.cellsFrom_some sc.names n [] (.inl h)
 exact Option.isSome_iff_exists.mp q
theorem pk {CX:CXT} {P:Program} {w:World} {K:PySem.W.Frag} {mg:Str→Option Value} {base:Heap} {N ps:List Str} {qual:Str} {scope:Scope} {f:Addr} {cd:Value} {A:Around} {outer:List Env} {s s1:Shared} {H:Hp} {E:XK} {us:List Value} {vs:List V}
  (S:FnScope N ps scope) (hd:A.handled=none) (e0:Env0 P w K mg base A outer s H) (hl:vs.length=ps.length) (r:Vals vs us)
  (x:InCallC s s.heap.objs.size (bindL (envOfC qual scope s.heap.objs.size f cd).kindOf (ps.zip us) fun _=>none) (cellsFrom (s.heap.objs.size+1) scope.names []) (bindC (envOfC qual scope s.heap.objs.size f cd).kindOf (ps.zip us) fun _=>none) s1) :
  Inv (bt CX P w K mg base N qual scope f cd A outer s H E) [] (start N vs) H s1:=by
 have hpl:ps.length≤N.length:=by have:=congrArg List.length S.pre;rw [List.length_take] at this;omega
 obtain ⟨h1,tk,rfl,hk⟩:=x.done
 have noA:∀ b:Addr,b∉(bt CX P w K mg base N qual scope f cd A outer s H E).ex:=fun b z=>absurd (show b∈([]:List Addr) from z) (by simp)
 refine ⟨⟨e0.mod,S.kind,rfl,rfl,Nat.le_refl _,fun y z c h1 h2 => ?_,fun y hy => ?_,fun y c _ h => ?_,fun _=>hd,Around.frames_deeper e0.frames,.inr ⟨rfl,rfl⟩,fun b z=>absurd z (noA b),e0.bs,e0.bsz,fun b _ _=>noA b,fun b z=>absurd z (noA b),e0.funs,e0.frf⟩,
  rfl,e0.bare,Un.kept hk,⟨_,x.toInCall.ns,fun i y v h1 h2 h3 => ?_⟩,fun y c h=>⟨_,x.cell y c h⟩,e0.hok.fresh (Nat.le_refl _),fun y c h => ?_,fun p hp=>absurd (show p∈([]:List (Addr×Obj)) from hp) (by simp),e0.hok.kept hk,?_⟩
 ·exact name_of_addr x.apart (PySem.mem_of_lookup h1) (PySem.mem_of_lookup h2)
 ·have hy:scope.names.lookup y=some .cell∨scope.names.lookup y=some .free:=hy
  rcases hy with hy | hy
  ·exact m8 hy
  ·exact absurd rfl (S.nofree _ (PySem.mem_of_lookup hy))
 ·exact Nat.le_of_lt (x.above y c (PySem.mem_of_lookup h))
 ·have hi:i < vs.length:=by
   unfold start at h2
   by_cases hi:i < vs.length
   ·exact hi
   ·rw [List.getElem?_append_right (by simpa using hi)] at h2
    rw [List.getElem?_replicate] at h2
    split at h2 <;> cases h2
  have ha:vs[i]? = some v:=by
   unfold start at h2
   rw [List.getElem?_append_left (by simpa using hi),List.getElem?_map] at h2
   cases e:vs[i]? with
   | none=>rw [e] at h2;cases h2
   | some a=>rw [e] at h2;cases h2;rfl
  obtain ⟨u,hu,rv⟩:=r.get ha
  have hp:ps[i]? = some y:=by
   rw [← S.pre,List.getElem?_take_of_lt (by omega)];exact h1
  have ndP:ps.Nodup:=by rw [← S.pre];exact S.nd.sublist (List.take_sublist _ _)
  refine ⟨u,rv,?_⟩
  rcases S.par y (List.mem_of_getElem? hp) with k | k
  ·exact .inl ⟨k,kx ndP hp hu k⟩
  ·obtain ⟨c,e⟩:=m8 (n:=s.heap.objs.size+1) k
   refine .inr ⟨.inl k,c,e,?_⟩
   have q:=x.cell y c e
   rw [ky ndP hp hu (by show scope.names.lookup y≠_;rw [k];decide)] at q
   exact q
 ·exact e0.hok.fresh (Nat.le_of_lt (x.above y c (PySem.mem_of_lookup h)))
 ·unfold start
  show _=N.length
  rw [List.length_append,List.length_map,List.length_replicate]
  omega
theorem wW {CX:CXT} {P:Program} {w:World} {K:PySem.W.Frag} {mg:Str→Option Value} {base:Heap} {k:Nat} {f:Addr} {name qual:Str} {params:Arguments} {body:List Stmt} {scope:Scope} {dV kV doc pm cdv ct oc:Value} {an od:Option Addr}
  {osl:Array (Option Value)} {N ps:List Str} {sp:Sp} (lk:K.lookup f=some ⟨oc,od,.func (PySem.W.fnOf name qual params body scope dV kV doc pm an cdv ct),osl⟩) (hcd:PySem.W.codeIn K cdv qual=true) (S:FnScope N ps scope)
  (len:∀ vs H Q E,sp vs H Q E→vs.length=ps.length)
  (hbody:∀ (A:Around) (outer:List Env) (s:Shared) (H:Hp) (vs:List V) (Q:VK) (E:XK),Room k (A.deeper (envOfC qual scope s.heap.objs.size f cdv))→sp vs H Q E →
   ∃ t,PSs (bt CX P w K mg base N qual scope f cdv A outer s H E) body t∧t {nx:=fun _ H'=>Q .non H',rt:=Q} (start N vs) H) :
  FnOk P w K mg base CX (k+1) f (PySem.W.fnOf name qual params body scope dV kV doc pm an cdv ct) ps sp:=by
 refine ⟨len,fun A outer s H args us vs Q E hr e0 hb r hsp => ?_⟩
 have hl:=len _ _ _ _ hsp
 have KX:K.In s.heap:=e0.mod.kin.keeps fun b o e=>(e0.bs b o e).1
 have lim:s.heap.NoLimit:=e0.mod.nolimit.keeps fun b o e=>(e0.bs b o e).1
 have hkind:∀ y∈ps.zip us,scope.names.lookup y.1=some .local∨(scope.names.lookup y.1=some .cell∧((cellsFrom (s.heap.objs.size+1) scope.names []).lookup y.1).isSome=true):=fun ⟨n,v⟩ hy=>by
  rcases S.par n (List.of_mem_zip hy).1 with q | q
  ·exact .inl q
  ·exact .inr ⟨q,PySem.W.cellsFrom_some _ _ _ (.inl q)⟩
 refine codeAny_call_function hr.depth (KX _ _ lk) rfl S.co S.gen rfl (PySem.W.codeRec_of KX hcd) (hb _ _ _ _ ?_)
 refine wpAny_newFunctionEnv_cells S.kind hkind fun env he s1 x => ?_
 subst he
 refine ⟨lim.keeps x.toInCall.keep,codeAny_func ?_⟩
 obtain ⟨t,ht,hq⟩:=hbody A outer s H vs Q E (hr.deeper _) hsp
 have I:Inv (bt CX P w K mg base N qual scope f cdv A outer s H E) [] (start N vs) H s1:=pk S hr.hd e0 hl r x
 refine wpAny_mono (ht [] s1 (start N vs) H _ I hq) (fun fl s' hs => ?_) fun e s' hs=>hs
 have fin:∀ {σ':St} {H':Hp} {v:V} {u:Value},Inv (bt CX P w K mg base N qual scope f cdv A outer s H E) [] σ' H' s'→RelV v u→Q v H'→CE outer P w H s Q u s':=
  fun {σ' H' v u} J rv q=>⟨v,H',J.os,J.bare,J.base,J.hok,rv,q⟩
 cases fl with
 | ret u=>
  obtain ⟨v,σ',H',J,rv,q⟩:=hs
  exact fin J rv q
 | next=>
  obtain ⟨σ',H',J,q⟩:=hs
  exact fin (v:=V.non) (u:=Value.none) J rfl q
 | brk=>
  obtain ⟨_,_,_,q⟩:=hs
  exact False.elim q
 | cont=>
  obtain ⟨_,_,_,q⟩:=hs
  exact False.elim q
end L2
namespace L2
open PySem PySem.Spec PyProof.Rows
section
variable {X:Cx} {x:Str} {p pos:Pos} {e:Expr} {es:List Expr} {t:TA} {id T:String} {r:List V→Hp→VK→Prop}
def tCB (r:List V→Hp→VK→Prop) (t:TA):TE:=fun σ H Q=>t σ H fun vs H1=>r vs H1 Q
theorem aI (hc:fu X (.builtin id) r) (hg:Gl X x) (hm:X.mg x=none) (hv:bootBuiltins x=some (.builtin id)) (ha:PA X (e :: es) t) (hn:x ≠ "__name__" := by decide) (hdb:(x == ("__debug__" : Str))=false:=by decide)
  (he:starEach (e :: es) X.env=(false,eval e X.env) :: starEach es X.env:=by rfl) (hpl:(backTo pos (starEach es X.env)).any (·.1)=false:=by rfl):PE X (.Call (.Name x p) (e :: es) [] pos) (tCB r t):=by
 intro pins s σ H Q I h
 refine wpAny_Call_Name_kw (kl I hg hm hv ?_ hn hdb)
 exact PyProof.Rows.callWith_builtin1 (thn (ha pos pins s σ H _ I h) fun us s1 ⟨vs,H1,I1,r1,q1⟩=>hc pins s1 σ H1 vs us Q I1 r1 q1) he hpl
theorem ix (hc:fu X (.type T) r) (hg:Gl X x) (hm:X.mg x=none) (hv:bootBuiltins x=some (.type T)) (ha:PA X (e :: es) t) (hn:x ≠ "__name__" := by decide) (hdb:(x == ("__debug__" : Str))=false:=by decide)
  (he:starEach (e :: es) X.env=(false,eval e X.env) :: starEach es X.env:=by rfl) (hpl:(backTo pos (starEach es X.env)).any (·.1)=false:=by rfl):PE X (.Call (.Name x p) (e :: es) [] pos) (tCB r t):=by
 intro pins s σ H Q I h
 refine wpAny_Call_Name_kw (kl I hg hm hv ?_ hn hdb)
 exact PyProof.Rows.callWith_type1 (thn (ha pos pins s σ H _ I h) fun us s1 ⟨vs,H1,I1,r1,q1⟩=>hc pins s1 σ H1 vs us Q I1 r1 q1) he hpl
end
end L2
namespace HT
open PySem PyProof.Rows
def lexLt:List Int→List Int→Bool
 | [],[]=>false
 | [],_ :: _=>true
 | _ :: _,[]=>false
 | x :: xs,y :: ys=>if x=y then lexLt xs ys else decide (x < y)
section
open PySem.SeqAt
open PySem.AutoSeq1 (wpAny_loadPart')
open PySem.MeetsSeq PySem.MeetsSeq2 PySem.MeetsSeq3
end
section
variable {prog:Program} {w:World} {A:Around} {E:Value→Shared→Prop} {s:Shared}
def sIx (n d:Nat):Option Int→Nat
 | none=>d
 | some v=>if v < 0 then (v+(n:Int)).toNat else min v.toNat n
theorem sIx_none (n d:Nat):sIx n d none=d:=rfl
theorem sIx_nat (n d k:Nat):sIx n d (some (k:Int))=min k n:=by
 show (if (k:Int) < 0 then ((k:Int)+(n:Int)).toNat else min (k:Int).toNat n)=min k n
 rw [if_neg (by omega),Int.toNat_natCast]
end
end HT
namespace L2
open PySem PySem.Spec PyProof.Rows
abbrev TO:=St→Hp→(Option Int→Hp→Prop)→Prop
def PO (X:Cx) (e:Option Expr) (t:TO):Prop:=
 ∀ (pins:List (Addr×Obj)) (s:Shared) (σ:St) (H:Hp) (Q:Option Int→Hp→Prop),Inv X pins σ H s→t σ H Q →
  wpAny (model X.prog X.w) X.A (evalPart e X.env) (fun u s'=>∃ o H',Inv X pins σ H' s'∧IsPart u o∧Q o H') X.xe s
def pp:TO:=fun _ H Q=>Q none H
def wX (t:TE):TO:=fun σ H Q=>t σ H fun x H1=>∃ i,x = .int i∧Q (some i) H1
theorem n9 {ns:List Int}:∀ {us:List Value},Vals (ns.map V.int) us→IntsAre us ns:=by
 induction ns with
 | nil=>intro us r;rw [List.map_nil] at r;cases r;exact .nil
 | cons n ns ih=>
  intro us r
  rw [List.map_cons] at r
  cases r with
  | cons r1 r2=>
   obtain ⟨t,e⟩:=r1
   subst e
   exact .cons n t (ih r2)
section
variable {X:Cx} {e:Expr} {te:TE} {lo hi:Option Expr} {tl th:TO} {pos p2:Pos}
theorem gu:PO X none pp:=by
 intro pins s σ H Q I h
 rw [evalPart_none]
 exact wpAny_pure ⟨none,H,I,.none,h⟩
theorem bW (h:PE X e te):PO X (some e) (wX te):=by
 intro pins s σ H Q I hw
 rw [evalPart_some]
 refine thn (h pins s σ H _ I hw) fun u s1 ⟨x,H1,I1,r1,q1⟩ => ?_
 obtain ⟨i,rfl,q⟩:=q1
 obtain ⟨t,rfl⟩:=r1
 exact ⟨some i,H1,I1,.int i t,q⟩
def SlR (X:Cx) (r:V→Option Int→Option Int→Hp→VK→Prop):Prop:=
 ∀ (pins:List (Addr×Obj)) (s:Shared) (σ:St) (H:Hp) (x:V) (v vl vu:Value) (lo hi:Option Int) (sl:Addr) (Q:VK),Inv X pins σ H s→RelV x v→s.heap.IsSliceOf sl vl vu .none→IsPart vl lo→IsPart vu hi→r x lo hi H Q →
  ∃ T id,typeLookup (.type T) "__getitem__" = pure (some (.builtin id))∧s.TypeIs v T∧wpAny (model X.prog X.w) X.A (getItem v (.ref sl)) (EP X pins σ Q) X.xe s
def tSl (r:V→Option Int→Option Int→Hp→VK→Prop) (te:TE) (tl th:TO):TE:=fun σ H Q=>te σ H fun x H1=>tl σ H1 fun l H2=>th σ H2 fun u H3=>r x l u H3 Q
theorem bY {r:V→Option Int→Option Int→Hp→VK→Prop} (hr:SlR X r) (he:PE X e te) (hl:PO X lo tl) (hu:PO X hi th):PE X (.Subscript e (.Slice lo hi none p2) pos) (tSl r te tl th):=by
 intro pins s σ H Q I h
 refine Subscript_ (thn (he pins s σ H _ I h) fun v s1 ⟨x,H1,I1,r1,q1⟩ => ?_)
 refine wpAny_Slice (thn (hl pins s1 σ H1 _ I1 q1) fun vl s2 ⟨l,H2,I2,pl,q2⟩=>thn (hu pins s2 σ H2 _ I2 q2) fun vu s3 ⟨u,H3,I3,pu,q3⟩ => ?_)
 rw [evalPart_none]
 refine wpAny_pure ?_
 have I4:Inv X pins σ H3 {s3 with heap:=s3.heap.push {cls := .type "slice",data := .fields #[vl,vu,.none]}}:=I3.kept (t':=s3.toks) fun b ob q=>Heap.get?_push_of_some _ q
 obtain ⟨T,id,hT,ht,hg⟩:=hr pins {s3 with heap:=s3.heap.push {cls := .type "slice",data := .fields #[vl,vu,.none]}} σ H3 x v vl vu l u s3.heap.objs.size Q I4 r1 (Heap.IsSliceOf.new ..) pl pu q3
 show wpAny (model X.prog X.w) X.A (subscriptTail e (.Slice lo hi none p2) v (.ref s3.heap.objs.size)) (EP X pins σ Q) X.xe {s3 with heap:=s3.heap.push {cls := .type "slice",data := .fields #[vl,vu,.none]}}
 exact tail_any (ops:=[.ref s3.heap.objs.size,v]) ht hT hg (by with_unfolding_all rfl)
def jw (xs:List V) (lo hi:Option Int):List V:=(xs.drop (HT.sIx xs.length 0 lo)).take (HT.sIx xs.length xs.length hi - HT.sIx xs.length 0 lo)
theorem lZ (xs:List V) (lo hi:Option Int):(jw xs lo hi).length≤xs.length:=by
 unfold jw
 rw [List.length_take,List.length_drop]
 omega
def Cf (K:PySem.W.Frag):V→Option Int→Option Int→Hp→VK→Prop:=fun x lo hi H Q=>∃ a xs,x = .ref a∧SqT K H a xs ∧
 ¬ (HT.sIx xs.length 0 lo=0∧HT.sIx xs.length xs.length hi=xs.length)∧∀ p,H p=none→Q (.ref p) (upd H p (.tup (jw xs lo hi)))
def Cg (K:PySem.W.Frag):R2:=fun x y H Q=>∃ a b ns ms,x = .ref a∧y = .ref b∧SqT K H a (ns.map V.int)∧SqT K H b (ms.map V.int)∧Q (.bl (HT.lexLt ns ms)) H
def Bn (K:PySem.W.Frag):R2:=fun x y H Q=>∃ a b xs ys,x = .ref a∧y = .ref b∧SqT K H a xs∧SqT K H b ys∧xs≠[]∧xs.length+ys.length≤sizeLine ∧
 (ys=[]→Q (.ref a) H)∧(ys≠[]→∀ p,H p=none→Q (.ref p) (upd H p (.tup (xs++ys))))
end
end L2
namespace L2
open PySem PySem.Spec PyProof.Rows
def ixN (n:Nat) (i:Int):Option Nat:=if 0≤i then (if i < n then some i.toNat else none) else if -(n:Int)≤i then some (i+n).toNat else none
def atI {α:Type} (xs:List α) (i:Int):Option α:=(ixN xs.length i).bind fun j=>xs[j]?
theorem pq {n:Nat} {i:Int} {j:Nat} (h:ixN n i=some j):seqIndex? i n=some j∧j < n ∧ -(n:Int)≤i∧i < n:=by
 unfold ixN at h
 by_cases h0:0≤i
 ·rw [if_pos h0] at h
  by_cases h1:i < n
  ·rw [if_pos h1] at h
   have e:i.toNat=j:=Option.some.inj h
   exact ⟨by rw [seqIndex_of h0 h1,e],by omega,by omega,h1⟩
  ·rw [if_neg h1] at h;cases h
 ·rw [if_neg h0] at h
  by_cases h1 : -(n:Int)≤i
  ·rw [if_pos h1] at h
   have e:(i+n).toNat=j:=Option.some.inj h
   exact ⟨by rw [seqIndex_neg (by omega) h1,e],by omega,h1,by omega⟩
  ·rw [if_neg h1] at h;cases h
theorem pr {α:Type} {xs:List α} {i:Int} {v:α} (h:atI xs i=some v):∃ j,seqIndex? i xs.length=some j∧xs[j]? = some v∧j < xs.length ∧ -(xs.length:Int)≤i∧i < xs.length:=by
 unfold atI at h
 cases e:ixN xs.length i with
 | none=>rw [e] at h;cases h
 | some j=>
  rw [e] at h
  obtain ⟨h1,h2,h3,h4⟩:=pq e
  exact ⟨j,h1,h,h2,h3,h4⟩
theorem jM {α:Type} {xs:List α} {j:Nat} {v:α} (h:xs[j]? = some v):atI xs (j:Int)=some v:=by
 have hj:j < xs.length:=(List.getElem?_eq_some_iff.mp h).1
 have e:ixN xs.length (j:Int)=some j:=by
  unfold ixN
  rw [if_pos (by omega),if_pos (by omega)];simp
 unfold atI;rw [e];exact h
theorem sd {α:Type} (xs:List α) (v:α):atI (xs++[v]) (-1)=some v:=by
 have hl:(xs++[v]).length=xs.length+1:=by simp
 have e:ixN (xs++[v]).length (-1)=some xs.length:=by
  unfold ixN
  rw [hl,if_neg (by decide),if_pos (by omega)]
  congr 1
  omega
 unfold atI
 rw [e]
 show (xs++[v])[xs.length]? = some v
 simp
def uN (b:Expr):Prop:=∀ o i,subscripted b false o i=operate [o,i] (getItem o i)
def IxR (X:Cx) (r:R2):Prop:=
 ∀ (value slice:Expr) (pins:List (Addr×Obj)) (s:Shared) (σ:St) (H:Hp) (x y:V) (v u:Value) (Q:VK),Inv X pins σ H s→RelV x v→RelV y u→r x y H Q →
  subscripted slice false v u=operate [v,u] (getItem v u)→wpAny (model X.prog X.w) X.A (subscriptTail value slice v u) (EP X pins σ Q) X.xe s
def MtR (X:Cx) (id:String) (r:V→List V→Hp→VK→Prop):Prop:=
 ∀ (pins:List (Addr×Obj)) (s:Shared) (σ:St) (H:Hp) (x:V) (xs:List V) (v:Value) (us:List Value) (Q:VK),Inv X pins σ H s→RelV x v→Vals xs us→r x xs H Q →
  wpAny (model X.prog X.w) X.A (call (.builtin id) (v :: us)) (EP X pins σ Q) X.xe s
section
variable {X:Cx} {a b:Expr} {ta tb:TE} {pos:Pos}
theorem bR {r:R2} (hr:IxR X r) (ha:PE X a ta) (hb:PE X b tb) (hs:uN b):PE X (.Subscript a b pos) (tOp r ta tb):=by
 intro pins s σ H Q I h
 exact Subscript_ (yU ha hb I h fun v u s2 x y H2 I2 rx ry q=>hr a b pins s2 σ H2 x y v u Q I2 rx ry q (hs _ _))
def wY (K:PySem.W.Frag):R2:=fun x y H Q=>∃ p xs i v,x = .ref p∧y = .int i∧SqL K H p xs∧atI xs i=some v∧Q v H
def uO (K:PySem.W.Frag):R2:=fun x y H Q=>∃ p xs i v,x = .ref p∧y = .int i∧SqT K H p xs∧atI xs i=some v∧Q v H
def Bo:R2:=fun x y H Q=>∃ z i c,x = .str z∧y = .int i∧z.length≤sizeLine∧atI z.cps.toList i=some c∧Q (.str ⟨#[c]⟩) H
theorem uP:IxR X (wY X.K):=by
 intro value slice pins s σ H x y v u Q I rx ry h hs
 obtain ⟨p,xs,i,z,rfl,rfl,hq,he,q⟩:=h
 cases rx
 obtain ⟨t,rfl⟩:=ry
 obtain ⟨its,r,pl,hz⟩:=I.list hq
 obtain ⟨j,h1,h2,h3,h4,h5⟩:=pr he
 obtain ⟨w,ew,rw'⟩:=r.get h2
 have hl:=r.length
 have hn:=ko
 have fin:EP X pins σ Q w s:=⟨z,H,I,rw',q⟩
 by_cases h0:0≤i
 ·have hj:i.toNat=j:=by
   rw [seqIndex_of h0 h5] at h1
   exact Option.some.inj h1
  exact item_listR pl.isList h0 (by omega) (by rw [hj];simpa using ew) fin hs
 ·have hj:(i+(its.toArray.size:Int)).toNat=j:=by
   rw [seqIndex_neg (by omega) h4] at h1
   rw [List.size_toArray,← hl]
   exact Option.some.inj h1
  exact subscriptTail_builtinR (x:=w) pl.isList.typeIs slot_list_getitem.lookup
   (wpAny_getItem_list_neg (Q:=fun r s'=>r=w∧EP X pins σ Q r s') pl.isList (by omega) (by rw [List.size_toArray] <;> omega) (by omega) (by rw [hj];simpa using ew) ⟨rfl,fin⟩) hs
theorem wZ:IxR X (uO X.K):=by
 intro value slice pins s σ H x y v u Q I rx ry h hs
 obtain ⟨p,xs,i,z,rfl,rfl,hq,he,q⟩:=h
 cases rx
 obtain ⟨t,rfl⟩:=ry
 obtain ⟨its,r,pl,hz⟩:=I.tuple hq
 obtain ⟨j,h1,h2,h3,h4,h5⟩:=pr he
 obtain ⟨w,ew,rw'⟩:=r.get h2
 have hl:=r.length
 have hn:=ko
 have fin:EP X pins σ Q w s:=⟨z,H,I,rw',q⟩
 exact subscriptTail_builtinR (x:=w) pl.typeIs slot_tuple_getitem.lookup
  (getItem_tuple (j:=j) (Q:=fun r s'=>r=w∧EP X pins σ Q r s') pl (by omega) (by omega) (by rw [List.size_toArray,← hl];exact h1) (by simpa using ew) ⟨rfl,fin⟩) hs
def rIx (K:PySem.W.Frag):R2:=fun x y H Q=>wY K x y H Q∨uO K x y H Q∨Bo x y H Q
theorem oa (its:List Value) (n j:Nat) (u:Value):Obj.mapSeq (·.setIfInBounds j u) {cls := .type "list",data := .seq its.toArray n}={cls := .type "list",data := .seq (its.set j u).toArray n}:=by
 simp [Obj.mapSeq]
theorem Inv.lst {pins:List (Addr×Obj)} {σ:St} {H:Hp} {s:Shared} {p:Addr} {xs:List V} (I:Inv X pins σ H s) (h:H p=some (.lst xs)) :
  ∃ (its:List Value) (n:Nat),Vals xs its∧s.heap.get? p=some {cls := .type "list",data := .seq its.toArray n}∧xs.length≤sizeLine:=by
 obtain ⟨z,its,n,r,e⟩:=I.hok p _ h
 exact ⟨its,n,r,e,z⟩
theorem Inv.lstUpd {pins:List (Addr×Obj)} {σ:St} {H:Hp} {s:Shared} {p:Addr} {xs ys:List V} {its its':List Value} {n n':Nat} {f:Obj→Obj} (I:Inv X pins σ H s) (h:H p=some (.lst xs))
  (ho:s.heap.get? p=some {cls := .type "list",data := .seq its.toArray n}) (hf:f {cls := .type "list",data := .seq its.toArray n}={cls := .type "list",data := .seq its'.toArray n'}) (r:Vals ys its') (hz:ys.length≤sizeLine) (t:Nat) :
  Inv X pins σ (upd H p (.lst ys)) {s with heap:=s.heap.update p f,toks:=t}:=by
 have e:(s.heap.update p f).get? p=some {cls := .type "list",data := .seq its'.toArray n'}:=by
  rw [Heap.get?_update_self f ho (by rw [hf] <;> rfl),hf]
 refine I.write (x:=p) (e:=p) (by rw [h];trivial) (.inl rfl) (fun b u hb q=>(Heap.get?_update_other _ _ (Ne.symm hb)).trans q) ⟨_,e⟩ ?_
 exact ⟨hz,its',n',r,e⟩
def w5:V→V→V→Hp→(Hp→Prop)→Prop:=fun o i v H Q=>∃ p xs k j,o = .ref p∧i = .int k∧H p=some (.lst xs)∧ixN xs.length k=some j∧Q (upd H p (.lst (xs.set j v)))
theorem se:Aw X w5:=by
 intro pins s σ H o i v ov iv u Q I ro ri rv h
 obtain ⟨p,xs,k,j,rfl,rfl,hp,hj,q⟩:=h
 cases ro
 obtain ⟨t,rfl⟩:=ri
 obtain ⟨its,n,r,ho,hz⟩:=I.lst hp
 obtain ⟨h1,h2,h3,h4⟩:=pq hj
 have hl:=r.length
 have hn:=ko
 have I':Inv X pins σ (upd H p (.lst (xs.set j v))) {s with heap:=s.heap.update p (Obj.mapSeq (·.setIfInBounds j u))}:=
  I.lstUpd hp ho (oa its n j u) (r.set rv j) (by rw [List.length_set];exact hz) s.toks
 by_cases h0:0≤k
 ·have hk:k.toNat=j:=by
   rw [seqIndex_of h0 h4] at h1
   exact Option.some.inj h1
  exact PySem.W.ki_setAt ho h0 (by omega) (by rw [List.size_toArray,← hl];exact h4) (by rw [hk];exact ⟨_,I',q⟩)
 ·have hk:(k+(its.toArray.size:Int)).toNat=j:=by
   rw [seqIndex_neg (by omega) h3] at h1
   rw [List.size_toArray,← hl]
   exact Option.some.inj h1
  exact PySem.W.ki_setBack ho (by omega) (by rw [List.size_toArray,← hl];exact h3) (by omega) (by rw [hk];exact ⟨_,I',q⟩)
theorem kz (lo hi:Option Int) (n:Nat):(sliceBounds lo hi none n).1=((HT.sIx n 0 lo:Nat):Int)∧(sliceBounds lo hi none n).2.1=((HT.sIx n n hi:Nat):Int)∧(sliceBounds lo hi none n).2.2=1:=by
 refine ⟨?_,?_,rfl⟩
 ·cases lo with
  | none=>simp [sliceBounds,HT.sIx]
  | some i=>
   simp only [sliceBounds,HT.sIx,Option.getD_none,show (1:Int) > 0 by decide,if_true]
   by_cases h:i < 0
   ·simp only [h,if_true] <;> omega
   ·simp only [h,if_false] <;> omega
 ·cases hi with
  | none=>simp [sliceBounds,HT.sIx]
  | some i=>
   simp only [sliceBounds,HT.sIx,Option.getD_none,show (1:Int) > 0 by decide,if_true]
   by_cases h:i < 0
   ·simp only [h,if_true] <;> omega
   ·simp only [h,if_false] <;> omega
theorem jN (its:List Value) (lo hi:Option Int):slicePick its.toArray lo hi none=((its.drop (HT.sIx its.length 0 lo)).take (HT.sIx its.length its.length hi - HT.sIx its.length 0 lo)).toArray:=by
 obtain ⟨h1,h2,h3⟩:=kz lo hi its.toArray.size
 unfold slicePick
 rw [h1,h2,h3]
 simp only [sliceRange_one,pick_run,List.size_toArray] <;> rfl
def y3 (K:PySem.W.Frag):V→Option Int→Option Int→Hp→VK→Prop:=fun x lo hi H Q=>∃ a xs,x = .ref a∧SqL K H a xs∧∀ p,H p=none→Q (.ref p) (upd H p (.lst (jw xs lo hi)))
theorem uQ:SlR X (y3 X.K):=by
 intro pins s σ H x v vl vu lo hi sl Q I rx hs pl pu h
 obtain ⟨a,xs,rfl,hx,q⟩:=h
 cases rx
 obtain ⟨its,r,ht,hz⟩:=I.list hx
 have hlen:=r.length
 refine ⟨"list",_,slot_list_getitem.lookup,ht.isList.typeIs,?_⟩
 refine wpAny_getItem_list_slice ht.isList hs pl pu .none (by simp) ?_ (by rw [List.size_toArray] <;> omega)
 rw [jN,← hlen]
 refine ⟨.ref s.heap.objs.size,_,I.laid (t':=s.toks) (o := .lst (jw xs lo hi)) (fun b ob q=>Heap.get?_push_of_some _ q) (Nat.le_refl _) ?_,rfl,q _ (I.hok.fresh (Nat.le_refl _))⟩
 exact ⟨Nat.le_trans (lZ xs lo hi) hz,_,0,(r.drop (HT.sIx xs.length 0 lo)).take (HT.sIx xs.length xs.length hi - HT.sIx xs.length 0 lo),Heap.get?_push_size _ rfl⟩
def gv:V→Bool
 | .non=>true
 | .bl _=>true
 | .int _=>true
 | .str _=>true
 | _=>false
def eqV:V→V→Bool
 | .non,.non=>true
 | .bl a,.bl b=>a == b
 | .bl a,.int b=>(if a then 1 else 0) == b
 | .int a,.bl b=>a == (if b then 1 else 0)
 | .int a,.int b=>a == b
 | .str a,.str b=>a == b
 | _,_=>false
theorem pw {A:Around} {s:Shared} {y x:V} {u v:Value} (ry:RelV y u) (rx:RelV x v) (fy:gv y=true) (fx:gv x=true):SeqAt.EqAt A s u v (eqV y x):=by
 cases y with
 | non=>
  cases ry
  cases x with
  | non=>cases rx;exact SeqAt.EqAt.same _
  | bl b=>cases rx;exact SeqAt.EqAt.none_bool b
  | int b=>obtain ⟨t,rfl⟩:=rx;exact SeqAt.EqAt.none_int b t
  | str b=>obtain ⟨t,rfl⟩:=rx;exact SeqAt.EqAt.none_str b t
  | _=>exact absurd (show false=true from fx) Bool.false_ne_true
 | bl a=>
  cases ry
  cases x with
  | non=>cases rx;exact SeqAt.EqAt.bool_none a
  | bl b=>cases rx;exact SeqAt.EqAt.bool_bool a b
  | int b=>obtain ⟨t,rfl⟩:=rx;exact SeqAt.EqAt.bool_int a b t
  | str b=>obtain ⟨t,rfl⟩:=rx;exact SeqAt.EqAt.bool_str a b t
  | _=>exact absurd (show false=true from fx) Bool.false_ne_true
 | int a=>
  obtain ⟨t',rfl⟩:=ry
  cases x with
  | non=>cases rx;exact SeqAt.EqAt.int_none a t'
  | bl b=>cases rx;exact SeqAt.EqAt.int_bool a t' b
  | int b=>obtain ⟨t,rfl⟩:=rx;exact SeqAt.EqAt.int_int a t' b t
  | str b=>obtain ⟨t,rfl⟩:=rx;exact SeqAt.EqAt.int_str a t' b t
  | _=>exact absurd (show false=true from fx) Bool.false_ne_true
 | str a=>
  obtain ⟨t',rfl⟩:=ry
  cases x with
  | non=>cases rx;exact SeqAt.EqAt.str_none a t'
  | bl b=>cases rx;exact SeqAt.EqAt.str_bool a t' b
  | int b=>obtain ⟨t,rfl⟩:=rx;exact SeqAt.EqAt.str_int a t' b t
  | str b=>obtain ⟨t,rfl⟩:=rx;exact SeqAt.EqAt.str_str a t' b t
  | _=>exact absurd (show false=true from fx) Bool.false_ne_true
 | _=>exact absurd (show false=true from fy) Bool.false_ne_true
def eqU (x:V) (u:Value):Bool:=match u with
 | .none=>eqV .non x
 | .bool b=>eqV (.bl b) x
 | .int i _=>eqV (.int i) x
 | .str z _=>eqV (.str z) x
 | _=>false
theorem tZ {x y:V} {u:Value} (r:RelV y u) (f:gv y=true):eqU x u=eqV y x:=by
 cases y with
 | non=>cases r;rfl
 | bl b=>cases r;rfl
 | int i=>obtain ⟨t,rfl⟩:=r;rfl
 | str z=>obtain ⟨t,rfl⟩:=r;rfl
 | _=>exact absurd (show false=true from f) Bool.false_ne_true
theorem iy {x:V}:∀ {xs:List V} {us:List Value},Vals xs us→xs.all gv=true→us.any (eqU x)=xs.any fun y=>eqV y x
 | _,_,.nil,_=>rfl
 | y :: xs,u :: us,.cons r t,f=>by
  rw [List.all_cons,Bool.and_eq_true] at f
  rw [List.any_cons,List.any_cons,tZ r f.1,iy t f.2]
theorem fz {A:Around} {s:Shared} {x:V} {v:Value} (rx:RelV x v) (fx:gv x=true):∀ {xs:List V} {us:List Value},Vals xs us→xs.all gv=true→∀ u∈us,SeqAt.EqAt A s u v (eqU x u)
 | _,_,.nil,_=>fun u hu=>by cases hu
 | y :: xs,u :: us,.cons r t,f=>fun u' hu=>by
  rw [List.all_cons,Bool.and_eq_true] at f
  rcases List.mem_cons.mp hu with rfl | hu
  ·rw [tZ r f.1];exact pw r rx f.1 fx
  ·exact fz rx fx t f.2 u' hu
def inV (x:V) (xs:List V):Bool:=xs.any fun y=>eqV y x
def rIn (K:PySem.W.Frag) (neg:Bool):R2:=fun x y H Q=>∃ p xs,y = .ref p∧(SqL K H p xs∨SqT K H p xs)∧gv x=true∧xs.all gv=true∧Q (.bl (if neg then !inV x xs else inV x xs)) H
theorem pA:OpR X (compareOp .In) (rIn X.K false):=by
 intro pins s σ H x y v u Q I rx ry h
 obtain ⟨p,xs,rfl,hq,fx,fs,q⟩:=h
 cases ry
 rcases hq with hq | hq
 ·obtain ⟨its,r,pl,hz⟩:=I.list hq
  refine SeqAt.in_listAt (eqU x) pl.isList (fun w hw=>fz rx fx r fs w (by simpa using hw)) ⟨.bl _,H,I,rfl,?_⟩
  rw [show its.toArray.any (eqU x)=its.any (eqU x) by simp,iy r fs]
  exact q
 ·obtain ⟨its,r,pl,hz⟩:=I.tuple hq
  refine SeqAt.in_tupleAt (eqU x) pl (fun w hw=>fz rx fx r fs w (by simpa using hw)) ⟨.bl _,H,I,rfl,?_⟩
  rw [show its.toArray.any (eqU x)=its.any (eqU x) by simp,iy r fs]
  exact q
theorem kB:OpR X (compareOp .NotIn) (rIn X.K true):=by
 intro pins s σ H x y v u Q I rx ry h
 obtain ⟨p,xs,rfl,hq,fx,fs,q⟩:=h
 cases ry
 rcases hq with hq | hq
 ·obtain ⟨its,r,pl,hz⟩:=I.list hq
  refine SeqAt.notIn_listAt (eqU x) pl.isList (fun w hw=>fz rx fx r fs w (by simpa using hw)) ⟨.bl _,H,I,rfl,?_⟩
  rw [show its.toArray.any (eqU x)=its.any (eqU x) by simp,iy r fs]
  exact q
 ·obtain ⟨its,r,pl,hz⟩:=I.tuple hq
  refine SeqAt.notIn_tupleAt (eqU x) pl (fun w hw=>fz rx fx r fs w (by simpa using hw)) ⟨.bl _,H,I,rfl,?_⟩
  rw [show its.toArray.any (eqU x)=its.any (eqU x) by simp,iy r fs]
  exact q
theorem kC:fu X (.builtin "len") (fun xs H Q=>∃ p ys,xs=[.ref p]∧(SqL X.K H p ys∨SqT X.K H p ys)∧Q (.int ys.length) H):=by
 intro pins s σ H xs us Q I r h
 obtain ⟨p,ys,rfl,hq,q⟩:=h
 obtain ⟨u,rfl,rx⟩:=o9 r
 cases rx
 have hn:=ko
 rcases hq with hq | hq
 ·obtain ⟨its,r',pl,hz⟩:=I.list hq
  have hlen:=r'.length
  exact Calls.call_len_list pl.isList (by simp only [List.size_toArray] <;> omega) ⟨.int ys.length,H,I.tok _,⟨s.toks+1,by rw [List.size_toArray,hlen]⟩,q⟩
 ·obtain ⟨its,r',pl,hz⟩:=I.tuple hq
  have hlen:=r'.length
  exact len_tuple pl (by simp only [List.size_toArray] <;> omega) ⟨.int ys.length,H,I.tok _,⟨s.toks+1,by rw [List.size_toArray,hlen]⟩,q⟩
theorem kG:fu X (.type "list") (fun xs H Q=>∃ p ys,xs=[.ref p]∧(SqL X.K H p ys∨SqT X.K H p ys)∧∀ l,H l=none→Q (.ref l) (upd H l (.lst ys))):=by
 intro pins s σ H xs us Q I r h
 obtain ⟨p,ys,rfl,hq,q⟩:=h
 obtain ⟨u,rfl,rx⟩:=o9 r
 cases rx
 have fin:∀ (its:List Value),Vals ys its→ys.length≤sizeLine→∀ (h':Heap) (c':Nat),(∀ b o',s.heap.get? b=some o'→h'.get? b=some o') →
   h'.get? s.heap.objs.size=some {cls := .type "list",dict:=none,data := .seq its.toArray c',slots:=#[]}→EP X pins σ Q (.ref s.heap.objs.size) {s with heap:=h'}:=fun its r' hz h' c' kp e=>
  ⟨.ref s.heap.objs.size,_,I.laid (t':=s.toks) kp (Nat.le_refl _) (show ObjOk X.prog X.w _ h' _ (.lst ys) from ⟨hz,its,c',r',e⟩),rfl,q _ (I.hok.fresh (Nat.le_refl _))⟩
 rcases hq with hq | hq
 ·obtain ⟨its,r',pl,hz⟩:=I.list hq
  have hlen:=r'.length
  obtain ⟨o,ho,hc,n,hd⟩:=pl.isList
  exact call_list_seq p (.inl rfl) ho hc hd (fun h' c' kp e=>fin its r' hz h' c' kp e) (by simp only [List.size_toArray] <;> omega)
 ·obtain ⟨its,r',pl,hz⟩:=I.tuple hq
  have hlen:=r'.length
  obtain ⟨o,ho,hc,n,hd⟩:=pl
  exact call_list_seq p (.inr rfl) ho hc hd (fun h' c' kp e=>fin its r' hz h' c' kp e) (by simp only [List.size_toArray] <;> omega)
def tyV (K:PySem.W.Frag) (T:String) (x:V) (H:Hp):Prop:=match x with
 | .str _=>T = "str"
 | .int _=>T = "int"
 | .ref p=>(T = "list" ∧ ∃ xs,SqL K H p xs)∨(T = "tuple" ∧ ∃ o,K.lookup p=some o∧o.cls = .type "tuple" ∧ o.dict=none) ∨
   (T = "dict" ∧ ((∃ kvs,H p=some (.dK kvs))∨∃ kvs,H p=some (.dT kvs)))∨(T = "set" ∧ ∃ S n,H p=some (.set S n))
 | _=>False
theorem w6 {pins:List (Addr×Obj)} {σ:St} {H:Hp} {s:Shared} {T:String} {x:V} {v:Value} (I:Inv X pins σ H s) (r:RelV x v) (ty:tyV X.K T x H) :
  s.TypeIs v T∧∀ a,v = .ref a→∃ ob,s.heap.get? a=some ob∧ob.dict=none:=by
 cases x with
 | str z=>
  obtain ⟨t,rfl⟩:=r
  cases (show T = "str" from ty)
  exact ⟨typeIs_str s z t,fun _ e=>nomatch e⟩
 | int i=>
  obtain ⟨t,rfl⟩:=r
  cases (show T = "int" from ty)
  exact ⟨typeIs_int s i t,fun _ e=>nomatch e⟩
 | ref p=>
  cases r
  rcases ty with ⟨rfl,xs,hq⟩ | ⟨rfl,o,hk,hc,hd⟩ | ⟨rfl,hk⟩ | ⟨rfl,S,n,hk⟩
  ·obtain ⟨its,_,pl,_⟩:=I.list hq
   refine ⟨pl.isList.typeIs,fun a e => ?_⟩
   cases e
   obtain ⟨o,n,e,c,hd,_⟩:=pl
   exact ⟨o,e,hd⟩
  ·refine ⟨⟨o,I.kIn p o hk,hc⟩,fun a e => ?_⟩
   cases e
   exact ⟨o,I.kIn _ o hk,hd⟩
  ·have z:∃ o,s.heap.get? p=some o∧o.ExactDict:=by
    rcases hk with ⟨kvs,hk⟩ | ⟨kvs,hk⟩
    ·obtain ⟨_,_,_,_,o,_,_,e,ex,_⟩:=I.hok p _ hk
     exact ⟨o,e,ex⟩
    ·obtain ⟨_,_,_,_,o,_,_,e,ex,_⟩:=I.hok p _ hk
     exact ⟨o,e,ex⟩
   obtain ⟨o,e,ex⟩:=z
   refine ⟨⟨o,e,ex.1⟩,fun a e2 => ?_⟩
   cases e2
   exact ⟨o,e,ex.2.1⟩
  ·obtain ⟨o,_,_,_,e,ex,_⟩:=I.hok p _ hk
   refine ⟨⟨o,e,ex.1⟩,fun a e2 => ?_⟩
   cases e2
   exact ⟨o,e,ex.2.1⟩
 | _=>exact False.elim ty
def Ch (K:PySem.W.Frag) (T:String) (r:V→List V→Hp→VK→Prop) (to:TE):TE:=fun σ H Q=>to σ H fun x H1=>tyV K T x H1∧r x [] H1 Q
def tBM (K:PySem.W.Frag) (T:String) (r:V→List V→Hp→VK→Prop) (to:TE) (t:TA):TE:=fun σ H Q=>to σ H fun x H1=>tyV K T x H1∧t σ H1 fun xs H2=>r x xs H2 Q
variable {o e:Expr} {es:List Expr} {to:TE} {t:TA} {name:Str} {apos cpos:Pos} {T id:String} {r:V→List V→Hp→VK→Prop}
theorem y4 (pa:PlainAttrs T) (slot:Slot T name id) (hty:typeOf (.builtin id)=pure (.type "method_descriptor")) (hm:MtR X id r) (ho:PE X o to) (ha:PA X (e :: es) t)
  (hbase:attributeBase o name X.env (eval o X.env)=eval o X.env:=by rfl)
  (hfew:((backTo cpos (starEach (e :: es) X.env)).all (fun x => !x.1) && (backToKw cpos (keywordEach [] X.env)).all (fun x=>x.1.isSome)
   && decide ((e :: es).length+([]:List Keyword).length+(if ([]:List Keyword).isEmpty then 0 else 1) < 30))=true:=by rfl)
  (hline:(apos.endLine == cpos.line)=true:=by rfl) (hs:starEach (e :: es) X.env=(false,eval e X.env) :: starEach es X.env:=by rfl) (hplain:(backTo cpos (starEach es X.env)).any (·.1)=false:=by rfl) :
  PE X (.Call (.Attribute o name apos) (e :: es) [] cpos) (tBM X.K T r to t):=by
 intro pins s σ H Q I h
 refine wpAny_Call_method_late hbase hfew hline rfl (thn (ho pins s σ H _ I h) fun v s1 ⟨x,H1,I1,r1,ty,q1⟩ => ?_)
 obtain ⟨h1,h2⟩:=w6 I1 r1 ty
 refine ⟨T,id,pa,slot,hty,h1,h2,?_⟩
 have hA:=ha cpos pins s1 σ H1 _ I1 q1
 rw [hs] at hA ⊢
 refine Calls.callWith_builtin (by show (false || (backTo cpos (starEach es X.env)).any (·.1))=false;rw [hplain] <;> rfl) (Calls.evalArgs_plain ?_)
 exact thn hA fun us s2 ⟨vs,H2,I2,r2,q2⟩=>hm pins s2 σ H2 x vs v us Q I2 r1 r2 q2
end
end L2
namespace L2
open PySem PySem.Spec PyProof.Rows
def MtM (X:Cx) (id:String) (r:V→List V→Hp→VK→Prop):Prop:=
 ∀ (pins:List (Addr×Obj)) (s:Shared) (σ:St) (H:Hp) (x:V) (xs:List V) (v:Value) (us:List Value) (Q:VK),Inv X pins σ H s→RelV x v→Vals xs us→r x xs H Q →
  wpAny (model X.prog X.w) X.A (call (.builtin id) (v :: us)) (EP X pins σ Q) X.xe s
theorem Vals.one:∀ {x:V} {us:List Value},Vals [x] us→∃ u,us=[u]∧RelV x u
 | _,_,.cons r .nil=>⟨_,rfl,r⟩
theorem Vals.two:∀ {x y:V} {us:List Value},Vals [x,y] us→∃ u v,us=[u,v]∧RelV x u∧RelV y v
 | _,_,_,.cons r (.cons q .nil)=>⟨_,_,rfl,r,q⟩
theorem Vals.eraseIdx:∀ {xs:List V} {us:List Value} (i:Nat),Vals xs us→Vals (xs.eraseIdx i) (us.eraseIdx i)
 | _,_,_,.nil => .nil
 | _,_,0,.cons _ t=>t
 | _,_,i+1,.cons r t => .cons r (Vals.eraseIdx i t)
theorem Vals.rep {xs:List V} {us:List Value} (h:Vals xs us):∀ k:Nat,Vals (List.replicate k xs).flatten (List.replicate k us).flatten
 | 0 => .nil
 | k+1=>by
  rw [List.replicate_succ,List.replicate_succ,List.flatten_cons,List.flatten_cons]
  exact Vals.append h (Vals.rep h k)
theorem kH {α:Type}:∀ (l:List α) (i:Nat),(l.eraseIdx i).length≤l.length
 | [],_=>Nat.le_refl _
 | _ :: _,0=>Nat.le_succ _
 | _ :: r,i+1=>Nat.succ_le_succ (kH r i)
theorem kI (its:List Value):∀ (k:Nat) (acc:List Value),
  List.foldl (fun x1 x2=>x1++x2) acc.toArray (List.replicate k its.toArray)=(acc++(List.replicate k its).flatten).toArray
 | 0,acc=>by simp
 | k+1,acc=>by
  have e:acc.toArray++its.toArray=(acc++its).toArray:=by simp
  have e2:(acc++its)++(List.replicate k its).flatten=acc++(List.replicate (k+1) its).flatten:=by
   rw [List.replicate_succ,List.flatten_cons,List.append_assoc]
  rw [← e2,← kI its k (acc++its),← e,List.replicate_succ,List.foldl_cons]
section
variable {X:Cx} {pins:List (Addr×Obj)} {σ:St} {H:Hp} {s:Shared} {l b:Addr} {xs ys zs:List V}
theorem Inv.lset {its its':List Value} {n:Nat} {f:Array Value→Array Value} {t':Nat} (I:Inv X pins σ H s) (hH:H l=some (.lst xs))
  (e:s.heap.get? l=some {cls := .type "list",data := .seq its.toArray n}) (hf:f its.toArray=its'.toArray) (hv:Vals ys its') (hz:ys.length≤sizeLine) :
  Inv X pins σ (upd H l (.lst ys)) {s with heap:=s.heap.update l (Obj.mapSeq f),toks:=t'}:=by
 have q:=PySem.IsL.update e f
 rw [hf] at q
 refine I.write (x:=l) (e:=l) (by rw [hH];exact trivial) (.inl rfl) (fun b' u hb hu=>(Heap.get?_update_other s.heap (Obj.mapSeq f) (Ne.symm hb)).trans hu) ⟨_,q⟩ ?_
 exact ⟨hz,its',_,hv,q⟩
theorem Inv.lnew {its:List Value} {t':Nat} (I:Inv X pins σ H s) (hv:Vals ys its) (hz:ys.length≤sizeLine) :
  Inv X pins σ (upd H s.heap.objs.size (.lst ys)) {s with heap:=s.heap.push {cls := .type "list",data := .seq its.toArray},toks:=t'}:=
 I.laid (fun _ _ q=>Heap.get?_push_of_some _ q) (Nat.le_refl _) ⟨hz,its,0,hv,Heap.get?_push_size _ rfl⟩
theorem Inv.fresh (I:Inv X pins σ H s):H s.heap.objs.size=none:=I.hok.fresh (Nat.le_refl _)
theorem Inv.lstM (I:Inv X pins σ H s) (hH:H l=some (.lst xs)):xs.length≤sizeLine∧∃ (its:List Value) (n:Nat),Vals xs its∧xs.length=its.length∧s.heap.get? l=some {cls := .type "list",data := .seq its.toArray n}:=by
 obtain ⟨z,its,n,r,e⟩:=I.hok l _ hH
 exact ⟨z,its,n,r,r.length,e⟩
theorem m9 {n:Nat} (h:n≤sizeLine):Builtin.List.listTooLong n=false:=by
 unfold Builtin.List.listTooLong
 exact decide_eq_false (by omega)
end
section
variable {X:Cx}
def pB:V→List V→Hp→VK→Prop:=fun x vs H Q=>∃ l xs y,x = .ref l∧vs=[y]∧H l=some (.lst xs)∧xs.length < sizeLine∧Q .non (upd H l (.lst (xs++[y])))
theorem bD:MtM X "list.append" pB:=by
 intro pins s σ H x vs v us Q I rx rv h
 obtain ⟨l,xs,y,rfl,rfl,hH,hz,q⟩:=h
 cases rx
 obtain ⟨u,rfl,ru⟩:=rv.one
 obtain ⟨z,its,n,r,hl,e⟩:=I.lstM hH
 refine call_meets F.slot_list_append ⟨_,e,rfl⟩ F.entry_list_append (F.args_list_append_2 _ _) (PySem.list_append l its.toArray n u (by rw [List.size_toArray];omega)) ⟨e,?_⟩
 refine ⟨.non,_,I.lset (its':=its++[u]) hH e (by simp) (r.append (.cons ru .nil)) ?_,rfl,q⟩
 rw [List.length_append,List.length_singleton]
 omega
def uR:V→List V→Hp→VK→Prop:=fun x vs H Q=>∃ l b xs zs,x = .ref l∧vs=[.ref b]∧H l=some (.lst xs)∧H b=some (.lst zs)∧xs.length+zs.length≤sizeLine∧Q .non (upd H l (.lst (xs++zs)))
theorem pC:MtM X "list.extend" uR:=by
 intro pins s σ H x vs v us Q I rx rv h
 obtain ⟨l,b,xs,zs,rfl,rfl,hH,hB,hz,q⟩:=h
 cases rx
 obtain ⟨u,rfl,ru⟩:=rv.one
 cases ru
 obtain ⟨z,its,n,r,hl,e⟩:=I.lstM hH
 obtain ⟨z2,its2,n2,r2,hl2,e2⟩:=I.lstM hB
 have hsz:its.toArray.size+its2.toArray.size≤sizeLine:=by rw [List.size_toArray,List.size_toArray];omega
 have hlong:¬ (!its.toArray.isEmpty && Builtin.List.listTooLong (its.toArray.size+its2.toArray.size))=true:=by
  rw [m9 hsz,Bool.and_false]
  exact Bool.false_ne_true
 refine call_meets F.slot_list_extend ⟨_,e,rfl⟩ F.entry_list_extend (F.args_list_extend_2 _ _)
  (AutoSeq1.list_extend_list_list_0 l its.toArray n b its2.toArray n2 hlong (by rw [List.size_toArray];omega) (by omega)) ⟨e,e2,?_⟩
 refine ⟨.non,_,I.lset (its':=its++its2) hH e (by simp) (r.append r2) ?_,rfl,q⟩
 rw [List.length_append]
 omega
def Ci:V→List V→Hp→VK→Prop:=fun x vs H Q=>∃ l xs y,x = .ref l∧vs=[]∧H l=some (.lst xs)∧xs[xs.length - 1]? = some y∧Q y (upd H l (.lst xs.dropLast))
def w8:V→List V→Hp→VK→Prop:=fun x vs H Q=>∃ l xs i k y,x = .ref l∧vs=[.int i]∧H l=some (.lst xs) ∧ -(2 ^ 63)≤i∧i < 2 ^ 63∧seqIndex? i xs.length=some k∧xs[k]? = some y∧Q y (upd H l (.lst (xs.eraseIdx k)))
theorem sf:MtM X "list.pop" w8:=by
 intro pins s σ H x vs v us Q I rx rv h
 obtain ⟨l,xs,i,k,y,rfl,rfl,hH,h1,h2,hk,hy,q⟩:=h
 cases rx
 obtain ⟨u,rfl,ru⟩:=rv.one
 obtain ⟨t,rfl⟩:=ru
 obtain ⟨z,its,n,r,hl,e⟩:=I.lstM hH
 obtain ⟨w,hw,rw'⟩:=r.get hy
 refine call_meets F.slot_list_pop ⟨_,e,rfl⟩ F.entry_list_pop (F.args_list_pop_2 _ _)
  (MeetsSeq.list_pop_at l its.toArray n i t k w (fitsIndex_both h1 h2) (by rw [List.size_toArray,← hl];exact hk) (by rw [← Array.getElem?_toList];exact hw) (by rw [List.size_toArray];omega)) ⟨e,?_⟩
 refine ⟨y,_,I.lset (its':=its.eraseIdx k) hH e ?_ (r.eraseIdx k) ?_,rw',q⟩
 ·show its.toArray.eraseIdxIfInBounds k=(its.eraseIdx k).toArray
  rw [List.eraseIdxIfInBounds_toArray]
 ·have:=kH xs k
  omega
def yL:V→List V→Hp→VK→Prop:=fun x vs H Q=>∃ l xs,x = .ref l∧vs=[]∧H l=some (.lst xs)∧Q .non (upd H l (.lst xs.reverse))
def AF:V→List V→Hp→VK→Prop:=fun x vs H Q=>∃ l xs,x = .ref l∧vs=[]∧H l=some (.lst xs)∧Q .non (upd H l (.lst []))
def AG:R2:=fun x y H Q=>∃ l b xs zs,x = .ref l∧y = .ref b∧H l=some (.lst xs)∧H b=some (.lst zs)∧xs.length+zs.length≤sizeLine∧∀ p,H p=none→Q (.ref p) (upd H p (.lst (xs++zs)))
theorem nc:OpR X (binaryOp .Add) AG:=by
 intro pins s σ H x y v u Q I rx ry h
 obtain ⟨l,b,xs,zs,rfl,rfl,hH,hB,hz,q⟩:=h
 cases rx
 cases ry
 obtain ⟨z,its,n,r,hl,e⟩:=I.lstM hH
 obtain ⟨z2,its2,n2,r2,hl2,e2⟩:=I.lstM hB
 refine PySem.P.add_list e e2 ?_ (by rw [List.size_toArray,List.size_toArray];omega)
 have ea:its.toArray++its2.toArray=(its++its2).toArray:=by simp
 rw [ea]
 exact ⟨.ref _,_,I.lnew (t':=s.toks) (r.append r2) (by rw [List.length_append];omega),rfl,q _ I.fresh⟩
def AH:R2:=fun x y H Q=>∃ l k xs,x = .ref l∧y = .int k∧H l=some (.lst xs) ∧ -(2 ^ 63)≤k∧k < 2 ^ 63∧xs.length * k.toNat≤sizeLine ∧
 ∀ p,H p=none→Q (.ref p) (upd H p (.lst (List.replicate k.toNat xs).flatten))
theorem uS {α:Type} (xs:List α) (k:Nat):(List.replicate k xs).flatten.length=k * xs.length:=by
 induction k with
 | zero=>simp
 | succ k ih=>rw [List.replicate_succ,List.flatten_cons,List.length_append,ih,Nat.succ_mul,Nat.add_comm]
theorem kJ:OpR X (binaryOp .Mult) AH:=by
 intro pins s σ H x y v u Q I rx ry h
 obtain ⟨l,k,xs,rfl,rfl,hH,h1,h2,hz,q⟩:=h
 cases rx
 obtain ⟨t,rfl⟩:=ry
 obtain ⟨z,its,n,r,hl,e⟩:=I.lstM hH
 have hlen:its.toArray.size * k.toNat≤sizeLine:=by rw [List.size_toArray,← hl];exact hz
 have hcap:¬ its.toArray.size * k.toNat > (2 ^ 63 - 1) / 8:=by
  have:(sizeLine:Nat)≤(2 ^ 63 - 1) / 8:=by decide
  omega
 have hfit:¬ (!Builtin.List.listFitsIndex k)=true:=by
  rw [fitsIndex_both h1 h2]
  exact Bool.false_ne_true
 have hlong:¬ Builtin.List.listTooLong (its.toArray.size * k.toNat)=true:=by
  rw [m9 hlen]
  exact Bool.false_ne_true
 have hnew:List.foldl (fun x1 x2=>x1++x2) #[] (List.replicate (if its.toArray.isEmpty=true then 0 else k.toNat) its.toArray)=(List.replicate k.toNat its).flatten.toArray:=by
  have f0:∀ m:Nat,List.foldl (fun x1 x2=>x1++x2) #[] (List.replicate m its.toArray)=(List.replicate m its).flatten.toArray:=fun m=>by
   have:=kI its m []
   rw [List.nil_append] at this
   exact this
  rw [f0]
  cases its with
  | nil=>simp
  | cons a r'=>rw [if_neg (by simp)]
 refine wpAny_binaryOp_repeat_ref (T := "list") (U := "int") (by decide) ⟨_,e,rfl⟩ (fun s'=>typeIs_int s' k t) noFill_list_mul F.fills_int_mul F.slot_int_rmul repeat_list F.slot_int_index.lookup
  (call_meets F.slot_int_rmul (typeIs_int s k t) F.entry_int_rmul (F.args_int_rmul_2 _ _) (int___rmul___int_list k t l its.toArray n)
   ⟨e,rfl,⟨_,e,rfl⟩,call_meets F.slot_list_mul ⟨_,e,rfl⟩ F.entry_list_mul (F.args_list_mul_2 _ _) (AutoListH.list___mul___list_int_3 l its.toArray n k t hfit hcap hlong) ⟨e,?_⟩⟩)
 rw [hnew]
 exact ⟨.ref _,_,I.lnew (t':=s.toks) (r.rep k.toNat) (by rw [uS,Nat.mul_comm];exact hz),rfl,q _ I.fresh⟩
end
section
variable {prog:Program} {w:World} {A:Around} {E:Value→Shared→Prop} {s:Shared}
set_option maxRecDepth 100000 in
end
section
variable {X:Cx}
end
end L2
namespace Att
open PySem PySem.W PySem.Calls PyProof.Rows
theorem iA {P:Params} {h:Heap}:∀ (ns:List Int) (vs:List Value),WellAll P h vs (ns.map WData.int)→IntsAre vs ns:=by
 intro ns
 induction ns with
 | nil=>
  intro vs w
  rw [List.map_nil] at w
  cases w
  exact .nil
 | cons n ns ih=>
  intro vs w
  rw [List.map_cons] at w
  cases w with
  | cons a b=>
   cases a
   exact .cons _ _ (ih _ b)
theorem pE {l:OpenLaw} {n:Nat} (hn:l.most=some n) {P:Params} {h:Heap} {args:List WData} {vals:List Value}
  (hpre:l.row.toRowW.claim.pre args=true) (hwl:WellAll P h vals args) :
  ∃ a vs ns,vals=[Value.ref a]∧args=[WData.list (ns.map WData.int)]∧h.get? a=some {cls := .type "list",data := .seq vs.toArray}∧IntsAre vs ns∧ns.length≤n:=by
 have hsh:WShape.hasAll [] args [.list .int]=true:=(pre_splitW hpre).1
 have hc:l.pre.holds [] {args:=args}=true:=(pre_splitW hpre).2
 obtain ⟨d,r,rfl,h1,h2⟩:=hasAllW_cons hsh
 obtain rfl:=hasAllW_nil h2
 obtain ⟨xs,rfl,h3⟩:=hasW_list h1
 obtain ⟨ns,rfl⟩:=items_int h3
 have hlen:ns.length≤n:=by
  unfold OpenLaw.pre at hc
  have h4:(WTm.not (.lt (.lit (.int (n:Int))) (.len (.arg 0)))).holds [] {args:=[.list (ns.map .int)]}=true:=by
   have h4:=(holds_andW hc).1
   rw [hn] at h4
   exact h4
  have h5:=condW_of h4 (w_not (w_lt w_lit (w_len_list (w_arg rfl))))
  rw [List.length_map] at h5
  refine Nat.le_of_not_lt fun q => ?_
  have q':(n:Int) < ((ns.length:Nat):Int):=by omega
  first
   | (rw [decide_eq_true q'] at h5;exact absurd h5 (by decide))
   | (simp at h5;omega)
 cases hwl with
 | cons w1 w2=>
  cases w2
  cases w1 with
  | list ho hall=>exact ⟨_,_,ns,rfl,rfl,ho,iA ns _ hall,hlen⟩
theorem pF (l:OpenLaw) (args:List WData):l.row.toRowW.claim.post args (.bool true) args=true:=
 postW_of (r:=l.row.toRowW) (X:=(true == true))
  (show WShape.has [] (.bool true) .bool=true by first | rfl | decide | simp [WShape.has,WShape.arms,WShape.armsAll])
  (show (WTm.eq .res (.lit (.bool true))).value [] {args:=args,res:=some (.bool true),after:=args}=some (.bool (true == true)) from w_eq_bool (w_res rfl) w_lit) rfl
theorem attach_call {l:OpenLaw} {n:Nat} {q:Program} {loose:List Str} {XP:(Str→Option Value)→Heap→Prop} {YP:World→Heap→Prop} {d:DefRec}
  (hn:l.most=some n) (hdf:d.params.defaults=[])
  (call:∀ (w:World) (s₀ s₁:Shared) (mg mb:Str→Option Value) (fa:Addr) (o:Obj) (pm cd doc:Value) (a:Addr) (vs:List Value) (ns:List Int),
   Ground q loose [] XP w s₀ mg mb s₁.heap→YP w s₁.heap →
   s₁.heap.get? fa=some o→o.data = .func (docDef d.name d.params d.body d.scope pm cd doc)→s₁.heap.CodeRec cd d.name→mg d.name=some (.ref fa) →
   s₁.heap.get? a=some {cls := .type "list",data := .seq vs.toArray}→IntsAre vs ns→ns.length≤n→s₁.gens=#[] →
   codeAny (model l.prog w) callerA (.call (.ref fa) ⟨[.ref a],[]⟩) (fun r s'=>r = .ok (.ret (.bool true))∧OldK s₁.heap s'.heap∧s'.os=s₁.os∧AllBare s'.gens) s₁) :
  WalkO q loose XP YP l.row.toRowW d [] (fun f vs=>PySem.call f vs):=by
 intro w s₀ s₁ mg mb G Y fa o pm cd doc dV kV ho hd hcd hD hmg hg args vals as hpre hlay hrd hwl hlo
 obtain rfl:dV = .none:=Dflts.none hD hdf
 obtain rfl:kV = .none:=Dflts.noKw hD
 obtain ⟨a,vs,ns,rfl,rfl,hobj,hints,hlen⟩:=pE hn hpre hwl
 refine enter_call (codeAny_mono (call w s₀ s₁ mg mb fa o pm cd doc a vs ns G Y ho (fd_plain hd) hcd hmg hobj hints hlen hg) fun r s' hq => ?_)
 obtain ⟨rfl,h2,h3,h4⟩:=hq
 exact ⟨.inl ⟨.bool true,.bool true,[],rfl,fun _=>rfl,.bool true,pF l _,fun _=>⟨List.Pairwise.nil,fun _ hm=>(nomatch hm)⟩⟩,h2,h3,h4⟩
section
variable {prog:Program} {w:World} {A:Around} {E:Value→Shared→Prop} {s:Shared} {K:Frag}
def AI (h:Heap):Heap:={h with objs:=#[]}
def AJ (h:Heap) (L d:Addr):List (Addr×Obj):=(List.range h.objs.size).filterMap fun a=>if a=L∨a=d then none else (h.get? a).map fun o=>(a,o)
end
end Att
namespace L2
open PySem PySem.Spec PyProof.Rows
theorem kK:∀ {vs:List Value} {ns:List Int},IntsAre vs ns→Vals (ns.map V.int) vs
 | _,_,.nil => .nil
 | _,_,.cons n t h => .cons ⟨t,rfl⟩ (kK h)
def y7 (H:Hp):Prop:=∀ b,H b=none∨∃ o xs,H b=some (.frz o (.lst xs))
theorem sg {P:Program} {w:World} {K:PySem.W.Frag} {mg mb:Str→Option Value} {CX:CXT} {k:Nat} {fa a:Addr} {fd:FuncData} {x:Str} {sp:Sp} {s₁:Shared} {vs:List Value} {ns:List Int}
  (KX:K.In s₁.heap) (hns:s₁.heap.Ns mainGlobals mg) (hb:s₁.heap.Ns builtinsNs mb) (hbb:∀ x:Str,x ≠ "__name__" → mb x=bootBuiltins x) (hlim:s₁.heap.NoLimit) (hg:s₁.gens=#[])
  (ha:s₁.heap.get? a=some {cls := .type "list",data := .seq vs.toArray}) (hi:IntsAre vs ns) (hl:ns.length≤sizeLine) (hr:Room k callerA)
  (F:∀ base:Heap,K.In base→base.Ns mainGlobals mg→FnOk P w K mg base CX k fa fd [x] sp) (hbind:∀ (s:Shared) (u:Value),BindsTo s fd ⟨[u],[]⟩ [(x,u)])
  (hsp:∀ H:Hp,y7 H→SqL K H a (ns.map V.int)→sp [.ref a] H (fun v _=>v = .bl true) fun _ _ _=>False)
  (hCX:∀ H e s',CX [] H s₁ (fun _ _ _=>False) e s'→False) :
  codeAny (model P w) callerA (.call (.ref fa) ⟨[.ref a],[]⟩) (fun r s'=>r = .ok (.ret (.bool true))∧OldK s₁.heap s'.heap∧s'.os=s₁.os∧AllBare s'.gens) s₁:=by
 have rv:=kK hi
 have lenV:=hi.length
 have core:∀ H:Hp,y7 H→SqL K H a (ns.map V.int)→HOk P w H s₁.heap→(∀ b,H b≠none→b=a)→(H a≠none→K.lookup a=none) →
   codeAny (model P w) callerA (.call (.ref fa) ⟨[.ref a],[]⟩) (fun r s'=>r = .ok (.ret (.bool true))∧OldK s₁.heap s'.heap∧s'.os=s₁.os∧AllBare s'.gens) s₁:=by
  intro H hO hS hok hA hK
  have base_of:∀ {b:Addr} {o:Obj},s₁.heap.get? b=some o→H b=none→(rN s₁.heap H).get? b=some o:=fun e n=>rO e n
  have noA:∀ {b:Addr} {o:Obj} {es:Array DictEntry} {ep:Nat},s₁.heap.get? b=some o→o.data = .dict es ep→H b=none:=fun {b o es ep} e d=>by
   cases q:H b with
   | none=>rfl
   | some u=>
    have e':b=a:=hA b (by rw [q];simp)
    subst e'
    rw [ha] at e;cases e
    have d':Data.seq vs.toArray _=Data.dict es ep:=d
    cases d'
  have nsK:∀ {b:Addr} {m:Str→Option Value},s₁.heap.Ns b m→(rN s₁.heap H).Ns b m:=fun {b m} ⟨o,es,ep,e,d,r⟩=>⟨o,es,ep,base_of e (noA e d),d,r⟩
  have hKb:K.In (rN s₁.heap H):=fun b o e=>base_of (KX b o e) (by
   cases q:H b with
   | none=>rfl
   | some u=>
    have e':b=a:=hA b (by rw [q];simp)
    subst e'
    rw [hK (by rw [q];simp)] at e;cases e)
  have hM:Mod K mg (rN s₁.heap H):=⟨hKb,nsK hns,⟨mb,nsK hb,hbb⟩,let ⟨mc,h1,h2⟩:=hlim;⟨mc,nsK h1,h2⟩⟩
  have e0:Env0 P w K mg (rN s₁.heap H) callerA [] s₁ H:=⟨rfl,hM,fun b o e=>uv e,Nat.le_of_eq (oV _ _),trivial,fun b hb=>absurd (show b∈([]:List Addr) from hb) (by simp),hok,.of_eq hg⟩
  refine codeAny_mono ((F _ hKb (nsK hns)).run callerA [] s₁ H ⟨[.ref a],[]⟩ [.ref a] [.ref a] _ _ hr e0 (hbind s₁ (.ref a)) (.cons rfl .nil) (hsp H hO hS)) fun r s' h => ?_
  cases r with
  | error e=>exact (hCX H e s' h).elim
  | ok fl=>
   cases fl with
   | next=>exact False.elim h
   | brk=>exact False.elim h
   | cont=>exact False.elim h
   | ret u=>
    obtain ⟨v,H',os,bare,un,hok',r',q⟩:=h
    have q':v = .bl true:=q
    subst q'
    obtain rfl:u=Value.bool true:=r'
    refine ⟨rfl,OldK.of_keep fun b o e => ?_,os,bare⟩
    cases q:H b with
    | none=>exact un.keep b o e q (by intro z;exact absurd (show b∈([]:List Addr) from z) (by simp)) (by simp)
    | some u=>
     rcases hO b with z | ⟨ob,xs,z⟩
     ·rw [q] at z;cases z
     ·have z2:=un.frzs b ob _ z
      obtain ⟨e1,_⟩:=hok b _ z
      obtain ⟨e2,_⟩:=hok' b _ z2
      rw [e] at e1;cases e1
      exact e2
 cases hk:K.lookup a with
 | some o=>
  have e:=KX a o hk
  rw [ha] at e
  cases e
  refine core (fun _=>none) (fun _ => .inl rfl) (.inr ⟨_,vs.toArray,_,hk,rfl,rfl,rfl,by rw [List.size_toArray,lenV];exact hl,by simpa using rv⟩) (fun b u z=>by have z':(none:Option HO)=some u:=z;cases z') (fun b z=>absurd rfl z) fun z=>absurd rfl z
 | none=>
  refine core (fun b=>if b=a then some (.frz {cls := .type "list",data := .seq vs.toArray} (.lst (ns.map V.int))) else none) (fun b => ?_) (.inl (.inr ⟨{cls := .type "list",data := .seq vs.toArray},if_pos rfl⟩)) (fun b u z => ?_) (fun b z => ?_) fun _=>hk
  ·by_cases hb:b=a
   ·exact .inr ⟨_,_,if_pos hb⟩
   ·exact .inl (if_neg hb)
  ·by_cases hb:b=a
   ·have z':=(if_pos hb).symm.trans z
    cases z'
    subst hb
    exact ⟨ha,by rw [List.length_map];exact hl,vs,_,rv,ha⟩
   ·have z':=(if_neg hb).symm.trans z
    cases z'
  ·by_cases hb:b=a
   ·exact hb
   ·exact absurd (if_neg hb) z
end L2
namespace L2
open PySem PySem.Spec PyProof.Rows
abbrev KOf {K:PySem.W.Frag} {h:Heap} (_:K.In h):PySem.W.Frag:=K
theorem walk_of {l:PySem.W.OpenLaw} {n k:Nat} {q:Program} {loose:List Str} {XP:(Str→Option Value)→Heap→Prop} {YP:World→Heap→Prop} {d:DefRec} {K:Params→PySem.W.Frag} {CX:World→CXT} {sp:World→Sp} {x:Str}
  (hn:l.most=some n) (hn2:n≤sizeLine) (hdf:d.params.defaults=[]) (hr:Room k callerA)
  (hY:∀ (w:World) (h:Heap),YP w h→(K w.params).In h)
  (F:∀ (w:World) (mg:Str→Option Value) (fa:Addr) (h:Heap),(K w.params).In h→h.Ns mainGlobals mg→mg d.name=some (.ref fa) →
   ∃ fd:FuncData,(∀ (s:Shared) (u:Value),BindsTo s fd ⟨[u],[]⟩ [(x,u)]) ∧
    ∀ base:Heap,(K w.params).In base→base.Ns mainGlobals mg→FnOk l.prog w (K w.params) mg base (CX w) k fa fd [x] (sp w))
  (hsp:∀ (w:World) (H:Hp) (a:Addr) (ns:List Int),ns.length≤n→y7 H→SqL (K w.params) H a (ns.map V.int)→sp w [.ref a] H (fun v _=>v = .bl true) fun _ _ _=>False)
  (hCX:∀ (w:World) (H:Hp) (s:Shared) (e:Value) (s':Shared),CX w [] H s (fun _ _ _=>False) e s'→False) :
  PySem.W.WalkO q loose XP YP l.row.toRowW d [] (fun f vs=>PySem.call f vs):=by
 refine Att.attach_call hn hdf fun w s₀ s₁ mg mb fa o pm cd doc a vs ns G Y ho hd hcd hmg hobj hints hlen hg => ?_
 have KX:=hY w _ Y
 obtain ⟨fd,hb,hF⟩:=F w mg fa _ KX G.T.g hmg
 exact sg KX G.T.g G.T.b G.T.builtins G.T.nolimit hg hobj hints (Nat.le_trans hlen hn2) hr hF hb (fun H hO hS=>hsp w H a ns hlen hO hS) fun H e s'=>hCX w H s₁ e s'
end L2
namespace L2
open PySem PySem.Spec PyProof.Rows
def ai (s:Stmt) (j:Nat):Stmt:=match s with
 | .ClassDef _ _ _ body _ _ _ _ _ _ _=>body.getD j (.Pass ⟨0,0,0,0⟩)
 | _ => .Pass ⟨0,0,0,0⟩
def gw (s:Stmt):Arguments:=match s with
 | .FunctionDef _ a _ _ _ _ _ _ _ _=>a
 | _=>{posonlyargs:=[],args:=[],vararg:=none,kwonlyargs:=[],kw_defaults:=[],kwarg:=none,defaults:=[]}
def bJ (s:Stmt):List Stmt:=match s with
 | .FunctionDef _ _ b _ _ _ _ _ _ _=>b
 | _=>[]
def ag (s:Stmt):Scope:=match s with
 | .FunctionDef _ _ _ _ _ _ sc _ _ _=>sc
 | _=>{kind := .function,names:=[],isGenerator:=false,isCoroutine:=false}
abbrev CX0:CXT:=fun _ _ _ _ _ _=>False
abbrev E0:XK:=fun _ _ _=>False
theorem az {X:Cx}:cf CX0 X E0:=fun _ _ _ _ _ _ _ h=>h.elim
structure Fun (K:PySem.W.Frag) (x qual:Str) (st:Stmt) (f:Addr) (fd:FuncData):Prop where
 ex:∃ (oc:Value) (od:Option Addr) (kV doc pm:Value) (an:Option Addr) (cdv ct:Value) (osl:Array (Option Value)),
  fd=PySem.W.fnOf x qual (gw st) (bJ st) (ag st) .none kV doc pm an cdv ct∧K.lookup f=some ⟨oc,od,.func fd,osl⟩∧PySem.W.codeIn K cdv qual=true
 kp:PySem.W.keepIn K (.ref f)=true
section
variable {P:Program} {w:World} {K:PySem.W.Frag} {mg:Str→Option Value} {base:Heap}
theorem Fun.ok {x qual:Str} {st:Stmt} {f:Addr} {fd:FuncData} {N ps:List Str} {k:Nat} {sp:Sp} (F:Fun K x qual st f fd) (S:FnScope N ps (ag st)) (len:∀ vs H Q E,sp vs H Q E→vs.length=ps.length)
  (hbody:∀ (cdv:Value) (A:Around) (outer:List Env) (s:Shared) (H:Hp) (vs:List V) (Q:VK) (E:XK),Room k (A.deeper (envOfC qual (ag st) s.heap.objs.size f cdv))→sp vs H Q E →
   ∃ t,PSs (bt CX0 P w K mg base N qual (ag st) f cdv A outer s H E).nox (bJ st) t∧t {nx:=fun _ H'=>Q .non H',rt:=Q} (start N vs) H):FnOk P w K mg base CX0 (k+1) f fd ps sp:=by
 obtain ⟨oc,od,kV,doc,pm,an,cdv,ct,osl,rfl,lk,hcd⟩:=F.ex
 refine wW lk hcd S len fun A outer s H vs Q E hr hsp => ?_
 obtain ⟨t,h,q⟩:=hbody cdv A outer s H vs Q E hr hsp
 exact ⟨t,h.nox,q⟩
theorem Fun.binds {x qual:Str} {st:Stmt} {f:Addr} {fd:FuncData} {ps:List Str} (F:Fun K x qual st f fd)
  (h:∀ (kV doc pm:Value) (an:Option Addr) (cdv ct:Value) (us:List Value),us.length=ps.length→bindArgs (PySem.W.fnOf x qual (gw st) (bJ st) (ag st) .none kV doc pm an cdv ct) ⟨us,[]⟩=pure (ps.zip us)):Binds K fd ps []:=by
 obtain ⟨oc,od,kV,doc,pm,an,cdv,ct,osl,rfl,lk,hcd⟩:=F.ex
 exact .all (h kV doc pm an cdv ct)
theorem w9 {x qual:Str} {st:Stmt} {f:Addr} {oc:Value} {od an:Option Addr} {osl:Array (Option Value)} {kV doc pm cdv ct:Value} (l:K.lookup f=some ⟨oc,od,.func (PySem.W.fnOf x qual (gw st) (bJ st) (ag st) .none kV doc pm an cdv ct),osl⟩)
  (c:PySem.W.codeIn K cdv qual=true) (k:PySem.W.keepIn K (.ref f)=true):Fun K x qual st f (PySem.W.fnOf x qual (gw st) (bJ st) (ag st) .none kV doc pm an cdv ct):=⟨⟨oc,od,kV,doc,pm,an,cdv,ct,osl,rfl,l,c⟩,k⟩
end
theorem bo {n:Nat} (h:n≤1000):n < sizeLine:=Nat.lt_of_le_of_lt h (by decide)
section
variable {X:Cx}
theorem pv (i:Nat) {x:Str} {pos:Pos} (hN:X.N[i]? = some x:=by rfl) (hv:Vis X.env.scope x:=by first | exact Or.inl rfl | exact Or.inr (Or.inl rfl) | exact Or.inr (Or.inr rfl)) (hd:(x == ("__debug__" : Str))=false:=by decide)
  (hcd:(x == ("__classdict__" : Str))=false:=by decide):PE X (.Name x pos) (jb i):=tR hN hv hd hcd
end
theorem wv {A B:Prop} (h:B):if false=true then A else B:=by
 rw [if_neg Bool.false_ne_true]
 exact h
theorem sh {A B:Prop} (h:A):if true=true then A else B:=by
 rw [if_pos rfl]
 exact h
theorem AK {c A B:Prop} [Decidable c] (h1:c→A) (h2:¬ c→B):if c then A else B:=by
 by_cases h:c
 ·rw [if_pos h]
  exact h1 h
 ·rw [if_neg h]
  exact h2 h
def Same (H H':Hp):Prop:=∀ b o,H b=some o→H' b=some o
theorem Same.refl (H:Hp):Same H H:=fun _ _ h=>h
theorem Same.trans {H H1 H2:Hp} (a:Same H H1) (b:Same H1 H2):Same H H2:=fun c o h=>b c o (a c o h)
theorem Same.free {H H':Hp} (e:Same H H') {l:Addr} (h:H' l=Option.none):H l=Option.none:=by
 cases q:H l with
 | none=>rfl
 | some o=>
  rw [e l o q] at h
  cases h
theorem Same.seq {K:PySem.W.Frag} {H H':Hp} {a:Addr} {xs:List V} (e:Same H H') (h:SqL K H a xs):SqL K H' a xs:=by
 rcases h with (h | ⟨o,h⟩) | h
 ·exact .inl (.inl (e _ _ h))
 ·exact .inl (.inr ⟨o,e _ _ h⟩)
 ·exact .inr h
end L2
set_option maxHeartbeats 4000000
namespace L2
open PySem PySem.Spec PyProof.Rows
def cZ (env:Env) (cs:List (Str×Addr)) (y:Str×NameKind):List (Str×Addr):=
 if (y.2 == NameKind.free)=true then (y.1,(env.cells.lookup y.1).getD 0) :: cs else cs
def uT (scope:Scope) (env:Env):List (Str×Addr):=scope.names.foldl (cZ env) []
theorem uU {scope:Scope} {env:Env} (h:∀ y∈scope.names,y.2 = .free→∃ c,env.cells.lookup y.1=some c):closureFor scope env=pure (uT scope env):=by
 have main:∀ (l:List (Str×NameKind)) (cs:List (Str×Addr)),(∀ y∈l,y.2 = .free→∃ c,env.cells.lookup y.1=some c) →
   (forIn l cs fun (y:Str×NameKind) (r:List (Str×Addr))=>match y with | (name,kind)=>if (kind == NameKind.free)=true then (do let a ← cellOf env name;pure (ForInStep.yield ((name,a) :: r)):Sem _) else pure (ForInStep.yield r))=(pure (l.foldl (cZ env) cs):Sem _):=by
  intro l
  induction l with
  | nil=>intro cs _;rfl
  | cons y l ih=>
   intro cs hl
   obtain ⟨n,k⟩:=y
   rw [List.forIn_cons,List.foldl_cons]
   have hr:=fun cs'=>ih cs' fun z hz=>hl z (List.mem_cons_of_mem _ hz)
   by_cases hk:(k == NameKind.free)=true
   ·obtain ⟨c,hc⟩:=hl (n,k) List.mem_cons_self (by simpa using hk)
    have hc:env.cells.lookup n=some c:=hc
    have e1:cZ env cs (n,k)=(n,c) :: cs:=by unfold cZ;rw [if_pos hk,hc];rfl
    have e2:cellOf env n=pure c:=by unfold cellOf;rw [hc]
    rw [e1,← hr]
    simp only [if_pos hk,e2]
    rfl
   ·have e1:cZ env cs (n,k)=cs:=by unfold cZ;rw [if_neg hk]
    rw [e1,← hr]
    simp only [if_neg hk]
    rfl
 unfold uT closureFor
 have:=main scope.names [] h
 show (forIn scope.names [] _ >>= fun r=>pure r)=_
 rw [this]
 rfl
theorem t0 {env:Env}:∀ {l:List (Str×NameKind)} {cs:List (Str×Addr)} {p:Str×Addr},p∈l.foldl (cZ env) cs→p∈cs∨((p.1,NameKind.free)∈l∧p.2=(env.cells.lookup p.1).getD 0)
 | [],_,_,h => .inl h
 | y :: l,cs,p,h=>by
  rcases t0 (l:=l) h with h | ⟨h,e⟩
  ·unfold cZ at h
   by_cases hk:(y.2 == NameKind.free)=true
   ·rw [if_pos hk] at h
    rcases List.mem_cons.mp h with rfl | h
    ·refine .inr ⟨?_,rfl⟩
     have e:y.2=NameKind.free:=by simpa using hk
     rw [← e]
     exact List.mem_cons_self
    ·exact .inl h
   ·rw [if_neg hk] at h;exact .inl h
  ·exact .inr ⟨List.mem_cons_of_mem _ h,e⟩
theorem t4 {env:Env}:∀ {l:List (Str×NameKind)} {cs:List (Str×Addr)} {x:Str},((x,NameKind.free)∈l∨∃ c,(x,c)∈cs)→∃ c,(x,c)∈l.foldl (cZ env) cs
 | [],_,_,h=>by
  rcases h with h | h
  ·cases h
  ·exact h
 | y :: l,cs,x,h=>by
  refine t4 (l:=l) ?_
  rcases h with h | ⟨c,h⟩
  ·rcases List.mem_cons.mp h with e | h
   ·subst e
    exact .inr ⟨_,by unfold cZ;rw [if_pos (by rfl)];exact List.mem_cons_self⟩
   ·exact .inl h
  ·refine .inr ⟨c,?_⟩
   unfold cZ
   split
   ·exact List.mem_cons_of_mem _ h
   ·exact h
theorem fH {α:Type}:∀ {l:List (Str×α)} {x:Str} {c:α},(x,c)∈l→∃ d,l.lookup x=some d
 | [],_,_,h=>by cases h
 | (n,d) :: l,x,c,h=>by
  by_cases e:(x == n)=true
  ·exact ⟨d,by rw [List.lookup_cons,e]⟩
  ·rcases List.mem_cons.mp h with q | h
   ·cases q;simp at e
   ·obtain ⟨d',hd⟩:=fH h
    exact ⟨d',by rw [List.lookup_cons,Bool.eq_false_iff.mpr e];exact hd⟩
theorem db {env:Env}:∀ {names:List (Str×NameKind)} {x:Str} {k:NameKind},(∀ y∈names,y.2 ≠ .cell)→(k = .cell∨k = .free) →
  (names.map fun (n,k)=>if (k == NameKind.free && env.scope.kind == .function && env.kindOf n == some .cell) then (n,NameKind.cell) else (n,k)).lookup x=some k→(x,NameKind.free)∈names
 | [],_,_,_,_,h=>by simp at h
 | (n,k') :: r,x,k,hc,hk,h=>by
  have ih:=@db env r x k (fun y hy=>hc y (List.mem_cons_of_mem _ hy)) hk
  rw [List.map_cons,List.lookup_cons] at h
  by_cases hx:(x == n)=true
  ·have e:x=n:=by simpa using hx
   subst e
   by_cases hb:(k' == NameKind.free && env.scope.kind == .function && env.kindOf x == some .cell)=true
   ·have:k' = .free:=by
     have:=(Bool.and_eq_true_iff.mp (Bool.and_eq_true_iff.mp hb).1).1
     simpa using this
    subst this
    exact List.mem_cons_self
   ·simp only [if_neg hb,hx] at h
    have e2:k'=k:=Option.some.inj h
    subst e2
    rcases hk with z | z
    ·exact absurd z (hc _ List.mem_cons_self)
    ·subst z;exact List.mem_cons_self
  ·have hx':(x == n)=false:=Bool.eq_false_iff.mpr hx
   by_cases hb:(k' == NameKind.free && env.scope.kind == .function && env.kindOf n == some .cell)=true
   ·simp only [if_pos hb,hx'] at h
    exact List.mem_cons_of_mem _ (ih h)
   ·simp only [if_neg hb,hx'] at h
    exact List.mem_cons_of_mem _ (ih h)
theorem gR {env:Env}:∀ {names:List (Str×NameKind)} {x:Str},names.lookup x=some .free →
  (names.map fun (n,k)=>if (k == NameKind.free && env.scope.kind == .function && env.kindOf n == some .cell) then (n,NameKind.cell) else (n,k)).lookup x=some .cell ∨
  (names.map fun (n,k)=>if (k == NameKind.free && env.scope.kind == .function && env.kindOf n == some .cell) then (n,NameKind.cell) else (n,k)).lookup x=some .free
 | [],_,h=>by simp at h
 | (n,k') :: r,x,h=>by
  have ih:=@gR env r x
  rw [List.lookup_cons] at h
  rw [List.map_cons,List.lookup_cons]
  by_cases hx:(x == n)=true
  ·simp only [hx] at h
   have e:k' = .free:=Option.some.inj h
   subst e
   by_cases hb:(NameKind.free == NameKind.free && env.scope.kind == .function && env.kindOf n == some .cell)=true
   ·left;simp only [if_pos hb,hx]
   ·right;simp only [if_neg hb,hx]
  ·have hx':(x == n)=false:=Bool.eq_false_iff.mpr hx
   simp only [hx'] at h
   by_cases hb:(k' == NameKind.free && env.scope.kind == .function && env.kindOf n == some .cell)=true
   ·simp only [if_pos hb,hx'];exact ih h
   ·simp only [if_neg hb,hx'];exact ih h
def gS (sc scope:Scope) (N:List Str) (x:Str) (fv:List Str) (js:List Nat):Bool:=
 (scope.kind == .function) && scope.names.all (fun y => !(y.2 == NameKind.cell)) && scope.names.all (fun y => !(y.2 == NameKind.local) || scope.names.lookup y.1 == some .local)
 && (scope.names.lookup x == some .local) && decide ((fv++[x]).Nodup) && (fv.map some == js.map (fun j=>N[j]?))
 && fv.all (fun y=>scope.names.lookup y == some .free)
 && scope.names.all (fun y => !(y.2 == NameKind.free) || sc.names.lookup y.1 == some .cell || sc.names.lookup y.1 == some .free)
structure Caps (sc scope:Scope) (N:List Str) (x:Str) (fv:List Str) (js:List Nat):Prop where
 kind:scope.kind = .function
 nocell:∀ y∈scope.names,y.2 ≠ .cell
 names:∀ y∈scope.names,y.2 = .local→scope.names.lookup y.1=some .local
 tgt:scope.names.lookup x=some .local
 nd:(fv++[x]).Nodup
 cap:fv.map some=js.map (fun j=>N[j]?)
 see:∀ y∈fv,scope.names.lookup y=some .free
 fre:∀ y∈scope.names,y.2 = .free→sc.names.lookup y.1=some .cell∨sc.names.lookup y.1=some .free
theorem Caps.of {sc scope:Scope} {N:List Str} {x:Str} {fv:List Str} {js:List Nat} (h:gS sc scope N x fv js=true):Caps sc scope N x fv js:=by
 unfold gS at h
 simp only [Bool.and_eq_true,List.all_eq_true,Bool.or_eq_true,Bool.not_eq_true',beq_iff_eq,decide_eq_true_eq] at h
 obtain ⟨⟨⟨⟨⟨⟨⟨h1,h2⟩,h3⟩,h4⟩,h5⟩,h6⟩,h7⟩,h8⟩:=h
 refine ⟨by simpa using h1,fun y hy e => ?_,fun y hy e => ?_,by simpa using h4,h5,h6,fun y hy=>by simpa using h7 y hy,fun y hy e => ?_⟩
 ·have:=h2 y hy
  rw [e] at this;simp at this
 ·rcases h3 y hy with z | z
  ·rw [e] at z;simp at z
  ·simpa using z
 ·rcases h8 y hy with (z | z) | z
  ·rw [e] at z;simp at z
  ·exact .inl (by simpa using z)
  ·exact .inr (by simpa using z)
def cxC (X:Cx) (N:List Str) (scope:Scope) (fp:List Addr) (s:Shared) (H:Hp):Cx where
 prog:=X.prog
 w:=X.w
 K:=X.K
 mg:=X.mg
 base:=X.base
 A:=X.A
 N:=N
 s₀:=s
 H₀:=H
 env:=compEnvC scope (uT scope X.env) s.heap.objs.size X.env
 outer:=X.stack
 stack:=X.stack
 ex:=fp
 fn:=fun _=>false
 calm:=X.calm
 pn:=[]
 xe:=fun _ _=>False
def lT (σ:St) (js:List Nat):St:=js.map fun j=>σ.getD j none
section
variable {X:Cx} {pins:List (Addr×Obj)} {σ:St} {H:Hp} {s:Shared} {scope:Scope} {x:Str} {fv:List Str} {js:List Nat} {fp:List Addr}
theorem Inv.capCell (I:Inv X pins σ H s) (C:Caps X.env.scope scope X.N x fv js) {y:Str} {c:Addr} (h:(uT scope X.env).lookup y=some c):X.env.cells.lookup y=some c:=by
 have hm:(y,c)∈scope.names.foldl (cZ X.env) []:=PySem.mem_of_lookup h
 rcases t0 hm with z | ⟨z,e⟩
 ·cases z
 ·obtain ⟨c',hc⟩:=I.ok.has y (C.fre _ z rfl)
  have e':c=c':=by
   have e:c=(X.env.cells.lookup y).getD 0:=e
   rw [hc] at e
   exact e
  rw [hc,e']
theorem Inv.capHas (C:Caps X.env.scope scope X.N x fv js) {y:Str} (h:(y,NameKind.free)∈scope.names):∃ c,(uT scope X.env).lookup y=some c:=by
 obtain ⟨c,hc⟩:=t4 (env:=X.env) (cs:=[]) (.inl h)
 exact fH hc
theorem Caps.len {sc:Scope} {N:List Str} (C:Caps sc scope N x fv js):js.length=fv.length:=by
 have:=congrArg List.length C.cap
 rw [List.length_map,List.length_map] at this
 exact this.symm
theorem pG {h1:Heap} {t':Nat} {m1:Str→Option Value} (I:Inv X pins σ H s) (C:Caps X.env.scope scope X.N x fv js) (hf:∀ b∈fp,oS X pins H b) (hlt:∀ b∈fp,b < s.heap.objs.size)
  (hn:h1.Ns s.heap.objs.size m1) (hk:∀ b o,s.heap.get? b=some o→h1.get? b=some o) :
  Inv (cxC X (fv++[x]) scope fp s H) [] (lT σ js++[none]) H {s with heap:=h1,toks:=t'}:=by
 have jl:=C.len
 refine ⟨⟨I.ok.mod,C.kind,I.ok.glob,I.ok.blt,Nat.le_refl _,fun y z c e1 e2 => ?_,fun y hy => ?_,fun y c e _ => ?_,I.ok.hd,I.ok.frames,.inl rfl,fun b hb=>⟨?_,fun y c e => ?_⟩,I.bs,Nat.le_trans I.ok.bsz I.sz,fun b o e hb => ?_,fun b hb z => ?_,I.stack,I.stkFree⟩,
  rfl,I.bare,Un.kept hk,⟨m1,hn,fun i y v e1 e2 e3 => ?_⟩,fun y c e => ?_,I.hok.fresh (Nat.le_refl _),fun y c e => ?_,fun p hp=>absurd (show p∈([]:List (Addr×Obj)) from hp) (by simp),I.hok.kept hk,?_⟩
 ·exact I.ok.inj y z c (I.capCell C e1) (I.capCell C e2)
 ·refine Inv.capHas C (?_:(y,NameKind.free)∈scope.names)
  rcases hy with hy | hy
  ·exact db C.nocell (.inl rfl) hy
  ·exact db C.nocell (.inr rfl) hy
 ·cases e
 ·exact Nat.ne_of_lt (hlt b hb)
 ·exact (hf b hb).2.2.2.2.1 y c (I.capCell C e)
 ·rcases (hf b hb).2.2.2.1 with z | z
  ·exact I.ok.noex b o e z
  ·have h1:b < X.base.objs.size:=Heap.lt_size e
   have h2:=I.ok.bsz
   have z':X.s₀.heap.objs.size≤b:=z
   exact absurd (Nat.lt_of_lt_of_le h1 (Nat.le_trans h2 z')) (Nat.lt_irrefl _)
 ·rcases List.mem_cons.mp (I.stkSub b z) with q | q
  ·exact (hf b hb).2.1 q
  ·exact (hf b hb).2.2.1 q
 ·have e1:(fv++[x])[i]? = some y:=e1
  by_cases hi:i < fv.length
  ·rw [List.getElem?_append_left hi] at e1
   have hij:i < js.length:=by omega
   rw [List.getElem?_append_left (by unfold lT;rw [List.length_map];exact hij)] at e2
   unfold lT at e2
   rw [List.getElem?_map,List.getElem?_eq_getElem hij] at e2
   have e2':σ.getD js[i] none=some v:=Option.some.inj e2
   have hc:=congrArg (fun l=>l[i]?) C.cap
   simp only [List.getElem?_map] at hc
   rw [e1,List.getElem?_eq_getElem hij] at hc
   have hN:X.N[js[i]]? = some y:=(Option.some.inj hc).symm
   have hσ:σ[js[i]]? = some (some v):=by
    rw [List.getD_eq_getElem?_getD] at e2'
    cases q:σ[js[i]]? with
    | none=>rw [q] at e2';cases e2'
    | some o=>rw [q] at e2';exact congrArg some e2'
   have hy:y∈fv:=List.mem_of_getElem? e1
   have hfree:=PySem.mem_of_lookup (C.see y hy)
   have hout:=C.fre _ hfree rfl
   obtain ⟨m,_,hl⟩:=I.loc
   obtain ⟨u,r,l⟩:=hl _ y v hN hσ (hout.elim (fun z => .inr (.inl z)) fun z => .inr (.inr z))
   refine ⟨u,r,?_⟩
   rcases l with ⟨k,_⟩ | ⟨_,c,hc,hcell⟩
   ·have k:X.env.scope.names.lookup y=some .local:=k
    rcases hout with z | z <;> rw [k] at z <;> cases z
   ·obtain ⟨c',hc'⟩:=Inv.capHas (X:=X) C hfree
    have q:=I.capCell C hc'
    rw [hc] at q
    cases q
    refine .inr ⟨gR (C.see y hy),c,hc',?_⟩
    obtain ⟨o,ho,hd⟩:=hcell
    exact ⟨o,hk _ _ ho,hd⟩
  ·have hl:(lT σ js).length=fv.length:=by unfold lT;rw [List.length_map];exact jl
   rw [List.getElem?_append_right (by omega)] at e2
   have:i - (lT σ js).length=0∨1≤i - (lT σ js).length:=by omega
   rcases this with z | z
   ·rw [z] at e2;cases e2
   ·rw [List.getElem?_eq_none (by simpa using z)] at e2;cases e2
 ·obtain ⟨v,o,ho,hd⟩:=I.cell y c (I.capCell C e)
  exact ⟨v,o,hk _ _ ho,hd⟩
 ·exact I.freeC y c (I.capCell C e)
 ·show (lT σ js++[none]).length=(fv++[x]).length
  unfold lT
  rw [List.length_append,List.length_append,List.length_map,jl]
  rfl
def bc:TT:=fun _ H Q=>Q true H
def Bp (J:It) (te:TE) (caps:St) (D:Addr) (W:Nat→Nat→List V→Hp→Prop) (Q:VK):Prop:=
 ∀ i n ys Hc,W i n ys Hc→Hc D=some (.lst ys)∧((J.stop i Hc∧Q (.ref D) Hc) ∨
  (J.go i Hc∧ys.length < sizeLine∧∀ v H',J.yld i Hc v H'→te (caps++[some v]) H' fun y H2=>H2 D=some (.lst ys)∧∃ n',n' < n∧W (i+1) n' (ys++[y]) (upd H2 D (.lst (ys++[y])))))
def de (J:It) (tt:TT) (te:TE) (caps:St) (D:Addr) (W:Nat→Nat→List V→Hp→Prop) (Q:VK):Prop:=
 ∀ i n ys Hc,W i n ys Hc→Hc D=some (.lst ys)∧((J.stop i Hc∧Q (.ref D) Hc) ∨
  (J.go i Hc∧ys.length < sizeLine∧∀ v H',J.yld i Hc v H'→tt (caps++[some v]) H' fun b H1=>
   if b=true then te (caps++[some v]) H1 fun y H2=>H2 D=some (.lst ys)∧∃ n',n' < n∧W (i+1) n' (ys++[y]) (upd H2 D (.lst (ys++[y])))
   else H1 D=some (.lst ys)∧∃ n',n' < n∧W (i+1) n' ys H1))
theorem xa {α β:Type} {M:Model} {A:Around} {a:α} {t:Sem β} {Q:α→Shared→Prop} {Q':β→Shared→Prop} {E E':Value→Shared→Prop} {s1:Shared} (h:wpAny M A (pure a:Sem α) Q E s1) (k:Q a s1→wpAny M A t Q' E' s1):wpAny M A t Q' E' s1:=
 fun G p hG=>k (h G p hG) G p hG
theorem jO {σc:St} {Hc:Hp} {sc:Shared} {Nc:List Str} {pc:List (Addr×Obj)} (I:Inv (cxC X Nc scope fp s H) pc σc Hc sc) (hn:∀ b∈fp,Hc b=none) (hp:pc=[]):∀ b∈fp,oS (cxC X Nc scope fp s H) pc Hc b:=fun b hb=>by
 subst hp
 exact ⟨hn b hb,(I.ok.exf b hb).1,I.ok.exfs b hb,.inl hb,(I.ok.exf b hb).2,fun p hp=>absurd (show p∈([]:List (Addr×Obj)) from hp) (by simp)⟩
theorem si (l:St) (o:Option V) (v:V):(l++[o]).set l.length (some v)=l++[some v]:=by
 rw [List.set_append_right _ _ (Nat.le_refl _),Nat.sub_self]
 rfl
theorem pH {elt iter:Expr} {tt:TT} {te:TE} {ifs:List Expr} {px pos:Pos} {it D:Addr} {J:It} {tn:Nat→Heap→Prop} {W:Nat→Nat→List V→Hp→Prop} {Q:VK} {R:Result→Shared→Prop} {s1:Shared} {n:Nat} {caps:St}
  (C:Caps X.env.scope scope X.N x fv js) (hcalm:X.calm=true) (hcl:caps.length=fv.length) (T:Turn X.prog X.w X.K (.Name x px) J fp it tn) (he:PE (cxC X (fv++[x]) scope fp s H) elt te)
  (ht:(ifs=[]∧tt=bc)∨∃ c,ifs=[c]∧PT (cxC X (fv++[x]) scope fp s H) c tt)
  (uj:de J tt te caps D W Q) (I1:Inv (cxC X (fv++[x]) scope fp s H) [] (caps++[none]) H s1) (st1:tn 0 s1.heap) (hf1:∀ b∈fp,H b=none) (w1:W 0 n [] H)
  (hR:∀ s' Hc o,Inv (cxC X (fv++[x]) scope fp s H) [] (caps++[o]) Hc s'→Q (.ref D) Hc→R (.ok .next) s') :
  codeAny (model X.prog X.w) X.A (.compLoop (.ListComp elt [⟨.Name x px,iter,ifs,0⟩] scope pos) 0 (.ref it) (.ref D) (cxC X (fv++[x]) scope fp s H).env) R s1:=by
 have tgt:PG (cxC X (fv++[x]) scope fp s H) (.Name x px) (cy fv.length):=
  bj C.nd (by show (fv++[x])[fv.length]? = some x;simp) (.inl (lookup_relabel_local C.tgt)) (.inr (lookup_relabel_local C.tgt))
 refine codeAny_compLoop_tests (fun m s'=>∃ i ys Hc o,Inv (cxC X (fv++[x]) scope fp s H) [] (caps++[o]) Hc s'∧tn i s'.heap∧(∀ b∈fp,Hc b=none)∧W i m ys Hc) ?_ n ⟨0,[],H,none,I1,st1,hf1,w1⟩
 rintro m s3 ⟨i,ys,H3,o,I3,st3,fr3,w3⟩
 obtain ⟨hD,hw⟩:=uj i m ys H3 w3
 rcases hw with ⟨stop,q⟩ | ⟨go,hz,step⟩
 ·refine wpAny_mono (T.done (cxC X (fv++[x]) scope fp s H) rfl rfl rfl hcalm i [] s3 _ H3 (fun _ _=>False) I3 (jO I3 fr3 rfl) st3 stop) (fun r s4 ⟨hr,I4⟩ => ?_) fun _ _ f=>f.elim
  subst hr
  exact hR s4 H3 o I4 q
 ·refine wpAny_mono (T.item (cxC X (fv++[x]) scope fp s H) rfl rfl rfl hcalm i [] s3 _ H3 (fun _ _=>False) I3 (jO I3 fr3 rfl) st3 go) (fun r s4 ⟨u,hr,h4⟩ => ?_) fun _ _ f=>f.elim
  subst hr
  refine xa (a:=()) h4 fun ⟨v,H5,I5,r5,y5,st5,fr5⟩ => ?_
  have I5':=I5.pinned (jO I5 fr5 rfl) (T.obj _ _ st5)
  refine wpAny_mono (tgt _ s4 _ H5 v u (fun σ' H'=>σ'=caps++[some v]∧H'=H5) I5' r5 ⟨by rw [← hcl];exact si caps o v,rfl⟩) (fun _ s6 ⟨σ6,H6,I6,e1,e2⟩ => ?_) fun _ _ f=>f.elim
  subst e1
  subst e2
  have again:∀ {o7:Option V} {H7:Hp} {ys7:List V} {s7:Shared},Inv (cxC X (fv++[x]) scope fp s H) ([]++jq fp s4.heap) (caps++[o7]) H7 s7→(∃ n',n' < m∧W (i+1) n' ys7 H7) →
    ∃ m',m' < m∧∃ i ys Hc o,Inv (cxC X (fv++[x]) scope fp s H) [] (caps++[o]) Hc s7∧tn i s7.heap∧(∀ b∈fp,Hc b=none)∧W i m' ys Hc:=fun {o7 H7 ys7 s7} I7 ⟨n',hn',w7⟩=>by
   refine ⟨n',hn',i+1,ys7,H7,o7,I7.unpinned,T.keep _ _ _ st5 fun b hb o e=>(I7.pin (b,o) (List.mem_append_right _ (List.mem_append_right _ (dH hb e)))).1,fun b hb => ?_,w7⟩
   obtain ⟨o,e,_⟩:=T.obj _ _ st5 b hb
   exact (I7.pin (b,o) (List.mem_append_right _ (List.mem_append_right _ (dH hb e)))).2.1
  have st:=step v H6 y5
  have after:∀ s8 H8,Inv (cxC X (fv++[x]) scope fp s H) ([]++jq fp s4.heap) (caps++[some v]) H8 s8 →
    (te (caps++[some v]) H8 fun y H2=>H2 D=some (.lst ys)∧∃ n',n' < m∧W (i+1) n' (ys++[y]) (upd H2 D (.lst (ys++[y]))))→∀ E':Value→Shared→Prop,
    wpAny (model X.prog X.w) X.A (eval elt (cxC X (fv++[x]) scope fp s H).env) (fun x' s9=>wpAny (model X.prog X.w) X.A (call (.builtin "list.append") [.ref D,x']) (fun _ s10=>∃ m',m' < m∧∃ i ys Hc o,Inv (cxC X (fv++[x]) scope fp s H) [] (caps++[o]) Hc s10∧tn i s10.heap∧(∀ b∈fp,Hc b=none)∧W i m' ys Hc) E' s9) E' s8:=fun s8 H8 I8 hq E'=>by
   refine wpAny_mono (he _ s8 _ H8 _ I8 hq) (fun u9 s9 ⟨y,H9,I9,r9,hD9,hw9⟩ => ?_) fun _ _ f=>f.elim
   refine wpAny_mono (bD (X:=cxC X (fv++[x]) scope fp s H) _ s9 _ H9 (.ref D) [y] (.ref D) [u9] (fun _ H'=>H'=upd H9 D (.lst (ys++[y]))) I9 rfl (.cons r9 .nil) ⟨D,ys,y,rfl,rfl,hD9,hz,rfl⟩) (fun _ s10 ⟨_,H10,I10,_,e10⟩ => ?_) fun _ _ f=>f.elim
   subst e10
   exact again I10 hw9
  rcases ht with ⟨rfl,rfl⟩ | ⟨c,rfl,hc⟩
  ·have st':te (caps++[some v]) H6 fun y H2=>H2 D=some (.lst ys)∧∃ n',n' < m∧W (i+1) n' (ys++[y]) (upd H2 D (.lst (ys++[y]))):=by
    have z:=st
    unfold bc at z
    dsimp only at z
    rw [if_pos rfl] at z
    exact z
   show wpAny _ _ (pure true) _ _ _
   exact wpAny_pure (after s6 H6 I6 st' _)
  ·show wpAny _ _ (forIn [c] true _) _ _ _
   rw [List.forIn_cons]
   refine wpAny_bind (wpAny_bind (wpAny_mono (hc _ s6 _ H6 _ I6 st) (fun b s7 ⟨H7,I7,q7⟩ => ?_) fun _ _ f=>f.elim))
   refine wpAny_pure ?_
   show wpAny _ _ (pure b) _ _ _
   refine wpAny_pure ?_
   cases b with
   | true=>exact after s7 H7 I7 q7 _
   | false=>exact again I7 q7.2
def jP (wi:TI) (tt:TT) (te:TE) (js:List Nat):TE:=fun σ H Q=>wi σ H fun J H1=>∀ D,H1 D=none→∃ W:Nat→Nat→List V→Hp→Prop,(∃ n,W 0 n [] (upd H1 D (.lst [])))∧de J tt te (lT σ js) D W Q
theorem jx {elt iter:Expr} {tt:TT} {te:TE} {ifs:List Expr} {px pos:Pos} {J:It} {it:Addr} {tn:Nat→Heap→Prop} {Q:VK} {RR:Value→Addr→Result→Shared→Prop} {H2:Hp} {s2:Shared} {E:Value→Shared→Prop}
  (C:Caps X.env.scope scope X.N x fv js) (hcalm:X.calm=true) (he:∀ fp s H,PE (cxC X (fv++[x]) scope fp s H) elt te) (ht:(ifs=[]∧tt=bc)∨∃ c,ifs=[c]∧∀ fp s H,PT (cxC X (fv++[x]) scope fp s H) c tt)
  (I2:Inv X pins σ H2 s2) (T:Turn X.prog X.w X.K (.Name x px) J fp it tn) (st2:tn 0 s2.heap) (f2:∀ b∈fp,oS X pins H2 b)
  (q2:∀ D,H2 D=none→∃ W:Nat→Nat→List V→Hp→Prop,(∃ n,W 0 n [] (upd H2 D (.lst [])))∧de J tt te (lT σ js) D W Q)
  (hRR:∀ D F s' H' m,Inv X pins σ H' s'→oS X pins H' F→s'.heap.Ns F m→Q (.ref D) H'→RR (.ref D) F (.ok .next) s') :
  wpAny (model X.prog X.w) X.A (newList []) (fun acc s3=>wpAny (model X.prog X.w) X.A (newFunctionEnv scope X.env.globals (uT scope X.env) [] X.env.qual none .none (some X.env)) (fun cenv s4=>
   codeAny (model X.prog X.w) X.A (.compStart (.ListComp elt [⟨.Name x px,iter,ifs,0⟩] scope pos) 0 (.ref it) acc {cenv with scope:=relabel scope X.env}) (RR acc cenv.locals) s4) E s3) E s2:=by
 refine wpAny_newObj_type (wpAny_newFunctionEnv C.nocell (fun y hy=>absurd hy (by simp)) (fun h1 hns hsb => ?_) C.kind)
 dsimp only at hns hsb ⊢
 have hD:=I2.hok.fresh (Nat.le_refl s2.heap.objs.size)
 have I3:Inv X pins σ (upd H2 s2.heap.objs.size (.lst [])) {s2 with heap:=s2.heap.push {cls := .type "list",data := .seq ([]:List Value).toArray}}:=I2.lnew (t':=s2.toks) (its:=[]) (ys:=[]) .nil (Nat.zero_le _)
 obtain ⟨W,⟨n,w0⟩,uj⟩:=q2 _ hD
 have lt2:∀ b∈fp,b < s2.heap.objs.size:=fun b hb=>by
  obtain ⟨o,e,_⟩:=T.obj _ _ st2 b hb
  exact Heap.lt_size e
 have fr3:∀ b∈fp,upd H2 s2.heap.objs.size (.lst []) b=none:=fun b hb=>by
  rw [aP (Nat.ne_of_lt (lt2 b hb))]
  exact (f2 b hb).1
 have f3:∀ b∈fp,oS X pins (upd H2 s2.heap.objs.size (.lst [])) b:=fun b hb=>⟨fr3 b hb,(f2 b hb).2⟩
 generalize hs3:({s2 with heap:=s2.heap.push {cls := .type "list",data := .seq ([]:List Value).toArray}}:Shared)=s3 at I3
 have e3:s3.heap=s2.heap.push {cls := .type "list",data := .seq ([]:List Value).toArray}:=by rw [← hs3]
 have lt3:∀ b∈fp,b < s3.heap.objs.size:=fun b hb=>by
  rw [e3,Heap.size_push]
  exact Nat.lt_succ_of_lt (lt2 b hb)
 have hk:∀ b o,s3.heap.get? b=some o→h1.get? b=some o:=fun b o e=>by
  rw [e3] at e
  exact hsb.extBut b o (Nat.ne_of_lt (Heap.lt_size e)) (Heap.get?_push_of_some _ e)
 have st3:tn 0 h1:=T.keep _ _ _ st2 fun b _ o e=>hk b o (by rw [e3];exact Heap.get?_push_of_some _ e)
 have hns3:h1.Ns s3.heap.objs.size (fun x=>([]:List (Str×Value)).reverse.lookup x):=by rw [e3];exact hns
 have Ib:=pG (t':=s3.toks+([]:List (Str×Value)).length) I3 C f3 lt3 hns3 hk
 have jl:(lT σ js).length=fv.length:=by unfold lT;rw [List.length_map];exact C.len
 have loop:=pH (elt:=elt) (iter:=iter) (ifs:=ifs) (px:=px) (pos:=pos) (R:=RR (.ref s2.heap.objs.size) s3.heap.objs.size) (Q:=Q) C hcalm jl T (he fp s3 _) (ht.imp (fun z=>z) fun ⟨c,e,z⟩=>⟨c,e,z fp s3 _⟩) uj Ib st3 fr3 w0 fun s' Hc o Ic qc=>by
  obtain ⟨m,hm,_⟩:=Ic.loc
  have IX:Inv X pins σ Hc s':=I3.call' Ic.os Ic.base Ic.hok Ic.bare fun b hb=>⟨(f3 b hb).2.2.2.1,(f3 b hb).2.1,(f3 b hb).2.2.2.2.1,(f3 b hb).2.2.2.2.2⟩
  exact hRR _ _ s' Hc m IX (I3.fpOk (Nat.le_refl _) Ic.free) hm qc
 subst hs3
 exact codeAny_compStart_list loop (T.self _ 0 _ _ _ st3 loop)
theorem Inv.frameGone {H':Hp} {s':Shared} {F:Addr} {h':Heap} (I:Inv X pins σ H' s') (f:oS X pins H' F) (hs:Heap.SameBut F s'.heap h'):Inv X pins σ H' {s' with heap:=h'}:=
 I.turned (t':=s'.toks) (fun b o hb e=>hs.extBut b o hb e) f.1 f.2.1 f.2.2.2.1 f.2.2.2.2.1 f.2.2.2.2.2
theorem t5 (I:Inv X pins σ H s) (C:Caps X.env.scope scope X.N x fv js):closureFor scope X.env=pure (uT scope X.env):=uU fun y hy e=>I.ok.has y.1 (C.fre y hy e)
theorem ng {elt iter:Expr} {wi:TI} {tt:TT} {te:TE} {ifs:List Expr} {px pos:Pos} (hC:gS X.env.scope scope X.N x fv js=true) (hcalm:X.calm=true) (hi:PI X (.Name x px) iter wi) (he:∀ fp s H,PE (cxC X (fv++[x]) scope fp s H) elt te)
  (ht:(ifs=[]∧tt=bc)∨∃ c,ifs=[c]∧∀ fp s H,PT (cxC X (fv++[x]) scope fp s H) c tt) (hs:∀ v,foldedSetIterable iter X.env v=pure v) :
  PE X (.ListComp elt [⟨.Name x px,iter,ifs,0⟩] scope pos) (jP wi tt te js):=by
 intro pins s σ H Q I h
 have C:=Caps.of hC
 rw [eval_ListComp]
 refine wpAny_comprehension_free (use:=none) rfl hs (t5 I C) C.kind C.names (thn (hi pins s σ H _ I h) fun v s1 h1=>thn h1 fun itv s2 h2 => ?_)
 obtain ⟨it,fp,tn,J,H2,e,I2,T,st2,f2,q2⟩:=h2
 subst e
 exact jx (RR:=fun acc F=>compPost (model X.prog X.w) X.A X.xe none (EP X pins σ Q) acc F) C hcalm he ht I2 T st2 f2 q2 fun D F s' H' m I' f hm q=>⟨m,hm,fun h' hs'=>⟨.ref D,H',I'.frameGone f hs',rfl,q⟩⟩
theorem cz {elt iter:Expr} {wi:TI} {te:TE} {px pos:Pos} (fv:List Str) (js:List Nat) (hi:PI X (.Name x px) iter wi) (he:∀ fp s H,PE (cxC X (fv++[x]) scope fp s H) elt te)
  (hC:gS X.env.scope scope X.N x fv js=true:=by rfl) (hcalm:X.calm=true:=by rfl) (hs:∀ v,foldedSetIterable iter X.env v=pure v:=by intro _;rfl) :
  PE X (.ListComp elt [⟨.Name x px,iter,[],0⟩] scope pos) (jP wi bc te js):=ng hC hcalm hi he (.inl ⟨rfl,rfl⟩) hs
theorem nh {elt iter c:Expr} {wi:TI} {tt:TT} {te:TE} {px pos:Pos} (fv:List Str) (js:List Nat) (hi:PI X (.Name x px) iter wi) (ht:∀ fp s H,PT (cxC X (fv++[x]) scope fp s H) c tt) (he:∀ fp s H,PE (cxC X (fv++[x]) scope fp s H) elt te)
  (hC:gS X.env.scope scope X.N x fv js=true:=by rfl) (hcalm:X.calm=true:=by rfl) (hs:∀ v,foldedSetIterable iter X.env v=pure v:=by intro _;rfl) :
  PE X (.ListComp elt [⟨.Name x px,iter,[c],0⟩] scope pos) (jP wi tt te js):=ng hC hcalm hi he (.inr ⟨c,rfl,ht⟩) hs
theorem ni {i:Nat} {y:Str} {elt iter:Expr} {wi:TI} {tt:TT} {te:TE} {ifs:List Expr} {px py pos spos:Pos} (hN:X.N.Nodup) (hy:X.N[i]? = some y) (hl:Loc X.env.scope y) (hC:gS X.env.scope scope X.N x fv js=true) (hcalm:X.calm=true) (hi:PI X (.Name x px) iter wi)
  (he:∀ fp s H,PE (cxC X (fv++[x]) scope fp s H) elt te) (ht:(ifs=[]∧tt=bc)∨∃ c,ifs=[c]∧∀ fp s H,PT (cxC X (fv++[x]) scope fp s H) c tt) (hs:∀ v,foldedSetIterable iter X.env v=pure v)
  (hsw:swapsWith (.ListComp elt [⟨.Name x px,iter,ifs,0⟩] scope pos) (some (.Name y py)) spos.line X.env=pure true) (hf:X.fn y=true∨X.env.scope.names.lookup y=some .local) :
  PS X (.Assign [.Name y py] (.ListComp elt [⟨.Name x px,iter,ifs,0⟩] scope pos) spos) (wu (jP wi tt te js) (cy i)):=by
 intro pins s σ H D I h
 have C:=Caps.of hC
 rw [exec_Assign_Name_used _ _ _ _ hsw]
 refine wpAny_bind (wpAny_standAt (wpAny_bind ?_))
 have key:wpAny (model X.prog X.w) X.A (comprehension (.ListComp elt [⟨.Name x px,iter,ifs,0⟩] scope pos) scope X.env (firstIterPos [⟨.Name x px,iter,ifs,0⟩] pos) (newList []) false (eval iter X.env) (some (assign (.Name y py) X.env))) (fun _ s'=>SP X pins D .next s') X.xe s:=by
  refine wpAny_comprehension_free (use:=some (assign (.Name y py) X.env)) rfl hs (t5 I C) C.kind C.names (thn (hi pins s σ H _ I h) fun v s1 h1=>thn h1 fun itv s2 h2 => ?_)
  obtain ⟨it,fp,tn,J,H2,e,I2,T,st2,f2,q2⟩:=h2
  subst e
  refine jx (RR:=fun acc F=>compPost (model X.prog X.w) X.A X.xe (some (assign (.Name y py) X.env)) (fun _ s'=>SP X pins D .next s') acc F) C hcalm he ht I2 T st2 f2 q2 fun d F s' H' m I' f hm q => ?_
  show wpAny _ _ (assign (.Name y py) X.env (.ref d)) _ _ s'
  refine wpAny_assign_Name (kj I' hN hy hl (v := .ref d) rfl (fun s'' I'' ⟨a,hsb,ha⟩ => ?_) hf)
  have hne:F≠a:=by
   rcases ha with z | z
   ·rw [z];exact f.2.1
   ·exact Ne.symm (f.2.2.2.2.1 y a z)
  exact ⟨m,hm.sameBut hsb hne,fun h' hs'=>⟨_,H',I''.frameGone ⟨f.1,f.2⟩ hs',q⟩⟩
 rw [arm_evalThenUse_ListComp]
 exact wpAny_bind (thn key fun _ s' q=>wpAny_pure (wpAny_pure q))
end
end L2
set_option maxHeartbeats 4000000
namespace L2
open PySem PySem.Spec PyProof.Rows
section
variable {X:Cx}
def pI:V→Option Value
 | .ty n=>some (.type n)
 | .ref a=>some (.ref a)
 | _=>none
def Cj (K:PySem.W.Frag):List V→Hp→VK→Prop:=fun xs H Q=>∃ x cls t c b,xs=[x,cls]∧TyOf K H x t∧pI cls=some c∧PySem.W.kitOne K t c=some b∧Q (.bl b) H
theorem xb {P:Program} {w:World} {A:Around} {bs:List Bool} {its:List Value} (r:Vals (bs.map V.bl) its):TruthOf P w A (fun i v=>its.toArray[i]? = some v) (fun i=>bs.getD i true):=fun i v s Q E hv hq=>by
 have hv':its[i]? = some v:=by simpa using hv
 have hl:=r.length
 rw [List.length_map] at hl
 have hi:i < bs.length:=by
  have:=(List.getElem?_eq_some_iff.mp hv').1
  omega
 obtain ⟨u,hu,ru⟩:=r.get (i:=i) (x := .bl bs[i]) (by rw [List.getElem?_map,List.getElem?_eq_getElem hi];rfl)
 rw [hv'] at hu
 cases hu
 have e:v=Value.bool bs[i]:=ru
 subst e
 refine wpAny_truthy_bool ?_
 have:bs.getD i true=bs[i]:=by simp [List.getD_eq_getElem?_getD,hi]
 rw [← this];exact hq
theorem sj (bs:List Bool):(List.range bs.length).any (fun i=>bs.getD i true)=bs.any id:=by
 rw [Bool.eq_iff_iff,List.any_eq_true,List.any_eq_true]
 constructor
 ·rintro ⟨i,hi,h⟩
  have hi':i < bs.length:=List.mem_range.mp hi
  exact ⟨bs[i],List.getElem_mem hi',by simpa [List.getD_eq_getElem?_getD,hi'] using h⟩
 ·rintro ⟨b,hb,h⟩
  obtain ⟨i,hi,rfl⟩:=List.mem_iff_getElem.mp hb
  exact ⟨i,List.mem_range.mpr hi,by simpa [List.getD_eq_getElem?_getD,hi] using h⟩
theorem Inv.walked {pins:List (Addr×Obj)} {σ:St} {H:Hp} {s:Shared} {h':Heap} {t':Nat} (I:Inv X pins σ H s) {o:Obj}
  (k:∀ b o',b∉[s.heap.objs.size]→(s.heap.push o).get? b=some o'→h'.get? b=some o'):Inv X pins σ H {s with heap:=h',toks:=t'}:=
 I.kept fun b u e=>k b u (by simpa using Nat.ne_of_lt (Heap.lt_size e)) (Heap.get?_push_of_some _ e)
def Ck:List V→Hp→VK→Prop:=fun xs H Q=>∃ (p:Addr) (bs:List Bool),xs=[.ref p]∧H p=some (.lst (bs.map V.bl))∧Q (.bl (bs.all id)) H
def Br:List V→Hp→VK→Prop:=fun xs H Q=>∃ (p:Addr) (bs:List Bool),xs=[.ref p]∧H p=some (.lst (bs.map V.bl))∧Q (.bl (bs.any id)) H
theorem iB (hc:X.calm=true):fu X (.builtin "any") Br:=by
 intro pins s σ H xs us Q I r h
 obtain ⟨p,bs,rfl,hq,q⟩:=h
 obtain ⟨u,rfl,rx⟩:=o9 r
 cases rx
 obtain ⟨its,r',pl,hz⟩:=I.list (SqL.of (K:=X.K) hq)
 have hl:=r'.length
 rw [List.length_map] at hl
 refine call_any_walk (wpAny_pyIter_list pl.isList ?_)
 have hne:p≠s.heap.objs.size:=by
  obtain ⟨o,ho,_⟩:=pl.isList
  exact Nat.ne_of_lt (Heap.lt_size ho)
 refine ⟨_,_,_,_,_,_,_,rfl,Walks.list (A:=X.A.in1) (I.ok.hd hc) s.heap.objs.size p hne its.toArray,⟨⟨_,Heap.get?_push_size _ rfl,rfl,rfl⟩,?_⟩,xb r',fun h' tk k=>⟨.bl _,H,I.walked k,rfl,?_⟩⟩
 ·exact pl.isList.at fun o e=>Heap.get?_push_of_some _ e
 ·rw [List.size_toArray,← hl,sj];exact q
def EqW (X:Cx) (H:Hp) (n:Nat) (x y:V) (b:Bool):Prop:=
 ∀ (pins:List (Addr×Obj)) (σ:St) (s:Shared) (u v:Value),Inv X pins σ H s→RelV x u→RelV y v→∀ A:Around,A.units+n < cLine→SeqAt.EqAt A s u v b
def RcW (X:Cx) (H:Hp) (n:Nat) (x y:V) (b:Bool):Prop:=
 ∀ (pins:List (Addr×Obj)) (σ:St) (s:Shared) (u v:Value),Inv X pins σ H s→RelV x u→RelV y v→∀ A:Around,A.units+n < cLine→SeqAt.RcAt A s u v b∧SeqAt.RcNeAt A s u v (!b)
theorem sk {H:Hp} {x y:V} (fx:gv x=true) (fy:gv y=true):EqW X H 0 x y (eqV x y):=fun _ _ _ _ _ _ rx ry _ _=>pw rx ry fx fy
theorem l0 {H:Hp} (i j:Int):EqW X H 0 (.int i) (.int j) (i == j):=sk rfl rfl
theorem EqW.mono {H:Hp} {m n:Nat} {x y:V} {b:Bool} (h:EqW X H m x y b) (hl:m≤n):EqW X H n x y b:=fun pins σ s u v I rx ry A hu=>h pins σ s u v I rx ry A (by omega)
theorem RcW.mono {H:Hp} {m n:Nat} {x y:V} {b:Bool} (h:RcW X H m x y b) (hl:m≤n):RcW X H n x y b:=fun pins σ s u v I rx ry A hu=>h pins σ s u v I rx ry A (by omega)
theorem iC (A:Around):A.in1.units=A.units+1:=rfl
theorem jQ {H:Hp} {n:Nat} {a b:Addr} {xs ys:List V} {e:Nat→Bool} (ha:SqL X.K H a xs) (hb:SqL X.K H b ys) (hl:xs.length=ys.length) (he:∀ j x y,xs[j]? = some x→ys[j]? = some y→EqW X H n x y (e j)) :
  RcW X H (n+1) (.ref a) (.ref b) ((List.range xs.length).all e):=by
 intro pins σ s u v I rx ry A hu
 cases rx
 cases ry
 obtain ⟨its,r,pl,hz⟩:=I.list ha
 obtain ⟨its2,r2,pl2,hz2⟩:=I.list hb
 have l1:=r.length
 have l2:=r2.length
 have key:∀ j (h1:j < its.toArray.size) (h2:j < its2.toArray.size),SeqAt.EqAt A.in1 s its.toArray[j] its2.toArray[j] (e j):=fun j h1 h2=>by
  rw [List.size_toArray] at h1 h2
  have hx:j < xs.length:=by omega
  have hy:j < ys.length:=by omega
  obtain ⟨u1,e1,q1⟩:=r.get (List.getElem?_eq_getElem hx)
  obtain ⟨u2,e2,q2⟩:=r2.get (List.getElem?_eq_getElem hy)
  have t1:its.toArray[j]=u1:=by
   rw [List.getElem?_eq_getElem h1] at e1
   simpa using Option.some.inj e1
  have t2:its2.toArray[j]=u2:=by
   rw [List.getElem?_eq_getElem h2] at e2
   simpa using Option.some.inj e2
  rw [t1,t2]
  exact he j _ _ (List.getElem?_eq_getElem hx) (List.getElem?_eq_getElem hy) pins σ s u1 u2 I q1 q2 A.in1 (by rw [iC];omega)
 have hs:its.toArray.size=its2.toArray.size:=by rw [List.size_toArray,List.size_toArray];omega
 have hsz:its.toArray.size=xs.length:=by rw [List.size_toArray];omega
 rw [← hsz]
 exact ⟨SeqAt.RcAt.lists pl.isList pl2.isList hs (by omega) key,SeqAt.RcNeAt.lists pl.isList pl2.isList hs (by omega) key⟩
theorem l6 {H:Hp} {a b:Addr} {xs ys:List V} (ha:SqL X.K H a xs) (hb:SqL X.K H b ys) (hl:xs.length≠ys.length):RcW X H 0 (.ref a) (.ref b) false:=by
 intro pins σ s u v I rx ry A hu
 cases rx
 cases ry
 obtain ⟨its,r,pl,hz⟩:=I.list ha
 obtain ⟨its2,r2,pl2,hz2⟩:=I.list hb
 have l1:=r.length
 have l2:=r2.length
 have hne:(its.toArray.size != its2.toArray.size)=true:=by
  rw [List.size_toArray,List.size_toArray,bne_iff_ne]
  omega
 exact ⟨SeqAt.RcAt.lists_lengths pl.isList pl2.isList hne (by omega),SeqAt.RcNeAt.lists_lengths pl.isList pl2.isList hne (by omega)⟩
theorem pJ {H:Hp} {n:Nat} {a b:Addr} {xs ys:List V} {e:Nat→Bool} (ha:SqT X.K H a xs) (hb:SqT X.K H b ys) (he:∀ j x y,xs[j]? = some x→ys[j]? = some y→EqW X H n x y (e j)) :
  RcW X H (n+1) (.ref a) (.ref b) ((List.range (min xs.length ys.length)).all e && xs.length == ys.length):=by
 intro pins σ s u v I rx ry A hu
 cases rx
 cases ry
 obtain ⟨its,r,pl,hz⟩:=I.tuple ha
 obtain ⟨its2,r2,pl2,hz2⟩:=I.tuple hb
 have l1:=r.length
 have l2:=r2.length
 have key:∀ j (h1:j < its.toArray.size) (h2:j < its2.toArray.size),SeqAt.EqAt A.in1 s its.toArray[j] its2.toArray[j] (e j):=fun j h1 h2=>by
  rw [List.size_toArray] at h1 h2
  have hx:j < xs.length:=by omega
  have hy:j < ys.length:=by omega
  obtain ⟨u1,e1,q1⟩:=r.get (List.getElem?_eq_getElem hx)
  obtain ⟨u2,e2,q2⟩:=r2.get (List.getElem?_eq_getElem hy)
  have t1:its.toArray[j]=u1:=by
   rw [List.getElem?_eq_getElem h1] at e1
   simpa using Option.some.inj e1
  have t2:its2.toArray[j]=u2:=by
   rw [List.getElem?_eq_getElem h2] at e2
   simpa using Option.some.inj e2
  rw [t1,t2]
  exact he j _ _ (List.getElem?_eq_getElem hx) (List.getElem?_eq_getElem hy) pins σ s u1 u2 I q1 q2 A.in1 (by rw [iC];omega)
 have s1:its.toArray.size=xs.length:=by rw [List.size_toArray];omega
 have s2:its2.toArray.size=ys.length:=by rw [List.size_toArray];omega
 rw [← s1,← s2]
 exact ⟨SeqAt.RcAt.tuples pl pl2 (by omega) key,SeqAt.RcNeAt.tuples pl pl2 (by omega) key⟩
theorem pK {H:Hp} {n:Nat} {a b:Addr} {k:Bool} (h:RcW X H n (.ref a) (.ref b) k) (hs:a=b→k=true):EqW X H n (.ref a) (.ref b) k:=by
 intro pins σ s u v I rx ry A hu
 cases rx
 cases ry
 by_cases e:a=b
 ·subst e
  rw [hs rfl]
  exact SeqAt.EqAt.same _
 ·exact SeqAt.EqAt.of_refs e (h pins σ s _ _ I rfl rfl A hu).1
def Bs (X:Cx):R2:=fun x y H Q=>∃ b,RcW X H 8 x y b∧Q (.bl b) H
def Bt (X:Cx):R2:=fun x y H Q=>∃ b,RcW X H 8 x y b∧Q (.bl (!b)) H
theorem xc {k:Nat} (hr:Room k X.A):OpR X (compareOp .Eq) (Bs X):=by
 intro pins s σ H x y v u Q I rx ry h
 obtain ⟨b,hb,q⟩:=h
 exact (hb pins σ s v u I rx ry X.A (by have:=hr.units;omega)).1 _ _ _ _ ⟨.bl b,H,I,rfl,q⟩
theorem xf {k:Nat} (hr:Room k X.A):OpR X (compareOp .NotEq) (Bt X):=by
 intro pins s σ H x y v u Q I rx ry h
 obtain ⟨b,hb,q⟩:=h
 exact (hb pins σ s v u I rx ry X.A (by have:=hr.units;omega)).2 _ _ _ _ ⟨.bl (!b),H,I,rfl,q⟩
theorem pL (xs ys:List Int) (h:xs.length=ys.length):(List.range xs.length).all (fun j=>xs.getD j 0 == ys.getD j 0)=decide (xs=ys):=by
 rw [Bool.eq_iff_iff,List.all_eq_true,decide_eq_true_eq]
 constructor
 ·intro hh
  refine List.ext_getElem h fun i h1 h2 => ?_
  have:=hh i (List.mem_range.mpr h1)
  simpa [List.getD_eq_getElem?_getD,h1,h2] using this
 ·rintro rfl i _
  simp
theorem nj {H:Hp} {a b:Addr} {xs ys:List Int} (ha:SqL X.K H a (xs.map V.int)) (hb:SqL X.K H b (ys.map V.int)):RcW X H 8 (.ref a) (.ref b) (decide (xs=ys)):=by
 by_cases hl:xs.length=ys.length
 ·have h:=jQ (X:=X) (n:=0) (e:=fun j=>xs.getD j 0 == ys.getD j 0) ha hb (by simpa using hl) fun j x y ex ey=>by
   rw [List.getElem?_map] at ex ey
   cases e1:xs[j]? with
   | none=>rw [e1] at ex;cases ex
   | some i=>
    cases e2:ys[j]? with
    | none=>rw [e2] at ey;cases ey
    | some i'=>
     rw [e1] at ex
     rw [e2] at ey
     cases ex
     cases ey
     rw [List.getD_eq_getElem?_getD,List.getD_eq_getElem?_getD,e1,e2]
     exact l0 i i'
  rw [List.length_map,pL xs ys hl] at h
  exact h.mono (by omega)
 ·have h:=l6 (X:=X) ha hb (by simpa using hl)
  have:decide (xs=ys)=false:=decide_eq_false fun e=>hl (by rw [e])
  rw [this]
  exact h.mono (by omega)
end
theorem og (a b:Nat):(a ^^^ b)+(a &&& b)=a ||| b:=by
 have h:=nat_or_add_and (a ^^^ b) (a &&& b)
 have e1:(a ^^^ b) ||| (a &&& b)=a ||| b:=by
  apply Nat.eq_of_testBit_eq
  intro i
  simp only [Nat.testBit_or,Nat.testBit_xor,Nat.testBit_and]
  cases a.testBit i <;> cases b.testBit i <;> rfl
 have e2:(a ^^^ b) &&& (a &&& b)=0:=by
  apply Nat.eq_of_testBit_eq
  intro i
  simp only [Nat.testBit_xor,Nat.testBit_and,Nat.zero_testBit]
  cases a.testBit i <;> cases b.testBit i <;> rfl
 rw [e1,e2] at h
 omega
theorem oh (a b:Nat):Builtin.bitXor (a:Int) (b:Int)=((a ^^^ b:Nat):Int):=by
 rw [bitXor_and,bitAnd_pp (by omega) (by omega)]
 have h:=og a b
 have h2:=nat_or_add_and a b
 simp only [Int.toNat_natCast]
 omega
end L2
set_option maxHeartbeats 4000000
namespace L2
open PySem PySem.Spec PyProof.Rows
theorem aq {H:Hp} {p:Addr} (h:H p=none) (o:HO):Same H (upd H p o):=fun b u q=>by rw [aP (aE q h)];exact q
theorem bN {H H':Hp} {p:Addr} {o:HO} (s:Same H H') (h:H p=none):Same H (upd H' p o):=fun b u q=>by rw [aP (aE q h)];exact s b u q
theorem Same.tup {K:PySem.W.Frag} {H H':Hp} {a:Addr} {xs:List V} (e:Same H H') (h:SqT K H a xs):SqT K H' a xs:=by
 rcases h with (h | ⟨o,h⟩) | h
 ·exact .inl (.inl (e _ _ h))
 ·exact .inl (.inr ⟨o,e _ _ h⟩)
 ·exact .inr h
def Cl (H:Hp) (Q:VK) (l:List Int):Prop:=∀ r H',Same H H'→H r=none→H' r=some (.lst (l.map V.int))→Q (.ref r) H'
theorem small {n:Nat} (h:n≤1000):n≤sizeLine:=Nat.le_of_lt (bo h)
theorem jy (f:Nat→V) (i:Nat):(List.range i).map f++[f i]=(List.range (i+1)).map f:=by
 rw [List.range_succ,List.map_append];rfl
theorem sm {te:TE} {caps:St} {D:Addr} {H1:Hp} {lo:Int} {n:Nat} {Q:VK} (f:Nat→V) (hD:H1 D=none) (hn:n≤sizeLine)
  (he:∀ (i:Nat) (H':Hp) (R:VK),i < n→Same H1 H'→(∀ H2,Same H' H2→R (f i) H2)→te (caps++[some (.int (lo+i))]) H' R)
  (hQ:∀ Hf,Same H1 Hf→Hf D=some (.lst ((List.range n).map f))→Q (.ref D) Hf) :
  ∃ W:Nat→Nat→List V→Hp→Prop,(∃ m,W 0 m [] (upd H1 D (.lst [])))∧de (Itr lo n) bc te caps D W Q:=by
 refine ⟨fun i m ys Hc=>m=n - i∧i≤n∧ys=(List.range i).map f∧Same H1 Hc∧Hc D=some (.lst ys),⟨n,rfl,Nat.zero_le _,rfl,aq hD _,bq⟩,?_⟩
 rintro i m ys Hc ⟨rfl,hi,rfl,hs,hd⟩
 refine ⟨hd,?_⟩
 by_cases hlt:i < n
 ·refine .inr ⟨hlt,by rw [List.length_map,List.length_range];omega,fun v H' hy => ?_⟩
  obtain ⟨e1,e2⟩:=hy
  subst e1
  subst e2
  unfold bc
  dsimp only
  rw [if_pos rfl]
  refine he i _ _ hlt hs fun H2 s2=>⟨s2 _ _ hd,n - (i+1),by omega,rfl,hlt,?_,?_,bq⟩
  ·exact jy f i
  ·exact bN (hs.trans s2) hD
 ·have e:i=n:=by omega
  subst e
  exact .inl ⟨Nat.le_refl _,hQ Hc hs hd⟩
theorem so {K:PySem.W.Frag} {te:TE} {caps:St} {a D:Addr} {xs:List V} {H1:Hp} {Q:VK} (f:V→V) (hD:H1 D=none) (hn:xs.length≤sizeLine) (hl:SqL K H1 a xs)
  (he:∀ (i:Nat) (x:V) (H':Hp) (R:VK),xs[i]? = some x→Same H1 H'→(∀ H2,Same H' H2→R (f x) H2)→te (caps++[some x]) H' R)
  (hQ:∀ Hf,Same H1 Hf→Hf D=some (.lst (xs.map f))→Q (.ref D) Hf) :
  ∃ W:Nat→Nat→List V→Hp→Prop,(∃ m,W 0 m [] (upd H1 D (.lst [])))∧de (Itl K a) bc te caps D W Q:=by
 refine ⟨fun i m ys Hc=>m=xs.length - i∧i≤xs.length∧ys=(xs.take i).map f∧Same H1 Hc∧Hc D=some (.lst ys),⟨xs.length,rfl,Nat.zero_le _,rfl,aq hD _,bq⟩,?_⟩
 rintro i m ys Hc ⟨rfl,hi,rfl,hs,hd⟩
 refine ⟨hd,?_⟩
 by_cases hlt:i < xs.length
 ·refine .inr ⟨⟨xs,xs[i],hs.seq hl,by simp [hlt]⟩,by rw [List.length_map,List.length_take];omega,fun v H' hy => ?_⟩
  obtain ⟨e1,e2⟩:=hy
  subst e1
  have hv:=e2 xs (hs.seq hl)
  unfold bc
  dsimp only
  rw [if_pos rfl]
  refine he i v _ _ hv hs fun H2 s2=>⟨s2 _ _ hd,xs.length - (i+1),by omega,rfl,hlt,?_,?_,bq⟩
  ·have ev:v=xs[i]:=by
    rw [List.getElem?_eq_getElem hlt] at hv
    exact (Option.some.inj hv).symm
   rw [List.take_succ_eq_append_getElem hlt,List.map_append,ev]
   rfl
  ·exact bN (hs.trans s2) hD
 ·have e:i=xs.length:=by omega
  subst e
  refine .inl ⟨⟨xs,hs.seq hl,Nat.le_refl _⟩,hQ Hc hs ?_⟩
  rw [List.take_of_length_le (Nat.le_refl _)] at hd
  exact hd
end L2
set_option maxHeartbeats 4000000
namespace L2
open PySem PySem.Spec PyProof.Rows
def t7 (ns:List Int):List Int:=firstMet (fun i=>ns.getD i 0) ns.length
section
variable {X:Cx}
def Cm (K:PySem.W.Frag):List V→Hp→VK→Prop:=fun xs H Q=>∃ p ns,xs=[.ref p]∧SqL K H p (ns.map V.int)∧ns.length≤100∧∀ l,H l=none→Q (.ref l) (upd H l (.set (fun k=>(t7 ns).any (· == k)) (t7 ns).length))
def Bv:List V→Hp→VK→Prop:=fun xs H Q=>∃ p S n,xs=[.ref p]∧H p=some (.set S n)∧Q (.int n) H
end
end L2
set_option maxHeartbeats 4000000
namespace L2
open PySem PySem.Spec
theorem jc (o:Obj) (f):(o.mapFields f).dict=o.dict:=by
 obtain ⟨c,d,dt,sl⟩:=o;cases dt <;> rfl
def y8 (h base:Heap) (e:Addr) (cls:Value) (dd:Option Addr) (fl:Value):Prop:=
 ∃ oe vs T oT ts,h.get? e=some oe∧(oe.cls=cls∧oe.dict=dd)∧oe.data = .fields vs∧vs[1]? = some (.ref T)∧base.get? T=none∧T≠e∧h.get? T=some oT∧oT.data = .fields ts∧ts[3]? = some fl
structure Aloft (base:Heap) (l:List Env) (e:Addr) (cls:Value) (dd:Option Addr) (fl:Value) (h:Heap):Prop where
 stay:base.StaysIn h
 new:base.get? e=none
 frames:h.FunFrames base l
 err:y8 h base e cls dd fl
theorem Aloft.pop {base h:Heap} {env:Env} {l:List Env} {e:Addr} {cls fl:Value} {dd:Option Addr} (x:Aloft base (env :: l) e cls dd fl h):Aloft base l e cls dd fl h:=⟨x.stay,x.new,x.frames.2.2,x.err⟩
theorem Aloft.first {base h:Heap} {l:List Env} {e:Addr} {cls fl:Value} {dd:Option Addr} (x:Aloft base l e cls dd fl h):∃ oe vs,h.get? e=some oe∧oe.cls=cls∧oe.data = .fields vs∧oe.dict=dd:=
 let ⟨oe,vs,_,_,_,he,hc,hd,_⟩:=x.err;⟨oe,vs,he,hc.1,hd,hc.2⟩
section
variable {M:Model} {A:Around} {E:Value→Shared→Prop} {s:Shared}
theorem kL {base:Heap} {env:Env} {outer:List Env} {L e:Addr} {oe:Obj} {vs:Array Value} {head:Value} {hadNext:Bool} {Q:Unit→Shared→Prop}
  (hfr:A.frames=some (env :: outer)) (hl:s.heap.FunFrames base (env :: outer)) (hf:env.frame=some L)
  (he:s.heap.get? e=some oe) (hkb:base.StaysIn s.heap) (hen:base.get? e=none) (hd:oe.data = .fields vs) (hsz:1 < vs.size)
  (h:∀ h',Aloft base (env :: outer) e oe.cls oe.dict (rawInt L) h'→s.heap.UpToSlots h'→Q () {s with heap:=h'}) :
  wpAny M A (do let a ← frameOf env;let pl ← entryPlaceOf L hadNext;let b ← EntryCells.newEntry head a .none (rawInt L) .none pl;setField (.ref e) 1 b) Q E s:=by
 have hene:e∉(env :: outer).filterMap (·.frame):=fun hm=>by
  obtain ⟨_,o,ho,hnf⟩:=hl.mem hm
  rw [he] at ho;injection ho with ho;subst ho;exact hnf vs hd
 refine wpAny_bind (wpAny_frameOf_fun hfr hl hf fun h₁ hs₁ => ?_)
 refine wpAny_bind (wpAny_entryPlaceOf fun pl hpl => ?_)
 unfold EntryCells.newEntry newFields
 refine wpAny_bind (wpAny_newObj_type ?_ (hpl.sizeOk5 _ _ _ _ _))
 have he₁:h₁.get? e=some oe:=(hs₁.2.1 e hene).trans he
 have kb₁:base.StaysIn h₁:=fun b o hbo=>(hs₁.2.1 b fun hm=>by rw [(hl.mem hm).1] at hbo;cases hbo).trans (hkb b o hbo)
 have he₂:=Heap.get?_push_of_some (h:=h₁) {cls := .type "traceback",dict:=none,data := .fields ([head,.ref L,.none,rawInt L,.none]++(if pl.isEmpty then List.replicate 6 Value.none else pl)).toArray} he₁
 refine wpAny_setField he₂ hd hsz (h _ ?_ ?_)
 all_goals
  have hTe:h₁.objs.size≠e:=Nat.ne_of_gt (Heap.lt_size he₁)
  have hd₃:=Obj.data_mapFields hd (·.setIfInBounds 1 (Value.ref h₁.objs.size))
  have he₃:=Heap.get?_update_self (Obj.mapFields (·.setIfInBounds 1 (Value.ref h₁.objs.size))) he₂ (Obj.isFreed_of_fields hd₃)
  have hT₃:=(Heap.get?_update_other (h₁.push {cls := .type "traceback",dict:=none,data := .fields ([head,.ref L,.none,rawInt L,.none]++(if pl.isEmpty then List.replicate 6 Value.none else pl)).toArray})
   (Obj.mapFields (·.setIfInBounds 1 (Value.ref h₁.objs.size))) (Ne.symm hTe)).trans (Heap.get?_push_size h₁ rfl)
  have keep:∀ b o,b≠e→h₁.get? b=some o →
    ((h₁.push {cls := .type "traceback",dict:=none,data := .fields ([head,.ref L,.none,rawInt L,.none]++(if pl.isEmpty then List.replicate 6 Value.none else pl)).toArray}).update e (Obj.mapFields (·.setIfInBounds 1 (Value.ref h₁.objs.size)))).get? b=some o:=
   fun b o hbe hb=>by
    rw [Heap.get?_update_other _ _ (Ne.symm hbe)]
    exact Heap.get?_push_of_some _ hb
  have noRecord:∀ b o,s.heap.get? b=some o→(∀ vs,o.data ≠ .fields vs)→b≠e:=fun b o hb hnf q=>by
   rw [q,he] at hb;injection hb with hb;subst hb;exact hnf vs hd
 ·refine ⟨fun b o hbo=>keep b o (fun q=>by rw [q,hen] at hbo;cases hbo) (kb₁ b o hbo),hen,hl.of_keeps fun b o hb hnf => ?_,?_⟩
  ·obtain ⟨sl,hs⟩:=hs₁.2.2 b o hb
   exact ⟨_,keep b _ (noRecord b o hb hnf) hs,rfl⟩
  ·exact ⟨_,_,h₁.objs.size,_,_,he₃,⟨Obj.cls_mapFields _ _,jc _ _⟩,hd₃,by simp [hsz],kb₁.fresh,hTe,hT₃,rfl,by first | (simp;done) | (rcases hpl with rfl | ⟨_,_,_,_,_,_,_,rfl⟩ <;> simp)⟩
 ·intro b o hb hnf
  obtain ⟨sl,hs⟩:=hs₁.2.2 b o hb
  exact ⟨sl,keep b _ (noRecord b o hb hnf) hs⟩
theorem oi {base:Heap} {env:Env} {outer:List Env} {L e:Addr} {oe:Obj} {vs:Array Value} {Q:Unit→Shared→Prop}
  (hfr:A.frames=some (env :: outer)) (hl:s.heap.FunFrames base (env :: outer)) (hf:env.frame=some L)
  (he:s.heap.get? e=some oe) (hkb:base.StaysIn s.heap) (hen:base.get? e=none) (hd:oe.data = .fields vs) (h1:vs[1]? = some .none)
  (h:∀ h',Aloft base (env :: outer) e oe.cls oe.dict (rawInt L) h'→s.heap.UpToSlots h'→Q () {s with heap:=h'}):wpAny M A (noteFrame (.ref e) env) Q E s:=by
 unfold noteFrame
 simp only [hf]
 refine wpAny_bind (wpAny_field he hd h1 ?_)
 rw [if_neg (by decide)]
 exact kL hfr hl hf he hkb hen hd (Array.getElem?_eq_some_iff.mp h1).1 h
theorem kM {base:Heap} {env:Env} {outer:List Env} {L e:Addr} {cls:Value} {dd:Option Addr} {Q:Unit→Shared→Prop}
  (hfr:A.frames=some (env :: outer)) (hf:env.frame=some L) (x:Aloft base (env :: outer) e cls dd .none s.heap)
  (h:∀ h',Aloft base (env :: outer) e cls dd (rawInt L) h'→s.heap.UpToSlots h'→Q () {s with heap:=h'}):wpAny M A (noteFrame (.ref e) env) Q E s:=by
 obtain ⟨hkb,hen,hl,oe,vs,T,oT,ts,he,⟨hcls,hdd⟩,hd,h1,hnT,hTe,hT,hdT,h3⟩:=x
 subst hcls
 subst hdd
 unfold noteFrame
 simp only [hf]
 refine wpAny_bind (wpAny_field he hd h1 ?_)
 rw [if_pos (show (Value.ref T != Value.none)=true from by simp)]
 refine wpAny_bind (wpAny_field hT hdT h3 ?_)
 rw [if_neg (show ¬ ((Value.none == rawInt L)=true) from by simp [rawInt])]
 refine wpAny_bind (wpAny_setField hT hdT (Array.getElem?_eq_some_iff.mp h3).1 ?_)
 have other:∀ b,b≠T→(s.heap.update T (Obj.mapFields (·.setIfInBounds 3 Value.none))).get? b=s.heap.get? b:=fun b hb=>Heap.get?_update_other _ _ (Ne.symm hb)
 have noRecord:∀ b o,s.heap.get? b=some o→(∀ vs,o.data ≠ .fields vs)→b≠T:=fun b o hb hnf q=>by
  rw [q,hT] at hb;injection hb with hb;subst hb;exact hnf ts hdT
 exact kL hfr (hl.of_keeps fun b o hb hnf=>⟨o,(other b (noRecord b o hb hnf)).trans hb,rfl⟩) hf ((other e (Ne.symm hTe)).trans he)
  (fun b o hbo=>(other b fun q=>by rw [q,hnT] at hbo;cases hbo).trans (hkb b o hbo)) hen hd (Array.getElem?_eq_some_iff.mp h1).1
  fun h' x1 x4=>h h' x1 fun b o hb hnf=>x4 b o ((other b (noRecord b o hb hnf)).trans hb) hnf
theorem sq {base:Heap} {l:List Env} {e:Addr} {cls fl:Value} {dd:Option Addr} {Q:Unit→Shared→Prop} (x:Aloft base l e cls dd fl s.heap)
  (h:∀ h',Aloft base l e cls dd .none h'→s.heap.UpToSlots h'→Q () {s with heap:=h'}):wpAny M A (setFlight (.ref e) none) Q E s:=by
 obtain ⟨hkb,hen,hl,oe,vs,T,oT,ts,he,hcls,hd,h1,hnT,hTe,hT,hdT,h3⟩:=x
 have hsz3:3 < ts.size:=(Array.getElem?_eq_some_iff.mp h3).1
 have other:∀ b,b≠T→(s.heap.update T (Obj.mapFields (·.setIfInBounds 3 ((none:Option Addr).elim Value.none fun f=>rawInt f)))).get? b=s.heap.get? b:=
  fun b hb=>Heap.get?_update_other _ _ (Ne.symm hb)
 have noRecord:∀ b o,s.heap.get? b=some o→(∀ vs,o.data ≠ .fields vs)→b≠T:=fun b o hb hnf q=>by
  rw [q,hT] at hb;injection hb with hb;subst hb;exact hnf ts hdT
 unfold setFlight
 refine wpAny_bind (wpAny_field he hd h1 ?_)
 rw [if_pos (show (Value.ref T != Value.none)=true from by simp)]
 refine wpAny_setField hT hdT hsz3 (h _ ⟨fun b o hbo=>(other b fun q=>by rw [q,hnT] at hbo;cases hbo).trans (hkb b o hbo),hen,
  hl.of_keeps fun b o hb hnf=>⟨o,(other b (noRecord b o hb hnf)).trans hb,rfl⟩,?_⟩ fun b o hb hnf=>⟨o.slots,(other b (noRecord b o hb hnf)).trans hb⟩)
 exact ⟨oe,vs,T,_,_,(other e (Ne.symm hTe)).trans he,hcls,hd,h1,hnT,hTe,Heap.get?_update_self _ hT (Obj.isFreed_of_fields (Obj.data_mapFields hdT _)),Obj.data_mapFields hdT _,by simp [hsz3]⟩
theorem kN {base:Heap} {env:Env} {outer:List Env} {L e:Addr} {oe:Obj} {vs:Array Value} {Q:Unit→Shared→Prop}
  (hfr:A.frames=some (env :: outer)) (hl:s.heap.FunFrames base (env :: outer)) (hf:env.frame=some L)
  (he:s.heap.get? e=some oe) (hkb:base.StaysIn s.heap) (hen:base.get? e=none) (hd:oe.data = .fields vs) (h1:vs[1]? = some .none)
  (h:∀ h',Aloft base outer e oe.cls oe.dict .none h'→s.heap.UpToSlots h'→Q () {s with heap:=h'}):wpAny M A (leaving env (.ref e)) Q E s:=by
 unfold leaving
 exact wpAny_bind (oi hfr hl hf he hkb hen hd h1 fun h1 x1 u1=>sq (s:={s with heap:=h1}) x1 fun h2 x2 u2=>h h2 x2.pop (u1.trans u2))
theorem l7 {base:Heap} {env:Env} {outer:List Env} {L e:Addr} {cls:Value} {dd:Option Addr} {Q:Unit→Shared→Prop}
  (hfr:A.frames=some (env :: outer)) (hf:env.frame=some L) (x:Aloft base (env :: outer) e cls dd .none s.heap)
  (h:∀ h',Aloft base outer e cls dd .none h'→s.heap.UpToSlots h'→Q () {s with heap:=h'}):wpAny M A (leaving env (.ref e)) Q E s:=by
 unfold leaving
 exact wpAny_bind (kM hfr hf x fun h1 x1 u1=>sq (s:={s with heap:=h1}) x1 fun h2 x2 u2=>h h2 x2.pop (u1.trans u2))
end
end L2
set_option maxHeartbeats 4000000
namespace L2
open PySem PySem.Spec PyProof.Rows
section
variable {P:Program} {w:World}
theorem ObjOk.there {H:Hp} {h:Heap} {a:Addr} {o:HO} (x:ObjOk P w H h a o):∃ ob,h.get? a=some ob:=by
 cases o with
 | lst xs=>obtain ⟨_,_,_,_,e⟩:=x;exact ⟨_,e⟩
 | tup xs=>obtain ⟨_,_,_,ob,e,_⟩:=x;exact ⟨_,e⟩
 | dK kvs=>obtain ⟨_,_,_,_,ob,_,_,e,_⟩:=x;exact ⟨_,e⟩
 | dT kvs=>obtain ⟨_,_,_,_,ob,_,_,e,_⟩:=x;exact ⟨_,e⟩
 | set S n=>obtain ⟨ob,_,_,_,e,_⟩:=x;exact ⟨_,e⟩
 | ins C dx fs=>obtain ⟨_,_,_,e,_⟩:=x;exact ⟨_,e⟩
 | own y=>exact x
 | xd fs=>obtain ⟨_,⟨_,_,_,e,_⟩,_⟩:=x;exact ⟨_,e⟩
 | rng lo hi=>obtain ⟨_,_,_,e⟩:=x;exact ⟨_,e⟩
 | frz ob u=>obtain ⟨e,_⟩:=x;exact ⟨_,e⟩
 | tbl ps=>exact ⟨_,(show h.get? a=some _ from x)⟩
 | met f y=>exact ⟨_,(show h.get? a=some _ from x)⟩
 | ext φ=>obtain ⟨_,e,_⟩:=x;exact e
structure Fly (P:Program) (w:World) (outer:List Env) (H:Hp) (s:Shared) (ea:Addr) (cls:Value) (dd:Option Addr) (B:Heap) (H':Hp) (s':Shared):Prop where
 os:s'.os=s.os
 bare:AllBare s'.gens
 fl:Aloft B outer ea cls dd .none s'.heap
 hok:HOk P w H' B
 new:s.heap.get? ea=none
 bk:∀ b o,s.heap.get? b=some o→H b=none→b∉frs outer→B.get? b=some o
 th:∀ b o,s.heap.get? b=some o→b∉frs outer→∃ o',B.get? b=some o'
 un:Un (frs outer) [] H H' s.heap s'.heap
theorem Fly.free {outer:List Env} {H:Hp} {s:Shared} {ea:Addr} {cls:Value} {dd:Option Addr} {B:Heap} {H':Hp} {s':Shared} (y:Fly P w outer H s ea cls dd B H' s'):H' ea=none:=by
 cases q:H' ea with
 | none=>rfl
 | some o=>
  obtain ⟨ob,e⟩:=(y.hok ea o q).there
  rw [y.fl.new] at e
  cases e
def CXe (P:Program) (w:World):CXT:=fun outer H s E e s'=>∃ (ea C:Addr) (dd:Option Addr) (B:Heap) (H':Hp),e = .ref ea∧Fly P w outer H s ea (.ref C) dd B H' s'∧E (.ref C) dd H'
section
variable {K:PySem.W.Frag} {mg:Str→Option Value} {base:Heap} {N:List Str} {qual:Str} {scope:Scope} {f:Addr} {cd:Value} {A:Around} {outer:List Env} {s₀:Shared} {H₀:Hp} {E:XK}
def del (H:Hp) (e:Addr):Hp:=fun b=>if b=e then none else H b
theorem kO {H:Hp} {e b:Addr} (h:b≠e):del H e b=H b:=by unfold del;rw [if_neg h]
theorem sr {H:Hp} {e b:Addr} (h:H b=none):del H e b=none:=by unfold del;split <;> first | rfl | exact h
theorem xg {H:Hp} {e b:Addr} {o:HO} (h:del H e b=some o):b≠e∧H b=some o:=by
 unfold del at h
 split at h
 ·cases h
 ·rename_i n;exact ⟨n,h⟩
theorem su {H:Hp} {e:Addr} (h:H e=none):del H e=H:=by
 funext b
 unfold del
 split
 ·rename_i z;rw [z,h]
 ·rfl
theorem pM {pins:List (Addr×Obj)} {σ:St} {H:Hp} {s:Shared} {h':Heap} {e C:Addr} {dd:Option Addr} {oe:Obj} {vs:Array Value} (I:Inv (bt (CXe P w) P w K mg base N qual scope f cd A outer s₀ H₀ E) pins σ H s)
  (k:∀ b o,b≠e→s.heap.get? b=some o→h'.get? b=some o) (he:h'.get? e=some oe) (hc:oe.cls = .ref C) (hdd:oe.dict=dd) (hd:oe.data = .fields vs) (h1:vs[1]? = some .none)
  (hnew:s₀.heap.get? e=none) (hs:∀ o,s.heap.get? e=some o→∃ vs,o.data = .fields vs) (hH:s.heap.get? e=none∨∃ φ,H e=some (.ext φ)) (hE:E (.ref C) dd (del H e)) :
  (bt (CXe P w) P w K mg base N qual scope f cd A outer s₀ H₀ E).xe (.ref e) {s with heap:=h'}:=by
 subst hdd
 have hfr:frs (envOfC qual scope s₀.heap.objs.size f cd :: outer)=s₀.heap.objs.size :: frs outer:=rfl
 have hb:Un (frs outer) [] H₀ H s₀.heap s.heap:=I.base
 have hHe:H e=none∨∃ φ,H e=some (.ext φ):=by
  rcases hH with q | q
  ·refine .inl ?_
   cases r:H e with
   | none=>rfl
   | some o=>
    obtain ⟨ob,z⟩:=(I.hok e o r).there
    rw [q] at z
    cases z
  ·exact .inr q
 have notT:∀ b o,H b=some o→(∀ φ,o ≠ .ext φ)→b≠e:=fun b o q n z=>by
  subst z
  rcases hHe with r | ⟨φ,r⟩ <;> rw [q] at r
  ·cases r
  ·cases r;exact n φ rfl
 have ne0:∀ b o,s₀.heap.get? b=some o→b≠e:=fun b o q z=>by rw [z,hnew] at q;cases q
 have nf:e∉frs (envOfC qual scope s₀.heap.objs.size f cd :: outer):=fun z=>by
  obtain ⟨_,o,q,n⟩:=I.stack.mem z
  obtain ⟨vs,r⟩:=hs o q
  exact n vs r
 have keepB:∀ b o,s.heap.get? b=some o→b≠e→b∉frs (envOfC qual scope s₀.heap.objs.size f cd :: outer)→(PySem.W.hideAll s.heap (e :: frs (envOfC qual scope s₀.heap.objs.size f cd :: outer))).get? b=some o:=fun b o q ne hb=>
  PySem.W.hideAll_get _ q fun z=>(List.mem_cons.mp z).elim ne hb
 have notF:∀ b o,s₀.heap.get? b=some o→b∉frs outer→b∉frs (envOfC qual scope s₀.heap.objs.size f cd :: outer):=fun b o q hb z=>by
  rw [hfr] at z
  rcases List.mem_cons.mp z with z | z
  ·exact absurd (Heap.lt_size q) (by rw [z];exact Nat.lt_irrefl _)
  ·exact hb z
 have stB:(PySem.W.hideAll s.heap (e :: frs (envOfC qual scope s₀.heap.objs.size f cd :: outer))).StaysIn h':=fun b o q=>by
  refine k b o (fun z => ?_) (PySem.W.of_hideAll _ q)
  rw [z,PySem.W.hideAll_none _ (List.mem_cons_self)] at q
  cases q
 have ff:s.heap.FunFrames (PySem.W.hideAll s.heap (e :: frs (envOfC qual scope s₀.heap.objs.size f cd :: outer))) (envOfC qual scope s₀.heap.objs.size f cd :: outer):=
  PySem.W.funFrames_hide I.stack fun env he b hb=>List.mem_cons_of_mem _ (List.mem_filterMap.mpr ⟨env,he,hb⟩)
 have ff':h'.FunFrames (PySem.W.hideAll s.heap (e :: frs (envOfC qual scope s₀.heap.objs.size f cd :: outer))) (envOfC qual scope s₀.heap.objs.size f cd :: outer):=
  ff.of_keeps fun b o q n=>⟨o,k b o (fun z=>by subst z;obtain ⟨vs,r⟩:=hs o q;exact n vs r) q,rfl⟩
 refine kN (s:={s with heap:=h'}) I.ok.frames ff' rfl he stB (PySem.W.hideAll_none _ (List.mem_cons_self)) hd h1 fun h'' fl ups => ?_
 have hst:∀ b o,b∈frs outer→s.heap.get? b=some o→∃ sl,h''.get? b=some {o with slots:=sl}:=fun b o hb q=>by
  have hb':b∈frs (envOfC qual scope s₀.heap.objs.size f cd :: outer):=by rw [hfr];exact List.mem_cons_of_mem _ hb
  obtain ⟨_,o',q',nf'⟩:=I.stack.mem hb'
  rw [q] at q'
  cases q'
  exact ups b o (k b o (fun z=>nf (z ▸ hb')) q) nf'
 rw [hc] at fl
 refine ⟨e,C,oe.dict,_,del H e,rfl,⟨I.os,I.bare,fl,fun a o q => ?_,hnew,fun b o q n hb' => ?_,fun b o q hb' => ?_,⟨fun b o q n hb' _ => ?_,fun b o q n hb' _ => ?_,fun b o q n hx'=>sr (hb.free b o q n hx'),fun b o q _ => ?_,
  fun b xs q => ?_,fun b o u q => ?_,fun b ps q => ?_⟩⟩,hE⟩
 ·obtain ⟨na,q⟩:=xg q
  refine (I.hok a o q).stay (fun b u hb' r=>keepB b u r (fun z => ?_) fun z => ?_) (fun b r => ?_) fun b xs r => ?_
  ·rcases hb' with hb' | hb'
   ·exact na (hb' ▸ z)
   ·exact notT b _ hb' (fun φ z=>by cases z) z
  ·have hn:=I.stkFree b z
   rcases hb' with rfl | hb'
   ·rw [q] at hn;cases hn
   ·rw [hb'] at hn;cases hn
  ·rw [kO (notT b _ r fun φ z=>by cases z)];exact r
  ·rw [kO (notT b _ r fun φ z=>by cases z)];exact r
 ·exact keepB b o (hb.keep b o q n hb' (by simp)) (ne0 b o q) (notF b o q hb')
 ·obtain ⟨o',r⟩:=hb.there b o q (by simp)
  exact ⟨o',keepB b o' r (ne0 b o q) (notF b o q hb')⟩
 ·exact fl.stay b o (keepB b o (hb.keep b o q n hb' (by simp)) (ne0 b o q) (notF b o q hb'))
 ·obtain ⟨sl,r⟩:=hb.slot b o q n hb' (by simp)
  obtain ⟨sl',r'⟩:=hst b _ hb' r
  exact ⟨sl',r'⟩
 ·obtain ⟨o',r⟩:=hb.there b o q (by simp)
  by_cases hb':b∈frs outer
  ·obtain ⟨sl,r'⟩:=hst b o' hb' r
   exact ⟨_,r'⟩
  ·exact ⟨o',fl.stay b o' (keepB b o' r (ne0 b o q) (notF b o q hb'))⟩
 ·have r:=hb.tups b xs q
  rw [kO (notT b _ r fun φ z=>by cases z)];exact r
 ·have r:=hb.frzs b o u q
  rw [kO (notT b _ r fun φ z=>by cases z)];exact r
 ·obtain ⟨m,r⟩:=hb.tbls b ps q
  exact ⟨m,by rw [kO (notT b _ r fun φ z=>by cases z)];exact r⟩
theorem fI {pins:List (Addr×Obj)} {σ:St} {H:Hp} {s:Shared} {h':Heap} {e C:Addr} {vs:List Value} (I:Inv (bt (CXe P w) P w K mg base N qual scope f cd A outer s₀ H₀ E) pins σ H s) (hx:Heap.MadeExcOf s.heap h' e (.ref C) vs) (hE:E (.ref C) none H) :
  (bt (CXe P w) P w K mg base N qual scope f cd A outer s₀ H₀ E).xe (.ref e) {s with heap:=h'}:=by
 have hb:Un (frs outer) [] H₀ H s₀.heap s.heap:=I.base
 obtain ⟨t,he,htn,ht⟩:=hx.there
 have hn:=hx.new
 have hf:H e=none:=by
  cases r:H e with
  | none=>rfl
  | some o=>
   obtain ⟨ob,z⟩:=(I.hok e o r).there
   rw [hn] at z
   cases z
 refine pM I (fun b o _ q=>hx.keeps b o q) he rfl rfl rfl rfl ?_ (fun o q=>by rw [hn] at q;cases q) (.inl hn) (by rw [su hf];exact hE)
 cases q:s₀.heap.get? e with
 | none=>rfl
 | some o=>
  obtain ⟨o',r⟩:=hb.there e o q (by simp)
  rw [hn] at r
  cases r
theorem l8 {E':XK} (hE:∀ c d H',E' c d H'→E c d H'):cf (CXe P w) (bt (CXe P w) P w K mg base N qual scope f cd A outer s₀ H₀ E) E':=by
 rintro pins σ H s e s' I ⟨ea,C,dd,B,H',rfl,y,hq⟩
 have hfr:frs (envOfC qual scope s₀.heap.objs.size f cd :: outer)=s₀.heap.objs.size :: frs outer:=rfl
 have hb:Un (frs outer) [] H₀ H s₀.heap s.heap:=I.base
 have y:Fly P w (envOfC qual scope s₀.heap.objs.size f cd :: outer) H s ea (.ref C) dd B H' s':=y
 have notF:∀ b o,s₀.heap.get? b=some o→b∉frs outer→b∉frs (envOfC qual scope s₀.heap.objs.size f cd :: outer):=fun b o q hb z=>by
  rw [hfr] at z
  rcases List.mem_cons.mp z with z | z
  ·exact absurd (Heap.lt_size q) (by rw [z];exact Nat.lt_irrefl _)
  ·exact hb z
 have inF:∀ b,b∈frs outer→b∈frs (envOfC qual scope s₀.heap.objs.size f cd :: outer):=fun b hb=>by rw [hfr];exact List.mem_cons_of_mem _ hb
 refine l7 I.ok.frames rfl y.fl fun h'' fl ups => ?_
 have hst:∀ b o,b∈frs outer→s.heap.get? b=some o→H b=none→∃ sl,h''.get? b=some {o with slots:=sl}:=fun b o hb q n=>by
  obtain ⟨sl,r⟩:=y.un.slot b o q n (inF b hb) (by simp)
  obtain ⟨_,o',q',nf⟩:=y.fl.frames.mem (inF b hb)
  rw [r] at q'
  cases q'
  obtain ⟨sl',r'⟩:=ups b _ r nf
  exact ⟨sl',r'⟩
 refine ⟨ea,C,dd,B,H',rfl,⟨y.os.trans I.os,y.bare,fl,y.hok,?_,fun b o q n hb' => ?_,fun b o q hb' => ?_,⟨fun b o q n hb' _ => ?_,fun b o q n hb' _ => ?_,fun b o q n hx' => ?_,fun b o q _ => ?_,
  fun b xs q=>y.un.tups b xs (hb.tups b xs q),fun b o u q=>y.un.frzs b o u (hb.frzs b o u q),fun b ps q => ?_⟩⟩,hE _ _ _ hq⟩
 ·cases q:s₀.heap.get? ea with
  | none=>rfl
  | some o=>
   obtain ⟨o',r⟩:=hb.there ea o q (by simp)
   have hne:=y.new
   rw [r] at hne
   cases hne
 ·exact y.bk b o (hb.keep b o q n hb' (by simp)) (hb.free b o q n (by simp)) (notF b o q hb')
 ·obtain ⟨o',r⟩:=hb.there b o q (by simp)
  exact y.th b o' r (notF b o q hb')
 ·exact fl.stay b o (y.bk b o (hb.keep b o q n hb' (by simp)) (hb.free b o q n (by simp)) (notF b o q hb'))
 ·obtain ⟨sl,r⟩:=hb.slot b o q n hb' (by simp)
  obtain ⟨sl',r'⟩:=hst b _ hb' r (hb.free b o q n (by simp))
  exact ⟨sl',r'⟩
 ·obtain ⟨o',r⟩:=hb.there b o q (by simp)
  exact y.un.free b o' r (hb.free b o q n hx') (by simp)
 ·obtain ⟨o',r⟩:=hb.there b o q (by simp)
  by_cases hb':b∈frs outer
  ·obtain ⟨sl,r'⟩:=hst b o' hb' r (I.stkFree b (inF b hb'))
   exact ⟨_,r'⟩
  ·obtain ⟨o2,r2⟩:=y.th b o' r (notF b o q hb')
   exact ⟨o2,fl.stay b o2 r2⟩
 ·obtain ⟨m1,e1⟩:=hb.tbls b ps q
  obtain ⟨m2,e2⟩:=y.un.tbls b _ e1
  exact ⟨m1++m2,by rw [e2,Array.append_assoc]⟩
end
end
end L2
set_option maxHeartbeats 4000000
namespace L2
open PySem PySem.Spec PyProof.Rows
section
variable {X:Cx}
abbrev TJ:=St→Hp→(Hp→Prop)→Prop
def PJ (X:Cx) (es:List Expr) (m:Nat) (t:TJ):Prop:=∀ (acc:Str) (pins:List (Addr×Obj)) (s:Shared) (σ:St) (H:Hp) (Q:VK),acc.length+m≤100000→Inv X pins σ H s→(t σ H fun H'=>∀ y:Str,Q (.str y) H') →
 wpAny (model X.prog X.w) X.A (joinParts acc (evalEach es X.env)) (EP X pins σ Q) X.xe s
theorem uV {n:Nat} (h:n≤100000):n≤sizeLine:=by rw [sizeLine_eq];omega
theorem kP:PJ X [] 0 (fun _ H k=>k H):=fun acc pins s σ H Q hl I h=>joinParts_nil ⟨.str acc,H,I.tok _,⟨_,rfl⟩,h acc⟩ (uV hl)
theorem t9 {x:Str} {es:List Expr} {j pos m} {t:TJ} (hr:PJ X es m t) (hx:x.length≤200:=by decide):PJ X (.Constant (.str x) j pos :: es) (m+200) t:=fun acc pins s σ H Q hl I h=>by
 refine joinParts_cons (Calls.Constant_str ⟨?_,?_⟩)
 ·rw [strLen_append];exact uV (by omega)
 ·exact hr (acc++x) pins _ σ H Q (by rw [strLen_append];omega) (I.tok _) h
theorem xh {e:Expr} {es:List Expr} {pos m} {te:TE} {t:TJ} (he:PE X e te) (hr:PJ X es m t):PJ X (.FormattedValue e (-1) none pos :: es) (m+1921) (fun σ H k=>te σ H fun v H1=>∃ i,v = .int i∧i.natAbs.log2 < 1920∧t σ H1 k):=fun acc pins s σ H Q hl I h=>by
 refine joinParts_cons (FormattedValue_plain (thn (he pins s σ H _ I h) fun v s1 ⟨x,H1,I1,r1,i,e,hi,q⟩ => ?_))
 subst e
 obtain ⟨tk,rfl⟩:=r1
 have hlen:=int_text_len_1921 hi
 refine wpAny_formatField_int hi ⟨?_,?_⟩
 ·rw [strLen_append];exact uV (by omega)
 ·exact hr _ pins _ σ H1 Q (by rw [strLen_append];omega) (I1.tok _) q
def y9 (t:TJ):TE:=fun σ H Q=>t σ H fun H'=>∀ y:Str,Q (.str y) H'
theorem iD {v1 v2:Expr} {rest:List Expr} {pos:Pos} {m:Nat} {t:TJ} (h:PJ X (v1 :: v2 :: rest) m t) (hm:m≤100000:=by decide):PE X (.JoinedStr (v1 :: v2 :: rest) pos) (y9 t):=fun pins s σ H Q I hq=>
 JoinedStr_many (h Str.empty pins s σ H Q (by show 0+m≤100000;omega) I hq)
theorem uW {K:PySem.W.Frag} {h:Heap} {C:Addr} {bmB:List Value} {newId:String} (KX:K.In h) (q:PySem.W.excIn K C bmB newId=true) :
  ∃ bm N nm qn bs hdct sn sub ab col dd k0 k1 k2 k3 k5 mN,h.get? C=some (excClassObj nm qn C N bs bm hdct sn sub ab col dd k0 k1 k2 k3 k5 newId)∧h.Ns N mN∧mN "__init__" = none∧OwnTail h bmB bm:=by
 unfold PySem.W.excIn at q
 split at q
 ·rename_i dd cdt slots hlk
  split at q
  ·rename_i C2 tl k0 k1 k2 k3 nn k5 hmro hsl
   simp only [Bool.and_eq_true,beq_iff_eq,Bool.not_eq_true'] at q
   obtain ⟨⟨⟨⟨⟨e1,e2⟩,e3⟩,e4⟩,e5⟩,e6⟩:=q
   subst e1
   subst e2
   obtain ⟨nm,bs,mro,nsa,qn,hdc,sn,sub,ab,col,del⟩:=cdt
   dsimp only at hmro e3 e5 e6
   subst hmro
   subst e3
   obtain ⟨lst⟩:=slots
   dsimp only at hsl
   subst hsl
   exact ⟨tl,nsa,nm,qn,bs,hdc,sn,sub,ab,col,dd,k0,k1,k2,k3,k5,_,KX _ _ hlk,.of_isNs (PySem.W.isNs_of_in KX e5),PySem.W.nsMap_none_of_in KX e5 e6,PySem.W.tail_of_in KX e4⟩
  ·cases q
 ·cases q
def xi (C:Addr) (E:XK) (ta:TA):TS:=fun _ σ H=>ta σ H fun vs H1=>vs.length≤100∧E (.ref C) none H1
theorem fJ {E:XK} {x:Str} {C:Addr} {e0:Expr} {rest:List Expr} {ta:TA} {bmB:List Value} {B newId initId:String} {np cpos pos:Pos}
  (hX:∀ (pins:List (Addr×Obj)) (σ:St) (H:Hp) (s:Shared) (h':Heap) (e:Addr) (vs:List Value),Inv X pins σ H s→Heap.MadeExcOf s.heap h' e (.ref C) vs→E (.ref C) none H→X.xe (.ref e) {s with heap:=h'})
  (FB:ExcBaseFacts B newId initId bmB) (q:PySem.W.excIn X.K C bmB newId=true) (hc:X.calm=true) (hg:Gl X x) (hm:X.mg x=some (.ref C)) (ha:PA X (e0 :: rest) ta)
  (he:starEach (e0 :: rest) X.env=(false,eval e0 X.env) :: starEach rest X.env:=by rfl) (hpl:(backTo cpos (starEach rest X.env)).any (·.1)=false:=by rfl) (hd:(x == ("__debug__" : Str))=false:=by decide) :
  PS X (.Raise (some (.Call (.Name x np) (e0 :: rest) [] cpos)) none pos) (xi C E ta):=by
 intro pins s σ H D I h
 obtain ⟨bm,N,nm,qn,bs,hdct,sn,sub,ab,col,dd,k0,k1,k2,k3,k5,mN,hC,hN,hni,T⟩:=uW I.mod.kin q
 have hb:=T.hasType FB.hasBase
 refine wpAny_Raise_call_subT (C:=C) (nm:=nm) (q:=qn) (N:=N) (bs:=bs) (bm:=bm) (hdct:=hdct) (sn:=sn) (sub:=sub) (ab:=ab) (col:=col) (dd:=dd) (k0:=k0) (k1:=k1) (k2:=k2) (k3:=k3) (k5:=k5) (mN:=mN)
  FB hb (I.ok.hd hc) (by rw [he];show (false || (backTo cpos (starEach rest X.env)).any (·.1))=false;rw [hpl];rfl) hni (eI I hg hm ⟨rfl,?_⟩ hd)
 have hp:=ha cpos pins s σ H _ I h
 rw [he] at hp ⊢
 refine Calls.evalArgs_plain (wpAny_mono hp (fun us s1 ⟨vs,H1,I1,r1,hl,hq⟩=>⟨rfl,?_,I1.bk _ _ hC,hN.keeps I1.bk,T.keeps I1.bk,fun h' e hx=>hX pins σ H1 s1 h' e us I1 hx hq⟩) fun _ _ z=>z)
 rw [← r1.length]
 exact small (by omega)
end
theorem Fun.okE {P:Program} {w:World} {K:PySem.W.Frag} {mg:Str→Option Value} {base:Heap} {x qual:Str} {st:Stmt} {f:Addr} {fd:FuncData} {N ps:List Str} {k:Nat} {sp:Sp} (F:Fun K x qual st f fd) (S:FnScope N ps (ag st)) (len:∀ vs H Q E,sp vs H Q E→vs.length=ps.length)
  (hbody:∀ (cdv:Value) (A:Around) (outer:List Env) (s:Shared) (H:Hp) (vs:List V) (Q:VK) (E:XK),Room k (A.deeper (envOfC qual (ag st) s.heap.objs.size f cdv))→sp vs H Q E →
   ∃ t,PSs (bt (CXe P w) P w K mg base N qual (ag st) f cdv A outer s H E) (bJ st) t∧t {nx:=fun _ H'=>Q .non H',rt:=Q} (start N vs) H):FnOk P w K mg base (CXe P w) (k+1) f fd ps sp:=by
 obtain ⟨oc,od,kV,doc,pm,an,cdv,ct,osl,rfl,lk,hcd⟩:=F.ex
 exact wW lk hcd S len fun A outer s H vs Q E hr hsp=>hbody cdv A outer s H vs Q E hr hsp
end L2
set_option maxHeartbeats 4000000
namespace L2
open PySem PySem.Spec PyProof.Rows
theorem Fly.move {P:Program} {w:World} {outer:List Env} {H:Hp} {s:Shared} {ea:Addr} {cls:Value} {dd:Option Addr} {B:Heap} {H':Hp} {s':Shared} {h5:Heap} (y:Fly P w outer H s ea cls dd B H' s') (fl:Aloft B outer ea cls dd .none h5) (ups:s'.heap.UpToSlots h5)
  (stf:∀ b∈frs outer,H b=none) (fns:∀ b∈frs outer,∃ o,s.heap.get? b=some o):Fly P w outer H s ea cls dd B H' {s' with heap:=h5}:=by
 have hst:∀ b o,b∈frs outer→s.heap.get? b=some o→∃ sl,h5.get? b=some {o with slots:=sl}:=fun b o hb q=>by
  obtain ⟨sl,r⟩:=y.un.slot b o q (stf b hb) hb (by simp)
  obtain ⟨_,o',q',nf⟩:=y.fl.frames.mem hb
  rw [r] at q'
  cases q'
  obtain ⟨sl',r'⟩:=ups b _ r nf
  exact ⟨sl',r'⟩
 refine ⟨y.os,y.bare,fl,y.hok,y.new,y.bk,y.th,⟨fun b o q n hb _=>fl.stay b o (y.bk b o q n hb),fun b o q n hb _=>hst b o hb q,y.un.free,fun b o q _ => ?_,y.un.tups,y.un.frzs,y.un.tbls⟩⟩
 by_cases hb:b∈frs outer
 ·obtain ⟨sl,r⟩:=hst b o hb q
  exact ⟨_,r⟩
 ·obtain ⟨o',r⟩:=y.th b o q hb
  exact ⟨o',fl.stay b o' r⟩
def rL (ea C:Addr) (dd:Option Addr:=none):HO := .ext fun h=>∃ o vs,h.get? ea=some o∧o.cls = .ref C∧o.data = .fields vs∧o.dict=dd
section
variable {X:Cx} {pins:List (Addr×Obj)} {σ:St} {H:Hp} {s:Shared}
theorem Inv.caught {ea C:Addr} {dd:Option Addr} {B:Heap} {H':Hp} {s':Shared} (I:Inv X pins σ H s) (y:Fly X.prog X.w X.stack H s ea (.ref C) dd B H' s'):Inv X pins σ (upd H' ea (rL ea C dd)) s':=by
 have hn:=y.free
 have ne:∀ b o,s.heap.get? b=some o→b≠ea:=fun b o q z=>by
  have:=y.new
  rw [← z,q] at this
  cases this
 have nt:∀ b o,H' b=some o→b≠ea:=fun b o q z=>by rw [z,hn] at q;cases q
 have hok:HOk X.prog X.w H' s'.heap:=y.hok.kept y.fl.stay
 refine I.call' (ch:=[]) y.os ⟨y.un.keep,y.un.slot,fun b o q n hx=>by rw [aP (ne b o q)];exact y.un.free b o q n hx,y.un.there,fun b xs q => ?_,fun b o u q => ?_,fun b ps q => ?_⟩ (fun a o q => ?_) y.bare fun b hb=>absurd hb (by simp)
 ·have r:=y.un.tups b xs q
  rw [aP (nt b _ r)];exact r
 ·have r:=y.un.frzs b o u q
  rw [aP (nt b _ r)];exact r
 ·obtain ⟨more,r⟩:=y.un.tbls b ps q
  exact ⟨more,by rw [aP (nt b _ r)];exact r⟩
 ·by_cases ha:a=ea
  ·subst ha
   rw [bq] at q
   cases q
   obtain ⟨oe,vs,h1,h2,h3,h4⟩:=y.fl.first
   exact ⟨⟨oe,vs,h1,h2,h3,h4⟩,⟨oe,h1⟩,fun h1 h2 ⟨o,vs,e1,e2,e3⟩ k=>⟨o,vs,k o e1,e2,e3⟩⟩
  ·rw [aP ha] at q
   exact (hok a o q).stay (fun b u _ r=>r) (fun b r=>by rw [aP (nt b _ r)];exact r) fun b xs r=>by rw [aP (nt b _ r)];exact r
abbrev Cx.marked (X:Cx) (e:Value):Cx:={X with A:=X.A.mark (some e),calm:=false,xe:=fun _ _=>False}
theorem Inv.mark (I:Inv X pins σ H s) (e:Value):Inv (X.marked e) pins σ H s:=
 ⟨⟨I.ok.mod,I.ok.kind,I.ok.glob,I.ok.blt,I.ok.above,I.ok.inj,I.ok.has,I.ok.cab,(fun z=>by cases z),I.ok.frames,I.ok.stk,I.ok.exf,I.ok.bs,I.ok.bsz,I.ok.noex,I.ok.exfs,I.ok.funs,I.ok.frf⟩,I.os,I.bare,I.base,I.loc,I.cell,I.free,I.freeC,I.pin,I.hok,I.len⟩
theorem Inv.unmark {e:Value} (ok:X.Ok) (I:Inv (X.marked e) pins σ H s):Inv X pins σ H s:=
 ⟨ok,I.os,I.bare,I.base,I.loc,I.cell,I.free,I.freeC,I.pin,I.hok,I.len⟩
theorem Inv.unbound {i:Nat} {n:Str} {h':Heap} {m:Str→Option Value} {u:Option Value} (I:Inv X pins σ H s) (hN:X.N.Nodup) (hi:X.N[i]? = some n) (hn:s.heap.Ns X.env.locals m)
  (hm:∀ (j:Nat) (y:Str) (v:V),X.N[j]? = some y→σ[j]? = some (some v)→Vis X.env.scope y→∃ u,RelV v u∧yR X.env s.heap m y u)
  (hn':h'.Ns X.env.locals (fun x=>if x=n then u else m x)) (hs:Heap.SameBut X.env.locals s.heap h'):Inv X pins (σ.set i none) H {s with heap:=h'}:=by
 have neL:∀ b o,X.s₀.heap.get? b=some o→b≠X.env.locals:=fun b o e=>Nat.ne_of_lt (Nat.lt_of_lt_of_le (Heap.lt_size e) I.ok.above)
 refine ⟨I.ok,I.os,I.bare,⟨fun b o e n hb hx => ?_,fun b o e n hb hx => ?_,I.base.free,fun b o e hx => ?_,I.base.tups,I.base.frzs,I.base.tbls⟩,⟨_,hn',fun j y v e1 e2 e3 => ?_⟩,fun y c e => ?_,I.free,I.freeC,fun p hp => ?_,fun a o q => ?_,by simpa using I.len⟩
 ·exact (hs.2 b (neL b o e)).trans (I.base.keep b o e n hb hx)
 ·obtain ⟨sl,r⟩:=I.base.slot b o e n hb hx
  exact ⟨sl,(hs.2 b (neL b o e)).trans r⟩
 ·obtain ⟨o',r⟩:=I.base.there b o e hx
  exact ⟨o',(hs.2 b (neL b o e)).trans r⟩
 ·by_cases hj:j=i
  ·subst hj
   by_cases hl:j < σ.length
   ·rw [List.getElem?_set_self hl] at e2;cases e2
   ·rw [List.getElem?_eq_none (by simpa using hl)] at e2;cases e2
  ·rw [List.getElem?_set_ne (Ne.symm hj)] at e2
   obtain ⟨u',r',q⟩:=hm j y v e1 e2 e3
   refine ⟨u',r',?_⟩
   rcases q with ⟨k,e⟩ | ⟨k,c,e,z⟩
   ·have hne:y≠n:=fun e=>hj (jJ hN e1 (e ▸ hi))
    exact .inl ⟨k,by simp [hne,e]⟩
   ·exact .inr ⟨k,c,e,z.sameBut hs (I.cne y c e)⟩
 ·obtain ⟨w',z⟩:=I.cell y c e
  exact ⟨w',z.sameBut hs (I.cne y c e)⟩
 ·obtain ⟨e,n,ne,nf,d⟩:=I.pin p hp
  exact ⟨(hs.2 p.1 ne).trans e,n,ne,nf,d⟩
 ·refine (I.hok a o q).stay (fun c w' hc r=>(hs.2 c ?_).trans r) (fun _ r=>r) fun _ _ r=>r
  rintro rfl
  rcases hc with rfl | hc
  ·rw [I.free] at q;cases q
  ·rw [I.free] at hc;cases hc
theorem Inv.bound {i:Nat} {n:Str} {v:V} (I:Inv X pins σ H s) (hi:X.N[i]? = some n) (hv:σ[i]? = some (some v)) (hk:X.env.scope.names.lookup n=some .local) :
  ∃ m u,s.heap.Ns X.env.locals m∧m n=some u∧∀ (j:Nat) (y:Str) (v:V),X.N[j]? = some y→σ[j]? = some (some v)→Vis X.env.scope y→∃ u,RelV v u∧yR X.env s.heap m y u:=by
 obtain ⟨m,hn,hl⟩:=I.loc
 obtain ⟨u,_,l⟩:=hl i n v hi hv (.inl hk)
 rcases l with ⟨_,e⟩ | ⟨k,_⟩
 ·exact ⟨m,u,hn,e,hl⟩
 ·have k:X.env.scope.names.lookup n=some .cell∨X.env.scope.names.lookup n=some .free:=k
  rcases k with k | k <;> rw [hk] at k <;> cases k
end
theorem l9 {M:Model} {A:Around} {E:Value→Shared→Prop} {K:PySem.W.Frag} {s:Shared} {ea C D:Addr} {o:Obj} {Q:Bool→Shared→Prop} (KX:K.In s.heap) (ho:s.heap.get? ea=some o) (hc:o.cls = .ref C)
  (h1:PySem.W.typeIn K (.ref D)=some (.type "type")) (h2:(PySem.W.clsIn K D).isSome=true) (h3:PySem.W.mroIn K D (.type "BaseException")=some true) (h4:PySem.W.mroIn K C (.ref D)=some true) (q:Q true s) :
  wpAny M A (excMatches (.ref ea) (.ref D)) Q E s:=by
 have L1:PySem.W.Looks M s.heap (typeOf (.ref D)) (.type "type"):=PySem.W.looks_typeIn KX h1
 have L2:PySem.W.Looks M s.heap (isSubtype (.ref D) (.type "BaseException")) true:=PySem.W.looks_mroIn KX h3
 have L3:PySem.W.Looks M s.heap (isSubtype (.ref C) (.ref D)) true:=PySem.W.looks_mroIn KX h4
 have L4:PySem.W.Looks M s.heap (typeOf (.ref ea)) (.ref C):=hc ▸ (PySem.W.Looks.ld ho).andThen .now
 have L5:PySem.W.Looks M s.heap (isType (.ref D)) true:=by
  obtain ⟨cd,e⟩:=Option.isSome_iff_exists.mp h2
  unfold PySem.W.clsIn at e
  split at e
  ·rename_i ho2
   intro A' Q' E' s' k q
   unfold isType loadHead
   exact wpAny_bind (wpAny_loadPart (k _ _ (KX _ _ ho2)) (wpAny_pure q))
  ·cases e
 have f:isSubtype (.type "type") (.type "tuple")=pure false:=tc_notTuple
 unfold excMatches isInstance isExcClass
 refine wpAny_bind (wpAny_bind (L1.at ?_))
 rw [f]
 refine wpAny_pure ?_
 simp only [Bool.false_eq_true,if_false]
 refine wpAny_bind (wpAny_pure ?_)
 rw [List.forIn_cons]
 refine wpAny_bind (wpAny_bind (wpAny_bind (wpAny_bind (L5.at ?_))))
 rw [if_pos rfl]
 refine L2.at ?_
 rw [if_neg (by decide)]
 refine wpAny_pure ?_
 show wpAny M A (pure PUnit.unit) _ E _
 refine wpAny_pure (wpAny_bind (L4.at ?_))
 rw [List.forIn_cons]
 refine wpAny_bind (wpAny_bind (wpAny_bind (L3.at ?_)))
 rw [if_pos rfl]
 exact wpAny_pure (wpAny_pure (wpAny_pure q))
end L2
set_option maxHeartbeats 4000000
namespace L2
open PySem PySem.Spec PyProof.Rows
section
variable {X:Cx}
def AL (X:Cx) (pins:List (Addr×Obj)) (σ:St) (ex:Addr→Option Addr→Hp→Prop) (e:Value) (s1:Shared):Prop:=
 ∃ (ea C:Addr) (dd:Option Addr) (B:Heap) (H' H0:Hp) (s0:Shared),e = .ref ea∧Inv X pins σ H0 s0∧Fly X.prog X.w X.stack H0 s0 ea (.ref C) dd B H' s1∧ex C dd H'
abbrev exK (ex:Addr→Option Addr→Hp→Prop):XK:=fun c dd H'=>∃ C,c = .ref C∧ex C dd H'
theorem oj {k:Nat} {f:Addr} {fd:FuncData} {ps:List Str} {sp:Sp} {x:Str} {p pos:Pos} {e:Expr} {es:List Expr} {t:TA} {dvs:List V} {ds:List Value} {pins:List (Addr×Obj)} {s:Shared} {σ:St} {H:Hp} {Q:VK} {ex:Addr→Option Addr→Hp→Prop}
  (F:FnOk X.prog X.w X.K X.mg X.base (CXe X.prog X.w) k f fd ps sp) (hr:Room k X.A) (hg:Gl X x) (hm:X.mg x=some (.ref f)) (hk:PySem.W.keepIn X.K (.ref f)=true) (hb:Binds X.K fd ps ds) (hd:Vals dvs ds) (ha:PA X.nox (e :: es) t)
  (I:Inv X pins σ H s) (h:t σ H fun vs H1=>sp (vs++dvs) H1 Q (exK ex)) (hdb:(x == ("__debug__" : Str))=false) (he:starEach (e :: es) X.env=(false,eval e X.env) :: starEach es X.env) (hpl:(backTo pos (starEach es X.env)).any (·.1)=false) :
  wpAny (model X.prog X.w) X.A (eval (.Call (.Name x p) (e :: es) [] pos) X.env) (EP X pins σ Q) (AL X pins σ ex) s:=by
 refine wpAny_Call_Name_kw (eI I hg hm ?_ hdb)
 refine PySem.W.callWith_K (h₀:=X.base) I.ok.mod.kin hk (wpAny_mono (ha pos pins s σ H _ (I.wish _) h) (fun us s1 ⟨vs,H1,I1,r,q⟩=>⟨I1.unwish.kIn,?_⟩) fun _ _ z=>z.elim) he hpl
 have I1':Inv X pins σ H1 s1:=I1.unwish
 have r2:Vals (vs++dvs) (us++ds):=r.append hd
 have hl:(us++ds).length=ps.length:=by rw [← r2.length];exact F.len _ _ _ _ q
 refine wpAny_call (codeAny_mono (F.run X.A X.stack s1 H1 ⟨us,[]⟩ (us++ds) (vs++dvs) Q _ hr I1'.env0 (hb s1 us I1'.kIn hl) r2 q) fun r s' hq => ?_)
 cases r with
 | error e'=>
  obtain ⟨ea,C,dd,B,H',rfl,y,D,hD,z⟩:=hq
  cases hD
  exact ⟨ea,C,dd,B,H',H1,s1,rfl,I1',y,z⟩
 | ok fl=>
  cases fl with
  | ret u=>exact I1'.after hq
  | next=>exact False.elim hq
  | brk=>exact False.elim hq
  | cont=>exact False.elim hq
abbrev TB:=St→Hp→(St→Hp→Prop)→(Addr→Option Addr→Hp→Prop)→Prop
def PB (X:Cx) (body:List Stmt) (t:TB):Prop:=∀ (pins:List (Addr×Obj)) (s:Shared) (σ:St) (H:Hp) (nx:St→Hp→Prop) (ex:Addr→Option Addr→Hp→Prop),Inv X pins σ H s→t σ H nx ex →
 wpAny (model X.prog X.w) X.A (execs body X.env) (fun f s1=>f = .next∧∃ σ' H',Inv X pins σ' H' s1∧nx σ' H') (AL X pins σ ex) s
theorem uX {k:Nat} {f:Addr} {fd:FuncData} {ps:List Str} {sp:Sp} {x:Str} {p pos apos:Pos} {e:Expr} {es:List Expr} {t:TA} {dvs:List V} {ds:List Value}
  (F:FnOk X.prog X.w X.K X.mg X.base (CXe X.prog X.w) k f fd ps sp) (hr:Room k X.A) (hg:Gl X x) (hm:X.mg x=some (.ref f)) (hk:PySem.W.keepIn X.K (.ref f)=true) (hb:Binds X.K fd ps ds) (hd:Vals dvs ds) (ha:PA X.nox (e :: es) t)
  (hs:swapsWith (.Call (.Name x p) (e :: es) [] pos) none apos.line X.env=pure false:=by rfl)
  (hdb:(x == ("__debug__" : Str))=false:=by decide) (he:starEach (e :: es) X.env=(false,eval e X.env) :: starEach es X.env:=by rfl) (hpl:(backTo pos (starEach es X.env)).any (·.1)=false:=by rfl) :
  PB X [.Expr (.Call (.Name x p) (e :: es) [] pos) apos] (fun σ H nx ex=>t σ H fun vs H1=>sp (vs++dvs) H1 (fun _ H2=>nx σ H2) (exK ex)):=by
 intro pins s σ H nx ex I h
 refine wpAny_execs_cons (wpAny_Expr_any (thn (oj F hr hg hm hk hb hd ha I h hdb he hpl) fun v s1 ⟨u,H1,I1,r1,q1⟩ => ?_) I.quiet hs)
 exact wpAny_execs_nil ⟨rfl,_,H1,I1,q1⟩
theorem xj {body:List Stmt} {tb:TB} {bx n z:Str} {D:Addr} {iz ie:Nat} {np pz pn zp hpos pos:Pos} (hB:PB X body tb) (hst:X.stack=X.env :: X.outer) (hfr:X.env.frame=some X.env.locals) (hg:Gl X bx) (hm:X.mg bx=some (.ref D))
  (h1:PySem.W.typeIn X.K (.ref D)=some (.type "type")) (h2:(PySem.W.clsIn X.K D).isSome=true) (h3:PySem.W.mroIn X.K D (.type "BaseException")=some true)
  (hN:X.N.Nodup) (hi:X.N[ie]? = some n) (hl:X.env.scope.names.lookup n=some .local) (hz:X.N[iz]? = some z) (hlz:Loc X.env.scope z) (hf:X.fn z=true∨X.env.scope.names.lookup z=some .local:=by first | exact .inl rfl | exact .inr rfl | assumption)
  (hsw:swapsWith (.Name n pn) (some (.Name z pz)) zp.line X.env=pure false:=by rfl) (hdb:(bx == ("__debug__" : Str))=false:=by decide) (hd1:(n == ("__debug__" : Str))=false:=by decide) (hd2:(n == ("__classdict__" : Str))=false:=by decide) :
  PS X (.Try body [.ExceptHandler (some (.Name bx np)) (some n) [.Assign [.Name z pz] (.Name n pn) zp] hpos] [] [] pos)
   (fun D' σ H=>tb σ H D'.nx fun C d H'=>PySem.W.mroIn X.K C (.ref D)=some true∧∀ ea,H' ea=none→D'.nx (((σ.set ie (some (.ref ea))).set iz (some (.ref ea))).set ie none) (upd H' ea (rL ea C d))):=by
 intro pins s σ H D' I h
 refine wpAny_Try_except (wpAny_mono (hB pins s σ H _ _ I h) (fun f s1 ⟨hf',σ',H',I',q⟩ => ?_) (fun e s1 hx => ?_))
 ·subst hf'
  exact wpAny_execs_nil ⟨σ',H',I',q⟩
 ·obtain ⟨ea,C,dd,B,H',H0,s0,rfl,I0,y,hmro,q⟩:=hx
  have frs0:X.A.frames=some (X.env :: X.outer):=by rw [← hst];exact I0.ok.frames
  have y':Fly X.prog X.w (X.env :: X.outer) H0 s0 ea (.ref C) dd B H' s1:=by rw [← hst];exact y
  have stf:∀ b∈frs X.stack,H0 b=none:=I0.stkFree
  have fns:∀ b∈frs X.stack,∃ o,s0.heap.get? b=some o:=fun b hb=>by
   obtain ⟨_,o,q,_⟩:=I0.stack.mem hb
   exact ⟨o,q⟩
  refine kM frs0 hfr y'.fl fun h4 held4 ups4 => ?_
  refine sq (s:={s1 with heap:=h4}) held4 fun h5 fl5 ups5 => ?_
  have y5:Fly X.prog X.w X.stack H0 s0 ea (.ref C) dd B H' {s1 with heap:=h5}:=y.move (by rw [hst];exact fl5) (ups4.trans ups5) stf fns
  have I5:=I0.caught y5
  obtain ⟨oe,ve,hoe,hoc,_,_⟩:=y5.fl.first
  refine wpAny_handleBy_cons (codeAny_handlers_test (eI (X:=X.marked (.ref ea)) (I5.mark (.ref ea)) hg hm ?_ hdb)) (fun z=>nomatch z)
  refine l9 I5.kIn hoe hoc h1 h2 h3 hmro ?_
  rw [if_pos rfl]
  refine codeAny_handlers_suite_as (sq (s:={s1 with heap:=h5}) fl5 fun h6 fl6 ups6 => ?_)
  have y6:Fly X.prog X.w X.stack H0 s0 ea (.ref C) dd B H' {s1 with heap:=h6}:=y5.move (s':={s1 with heap:=h5}) (by rw [hst];exact fl6) ups6 stf fns
  have I6:=(I0.caught y6).mark (.ref ea)
  refine fo (X:=X.marked (.ref ea)) (i:=ie) I6 hN hi (.inl hl) (v := .ref ea) rfl (fun s7 I7 => ?_) (.inr hl)
  have asg:PSs (X.marked (.ref ea)) [.Assign [.Name z pz] (.Name n pn) zp] _:=ad (aN (i:=iz) hN hz hlz (tR (i:=ie) hi (.inl hl) hd1 hd2) hsw hf)
  have len7:=I7.len
  have len0:=I0.len
  have hie:ie < σ.length:=by
   have:=(List.getElem?_eq_some_iff.mp hi).1
   rw [len0];exact this
  refine wpAny_mono (asg pins s7 _ _ {nx:=fun σ' H''=>σ'=(σ.set ie (some (.ref ea))).set iz (some (.ref ea))∧H''=upd H' ea (rL ea C dd),rt:=fun _ _=>False} I7 ⟨.ref ea,by rw [List.getElem?_set_self hie],rfl,rfl⟩) (fun fl s8 q8 => ?_) fun _ _ z=>z.elim
  cases fl with
  | brk=>obtain ⟨_,_,_,z⟩:=q8;exact z.elim
  | cont=>obtain ⟨_,_,_,z⟩:=q8;exact z.elim
  | ret u=>obtain ⟨_,_,_,_,_,z⟩:=q8;exact z.elim
  | next=>
   obtain ⟨σ8,H8,I8,e1,e2⟩:=q8
   subst e1
   subst e2
   have I8':Inv X pins _ _ s8:=I8.unmark I0.ok
   refine wpAny_bind (wpAny_bindName (fo (i:=ie) I8' hN hi (.inl hl) (v := .non) rfl (fun s9 I9 => ?_) (.inr hl)))
   have hie8:ie < (((σ.set ie (some (.ref ea))).set iz (some (.ref ea))).set ie (some V.non)).length:=by simpa using hie
   obtain ⟨m,u,hn,hmn,hall⟩:=I9.bound (i:=ie) (n:=n) (v := .non) hi (by rw [List.getElem?_set_self (by simpa using hie)]) hl
   have hp:(X.env.scope.kind == .class || (X.env.scope.kind == .module && X.env.locals != X.env.globals))=false:=by rw [I9.ok.kind];rfl
   refine wpAny_onRaise (wpAny_mono (wpAny_unbindName_local (E:=X.xe) hl hn hmn hp fun h' u' hn' hs' => ?_) (fun _ _ z=>z) fun _ _ z => ?_)
   ·have I10:=I9.unbound hN hi hn hall hn' hs'
    rw [List.set_set] at I10
    exact ⟨_,_,I10,q ea y.free⟩
   ·exact wpAny_standAt z
end
end L2
set_option maxHeartbeats 400000
set_option maxRecDepth 100000
namespace L2
open PySem PySem.Spec PyProof.Rows PySem.W PySem.Calls PySem.Builtin PySem.Builtin.ObjectAttr PySem.Builtin.Getset_descriptor
structure ExcC (K:PySem.W.Frag) (C:Addr):Prop where
 ga:PySem.W.findIn K (.ref C) "__getattribute__" = some (some (.builtin "BaseException.__getattribute__"))
 gt:PySem.W.findIn K (.ref C) "__getattr__" = some none
 ca:PySem.W.findIn K (.ref C) "__class__" = some (some (.builtin "object.__class__"))
 gg:PySem.W.specialIn K (.builtin "object.__class__") "__get__" = some (some (.builtin "getset_descriptor.__get__"))
 tk:PySem.W.takesIn K (.builtin "object.__class__")=some true
 mo:PySem.W.mroIn K C (.type "object")=some true
 mb:PySem.W.mroIn K C (.type "BaseException")=some true
 cl:(PySem.W.clsIn K C).isSome=true
section
variable {prog:Program} {w:World} {A:Around} {E:Value→Shared→Prop} {s:Shared} {K:PySem.W.Frag} {x C:Addr}
theorem jR {tp:Value} {R:Result→Shared→Prop} (L0:PySem.W.Looks (model prog w) s.heap (typeOf (.ref x)) (.ref C)) (KX:K.In s.heap) (T:ExcC K C) (h:R (.ok (.ret (.ref C))) s) :
  codeAny (model prog w) A (.call (.builtin "getset_descriptor.__get__") ⟨[.builtin "object.__class__",.ref x,tp],[]⟩) R s:=by
 have L1:=PySem.W.looks_mroIn (M:=model prog w) KX T.mo
 obtain ⟨hh,g,dr,t,os⟩:=s
 refine codeAny_call_builtin KF.slot_gs.plain KF.entry_gs (KF.slot_gs.check _ _ _ _ _ _ _ _ KF.type_class (KF.args_gs _ _ _) ?_)
 unfold Builtin.«getset_descriptor.__get__» descrGet
 rw [dga_obj]
 refine wpAny_bind (wpAny_pure ?_)
 unfold descrGetter descrCheckInstance descrNameAndClass isInstance
 simp only [KF.owner_class]
 repeat lk
 refine ⟨Code.quiet_builtin _ (by decide +kernel),codeAny_builtin KF.entry_class ?_⟩
 unfold Builtin.«object.__class__» shownTypeOf
 repeat lk
 exact h
theorem nk (L0:PySem.W.Looks (model prog w) s.heap (typeOf (.ref x)) (.ref C)) (KX:K.In s.heap) (T:ExcC K C):PySem.W.Looks (model prog w) s.heap (find (.ref x) (.ref C) "__class__") (.bind (.builtin "getset_descriptor.__get__") (.builtin "object.__class__")):=by
 have a1:=PySem.W.looks_findIn (M:=model prog w) KX T.ca
 have a2:=PySem.W.looks_specialIn (M:=model prog w) KX T.gg
 have a3:=PySem.W.looks_takesIn (M:=model prog w) KX T.tk
 have a4:PySem.W.Looks (model prog w) s.heap (dataDescriptor? (some (.builtin "object.__class__")) (some (.builtin "getset_descriptor.__get__"))) (some (.builtin "getset_descriptor.__get__",.builtin "object.__class__")):=a3.andThen .now
 exact a1.andThen ((show PySem.W.Looks (model prog w) s.heap (getOf (some (.builtin "object.__class__"))) _ from a2).andThen (a4.andThen (PySem.W.Looks.tag .now)))
theorem pN {M:Model} {id:String} {args:Args} {Q:Unit→Shared→Prop} (ha:argsOk id args) (h:Q () s):wpAny M A (match Manifest.signature? id with | some sig=>Bind.checkArgs id sig args | _=>pure ()) Q E s:=by
 unfold argsOk at ha
 cases hs:Manifest.signature? id with
 | none=>exact wpAny_pure h
 | some sig=>
  rw [hs] at ha
  have e:Bind.checkArgs id sig args=pure ():=ha
  show wpAny M A (Bind.checkArgs id sig args) Q E s
  rw [e]
  exact wpAny_pure h
theorem pO {tk:Tok} {Q:Fin→Shared→Prop} (L0:PySem.W.Looks (model prog w) s.heap (typeOf (.ref x)) (.ref C)) (KX:K.In s.heap) (T:ExcC K C) (h:Q (.done (.ret (.ref C))) s) :
  wpAny (model prog w) A (Builtin.«object.__getattribute__» ⟨[.ref x,.str (Str.ofString "__class__") tk],[]⟩) Q E s:=by
 have a4:=nk L0 KX T
 have e1:slotArgs "__getattribute__" 1 ⟨[.ref x,.str (Str.ofString "__class__") tk],[]⟩=pure (.ref x,[.str (Str.ofString "__class__") tk]):=rfl
 have e2:ObjectAttr.attrName (.str (Str.ofString "__class__") tk)=pure (Str.ofString "__class__"):=rfl
 unfold Builtin.«object.__getattribute__»
 rw [e1]
 refine wpAny_bind (wpAny_pure ?_)
 dsimp only
 rw [e2]
 refine wpAny_bind (wpAny_pure (wpAny_bind (L0.at (wpAny_bind (a4.at ?_)))))
 dsimp only
 have e3:bindTo (.builtin "getset_descriptor.__get__") (.builtin "object.__class__") (.ref x) (.ref C)=(holding [.builtin "object.__class__"] (call (.builtin "getset_descriptor.__get__") [.builtin "object.__class__",.ref x,.ref C]) >>= ret):=rfl
 rw [e3]
 exact wpAny_bind (wpAny_holding (wpAny_call (jR L0 KX T (wpAny_pure h))))
theorem sw {Q:Option Value→Shared→Prop} (L0:PySem.W.Looks (model prog w) s.heap (typeOf (.ref x)) (.ref C)) (KX:K.In s.heap) (T:ExcC K C) (h:Q (some (.ref C)) {s with toks:=s.toks+1}) :
  wpAny (model prog w) A (getAttr? (.ref x) "__class__") Q E s:=by
 have a1:=PySem.W.looks_findIn (M:=model prog w) KX T.ga
 have a2:=PySem.W.looks_findIn (M:=model prog w) KX T.gt
 have a3:=PySem.W.looks_mroIn (M:=model prog w) KX T.mb
 have a4:=nk L0 KX T
 have hb:=PySem.F.attr_ValueError.ga.bind (.ref x)
 unfold getAttr? getAttrBy? getAttrBy
 refine wpAny_bind (wpAny_mkText (wpAny_bind (wpAny_attempt (wpAny_holding (wpAny_bind (L0.at (wpAny_bind (a1.at ?_))))))))
 show wpAny _ _ (if (onTheHeap (.ref C) && (Value.builtin "BaseException.__getattribute__") == Value.builtin "object.__getattribute__")=true then _ else _) _ _ _
 rw [if_neg (by rw [show (Value.builtin "BaseException.__getattribute__" == Value.builtin "object.__getattribute__")=false by decide +kernel,Bool.and_false];decide)]
 unfold getAttrByItsOwn hookBefore
 rw [if_pos (show onTheHeap (Value.ref C)=true from rfl)]
 refine wpAny_bind (a2.at (wpAny_bind (wpAny_attempt (wpAny_holding ?_))))
 show wpAny _ _ (boundAndCalled (.builtin "BaseException.__getattribute__") (.ref x) _) _ _ _
 unfold boundAndCalled
 rw [hb]
 refine wpAny_bind (wpAny_pure (wpAny_call (codeAny_call_builtin PySem.F.attr_ValueError.ga.plain PySem.F.entry_bexc_ga ?_)))
 have hk:builtinKind "BaseException.__getattribute__" = some .slot:=by decide +kernel
 have hsplit:splitId "BaseException.__getattribute__" = some ("BaseException", "__getattribute__"):=by decide +kernel
 have ha:=PySem.F.args_bexc_ga (.ref x) (.str (Str.ofString "__class__") s.toks)
 simp only [checkBuiltinCall,hk,hsplit]
 refine wpAny_bind ?_
 unfold isInstance
 refine wpAny_bind (L0.at (a3.at ?_))
 rw [if_neg (by decide)]
 have key:wpAny (model prog w) A.in1 (match Manifest.signature? "BaseException.__getattribute__" with | some sig=>Bind.checkArgs "BaseException.__getattribute__" sig ⟨[.ref x,.str (Str.ofString "__class__") s.toks],[]⟩ | _=>pure ()) (fun _ s'=>s'={s with toks:=s.toks+1}) (fun _ _=>False) {s with toks:=s.toks+1}:=pN ha rfl
 refine wpAny_mono key (fun _ s1 es => ?_) (fun _ _ z=>z.elim)
 subst es
 refine pO (s:={s with toks:=s.toks+1}) L0 KX T ?_
 exact PySem.W.handed_on rfl (wpAny_pure h)
theorem sH {dd:Option Addr} (T:ExcC K C):PySem.W.KitX K (.ref x) (.ref C) (fun h=>∃ o vs,h.get? x=some o∧o.cls = .ref C∧o.data = .fields vs∧o.dict=dd) where
 ty:=fun _ _ _ ⟨_,_,ho,hc,_⟩=>hc ▸ (PySem.W.Looks.ld ho).andThen .now
 it:=fun _ _ KX _=>by
  obtain ⟨cd,e⟩:=Option.isSome_iff_exists.mp T.cl
  unfold PySem.W.clsIn at e
  split at e
  ·rename_i ho2
   intro A' Q' E' s' k q
   unfold isType loadHead
   exact wpAny_bind (wpAny_loadPart (k _ _ (KX _ _ ho2)) (wpAny_pure q))
  ·cases e
 ne:=fun h tp dd its n sl KX htp=>by
  obtain ⟨cd,e⟩:=Option.isSome_iff_exists.mp T.cl
  refine Bool.eq_false_iff.mpr fun q => ?_
  have e2:C=tp:=Value.ref.inj (beq_iff_eq.mp q)
  subst e2
  unfold PySem.W.clsIn at e
  split at e
  ·rename_i ho2
   have:=KX _ _ ho2
   rw [htp] at this
   cases this
  ·cases e
 ca:=fun KX ⟨_,_,ho,hc,_⟩ q=>sw (hc ▸ (PySem.W.Looks.ld ho).andThen .now) KX T q
end
section
variable {X:Cx}
def AM (K:PySem.W.Frag):List V→Hp→VK→Prop:=fun xs H Q=>∃ ea C cls c b,xs=[.ref ea,cls]∧(∃ dd,H ea=some (rL ea C dd))∧ExcC K C∧pI cls=some c∧PySem.W.kitOne K (.ref C) c=some b∧Q (.bl b) H
theorem sI:fu X (.builtin "isinstance") (AM X.K):=by
 intro pins s σ H xs us Q I r h
 obtain ⟨ea,C,cls,c,b,rfl,⟨dd,he⟩,T,hc,e,q⟩:=h
 obtain ⟨u,u2,rfl,rx,rc⟩:=wT r
 cases rx
 have ec:u2=c:=by
  cases cls with
  | ty n=>cases hc;exact rc
  | ref a=>cases hc;exact rc
  | _=>cases hc
 subst ec
 obtain ⟨p,_,_⟩:=(show ObjOk X.prog X.w H s.heap ea (rL ea C dd) from I.hok ea _ he)
 exact PySem.W.kia_one (sH T) I.kIn p e (fun z=>nomatch z) fun tk=>⟨.bl b,H,I.tok tk,rfl,q⟩
def Bw (K:PySem.W.Frag):List V→Hp→VK→Prop:=fun xs H Q=>∃ (ea C tp:Addr) (cs:List V) (vs:List Value) (b:Bool),xs=[.ref ea,.ref tp]∧(∃ dd,H ea=some (rL ea C dd))∧ExcC K C∧H tp=some (.tup cs)∧cs.map pI=vs.map some∧PySem.W.kitAny K (.ref C) vs=some b∧Q (.bl b) H
end
end L2
set_option maxHeartbeats 4000000
namespace L2
open PySem PySem.Spec PyProof.Rows
section
variable {X:Cx}
def Bx (X:Cx):R2:=fun x y H Q=>∃ t p1 p2 b1 b2,y = .ref t∧SqT X.K H t [.ref p1,.ref p2]∧p1≠p2∧EqW X H 8 (.ref p1) x b1∧EqW X H 8 (.ref p2) x b2∧Q (.bl (b1 || b2)) H
theorem xk {k:Nat} (hr:Room k X.A):OpR X (compareOp .In) (Bx X):=by
 intro pins s σ H x y v u Q I rx ry h
 obtain ⟨t,p1,p2,b1,b2,rfl,ht,hne,h1,h2,q⟩:=h
 cases ry
 obtain ⟨its,r,pl,hz⟩:=I.tuple ht
 obtain ⟨u1,us,rfl,r1,rr⟩:∃ u1 us,its=u1 :: us∧RelV (.ref p1) u1∧Vals [.ref p2] us:=by
  cases r with
  | cons a b=>exact ⟨_,_,rfl,a,b⟩
 obtain ⟨u2,rfl,r2⟩:=rr.one
 cases r1
 cases r2
 have hu:=hr.units
 have hu1:X.A.in1.units+8 < cLine:=by rw [iC];omega
 have e1:=h1 pins σ s (.ref p1) v I rfl rx X.A.in1 hu1
 have e2:=h2 pins σ s (.ref p2) v I rfl rx X.A.in1 hu1
 have n1:((Value.ref p1) == Value.ref p1)=true:=by simp
 have n2:((Value.ref p2) == Value.ref p1)=false:=by simpa using Ne.symm hne
 refine SeqAt.in_tupleAt (fun z=>if (z == Value.ref p1)=true then b1 else b2) pl (fun z hz => ?_) ⟨.bl (b1 || b2),H,I,?_,q⟩
 ·have hz':z = .ref p1∨z = .ref p2:=by simpa using hz
  rcases hz' with rfl | rfl
  ·rw [if_pos n1];exact e1
  ·rw [if_neg (by rw [n2];decide)];exact e2
 ·have e:(#[Value.ref p1,Value.ref p2]:Array Value).any (fun z=>if (z == Value.ref p1)=true then b1 else b2)=(b1 || b2):=by
   simp [Ne.symm hne]
  show Value.bool _=Value.bool _
  rw [e]
theorem sJ {H:Hp} {a b:Addr} {xs ys:List Int} (ha:H a=some (.lst (xs.map V.int))) (hb:H b=some (.lst (ys.map V.int))):EqW X H 8 (.ref a) (.ref b) (decide (xs=ys)):=by
 refine pK (nj (SqL.of ha) (SqL.of hb)) fun e => ?_
 subst e
 rw [ha] at hb
 injection hb with hb
 injection hb with hb
 have:xs=ys:=by
  have inj:∀ {l m:List Int},l.map V.int=m.map V.int→l=m:=fun {l m} h=>(List.map_inj_right (fun a b z=>V.int.inj z)).mp h
  exact inj hb
 exact decide_eq_true this
end
def Cn (H:Hp) (Q:VK) (l:List Int):Prop:=∀ r H',Same H H'→H r=none→H' r=some (.tup (l.map V.int))→Q (.ref r) H'
def By (H:Hp) (Q:VK) (i:Int):Prop:=∀ H',Same H H'→Q (.int i) H'
def Bz (H:Hp) (Q:VK) (b:Bool):Prop:=∀ H',Same H H'→Q (.bl b) H'
end L2
set_option maxHeartbeats 4000000
namespace L2
open PySem PySem.Spec PyProof.Rows
def At (H:Hp) (a:Addr) (o:HO):Prop:=H a=some o
def aK (H:Hp) (a:Addr):Prop:=H a=none
theorem af {H:Hp} {a:Addr} {o:HO}:At (upd H a o) a o:=bq
def MkL (H:Hp) (Q:VK) (l:List Int):Prop:=∀ r H',Same H H'→aK H r→At H' r (.lst (l.map V.int))→Q (.ref r) H'
def MkT (H:Hp) (Q:VK) (l:List Int):Prop:=∀ r H',Same H H'→aK H r→At H' r (.tup (l.map V.int))→Q (.ref r) H'
theorem aj {t:TS} {D:Ends} {s1 s2:St} {H:Hp} (e:s1=s2) (h:t D s2 H):t D s1 H:=e ▸ h
theorem xl {t u:TS} {D:Ends} {s:St} {H:Hp} (h:t {D with nx:=u D} s H):Ar t u D s H:=h
theorem uY {D:Ends} {s:St} {H:Hp} (h:D.nx s H):wE D s H:=h
theorem za {F B C:St→Hp→Prop} {R:VK} {s:St} {H:Hp} (h:F s H):(Ends.mk F R B C).nx s H:=h
theorem zb {F B C:St→Hp→Prop} {R:VK} {v:V} {H:Hp} (h:R v H):(Ends.mk F R B C).rt v H:=h
theorem xm {te:TE} {g:TG} {D:Ends} {s:St} {H:Hp} (h:te s H fun x H1=>g x s H1 D.nx):wu te g D s H:=h
theorem uZ {te:TE} {D:Ends} {s:St} {H:Hp} (h:te s H fun _ H1=>D.nx s H1):uy te D s H:=h
theorem xn {te:TE} {D:Ends} {s:St} {H:Hp} (h:te s H D.rt):Au te D s H:=h
theorem u3 {D:Ends} {s:St} {H:Hp} (h:D.rt .non H):wF D s H:=h
theorem xo {c:TT} {t u:TS} {D:Ends} {s:St} {H:Hp} (h:c s H fun b H1=>if b=true then t D s H1 else u D s H1):Av c t u D s H:=h
theorem sK {v:V} {s:St} {H:Hp} {Q:VK} (h:Q v H):tC v s H Q:=h
theorem zc {r:R2} {ta tb:TE} {s:St} {H:Hp} {Q:VK} (h:ta s H fun x H1=>tb s H1 fun y H2=>r x y H2 Q):tOp r ta tb s H Q:=h
theorem zd {r:V→Hp→VK→Prop} {ta:TE} {s:St} {H:Hp} {Q:VK} (h:ta s H fun x H1=>r x H1 Q):tUn r ta s H Q:=h
theorem ze {g:Int→Int→V} {i j:Int} {H:Hp} {Q:VK} (h:Q (g i j) H):rI0 g (.int i) (.int j) H Q:=⟨i,j,rfl,rfl,h⟩
theorem AN {C:Int→Int→Prop} {g:Int→Int→V} {i j:Int} {H:Hp} {Q:VK} (c:C i j) (h:Q (g i j) H):rI C g (.int i) (.int j) H Q:=⟨i,j,rfl,rfl,c,h⟩
theorem BC {g:Int→V} {i:Int} {H:Hp} {Q:VK} (h:Q (g i) H):rU g (.int i) H Q:=⟨i,rfl,h⟩
theorem xp {i j:Int} {H:Hp} {Q:VK} (h:Q (.bl (decide (i=j))) H):rEq (.int i) (.int j) H Q:=by
 refine ⟨rfl,?_⟩
 rw [show decide (V.int i=V.int j)=decide (i=j) by rw [jK];rfl]
 exact h
theorem xq {i j:Int} {H:Hp} {Q:VK} (h:Q (.bl (!decide (i=j))) H):rNe (.int i) (.int j) H Q:=by
 refine ⟨rfl,?_⟩
 rw [show decide (V.int i=V.int j)=decide (i=j) by rw [jK];rfl]
 exact h
theorem xr {i j:Str} {H:Hp} {Q:VK} (h:Q (.bl (decide (i=j))) H):rEq (.str i) (.str j) H Q:=by
 refine ⟨rfl,?_⟩
 rw [show decide (V.str i=V.str j)=decide (i=j) from decide_eq_decide.mpr ⟨fun z=>V.str.inj z,fun z=>congrArg V.str z⟩]
 exact h
theorem xt {i j:Str} {H:Hp} {Q:VK} (h:Q (.bl (!decide (i=j))) H):rNe (.str i) (.str j) H Q:=by
 refine ⟨rfl,?_⟩
 rw [show decide (V.str i=V.str j)=decide (i=j) from decide_eq_decide.mpr ⟨fun z=>V.str.inj z,fun z=>congrArg V.str z⟩]
 exact h
theorem u4 {t:TE} {s:St} {H:Hp} {Q:Bool→Hp→Prop} (h:t s H fun x H'=>∃ k,x = .bl k∧Q k H'):nX t s H Q:=h
theorem zh {t:TE} {s:St} {H:Hp} {Q:Bool→Hp→Prop} (h:t s H fun x H'=>∃ k,x = .bl k∧Q k H'):tB t s H Q:=h
theorem u5 {k:Bool} {P:Bool→Prop} (h:P k):∃ k',V.bl k=V.bl k'∧P k':=⟨k,rfl,h⟩
theorem sL {k:Int} {P:Int→Prop} (h:P k):∃ k',V.int k=V.int k'∧P k':=⟨k,rfl,h⟩
theorem xu {t u:TT} {s:St} {H:Hp} {Q:Bool→Hp→Prop} (h:t s H fun c H1=>if c=true then u s H1 Q else Q false H1):yS t u s H Q:=h
theorem zi {t u:TT} {s:St} {H:Hp} {Q:Bool→Hp→Prop} (h:t s H fun c H1=>if c=true then Q true H1 else u s H1 Q):tOr t u s H Q:=h
theorem xv {t:TT} {s:St} {H:Hp} {Q:Bool→Hp→Prop} (h:t s H fun c H1=>Q (!c) H1):Aq t s H Q:=h
theorem u6 {ta tb:TE} {s:St} {H:Hp} {Q:VK} (h:ta s H fun x H1=>∃ c,x = .bl c∧if c=true then tb s H1 Q else Q (.bl false) H1):wD ta tb s H Q:=h
theorem xw {t:TT} {ta tb:TE} {s:St} {H:Hp} {Q:VK} (h:t s H fun c H1=>if c=true then ta s H1 Q else tb s H1 Q):tIf t ta tb s H Q:=h
theorem xx {s:St} {H:Hp} {Q:List V→Hp→Prop} (h:Q [] H):tY s H Q:=h
theorem u7 {ta:TE} {tr:TA} {s:St} {H:Hp} {Q:List V→Hp→Prop} (h:ta s H fun x H1=>tr s H1 fun xs H2=>Q (x :: xs) H2):uJ ta tr s H Q:=h
theorem xy {t:TA} {s:St} {H:Hp} {Q:VK} (h:t s H fun xs H1=>xs.length≤sizeLine∧∀ p,aK H1 p→Q (.ref p) (upd H1 p (.tup xs))):yZ t s H Q:=h
theorem xz {t:TA} {s:St} {H:Hp} {Q:VK} (h:t s H fun xs H1=>xs.length≤sizeLine∧∀ p,aK H1 p→Q (.ref p) (upd H1 p (.lst xs))):AD t s H Q:=h
theorem u8 {sp:Sp} {dvs:List V} {E:XK} {t:TA} {s:St} {H:Hp} {Q:VK} (h:t s H fun vs H1=>sp (vs++dvs) H1 Q E):pi sp dvs E t s H Q:=h
theorem zj {r:List V→Hp→VK→Prop} {t:TA} {s:St} {H:Hp} {Q:VK} (h:t s H fun vs H1=>r vs H1 Q):tCB r t s H Q:=h
theorem zk {K:PySem.W.Frag} {T:String} {r:V→List V→Hp→VK→Prop} {to:TE} {t:TA} {s:St} {H:Hp} {Q:VK} (h:to s H fun x H1=>tyV K T x H1∧t s H1 fun xs H2=>r x xs H2 Q):tBM K T r to t s H Q:=h
theorem xA {K:PySem.W.Frag} {a:Addr} {xs:List V} {H:Hp} {A:Prop} (e:SqL K H a xs) (h:A):tyV K "list" (.ref a) H∧A:=⟨.inl ⟨rfl,xs,e⟩,h⟩
theorem bE {l:Addr} {xs:List V} {y:V} {H:Hp} {Q:VK} (e:At H l (.lst xs)) (hl:xs.length < sizeLine) (h:Q .non (upd H l (.lst (xs++[y])))):pB (.ref l) [y] H Q:=⟨l,xs,y,rfl,rfl,e,hl,h⟩
theorem va {i j:Int} {H:Hp} {Q:VK} (h:Q (.int (i+j)) H):AC (.int i) (.int j) H Q:=⟨i,j,rfl,rfl,h⟩
def yM (K:PySem.W.Frag) (f:Str):V→Hp→VK→Prop:=fun x H Q=>∃ a C dx fs v,x = .ref a∧H a=some (.ins C dx fs)∧Cls K C∧NoAttr K C f∧fs.lookup f=some v∧Q v H
theorem xB {K:PySem.W.Frag} {ta:TE} {f:Str} {s:St} {H:Hp} {Q:VK} (h:ta s H fun x H1=>yM K f x H1 Q):yK K ta f s H Q:=h
theorem vb {K:PySem.W.Frag} {f:Str} {a C dx:Addr} {fs:List (Str×V)} {v:V} {H:Hp} {Q:VK} (e:At H a (.ins C dx fs)) (c:Cls K C) (n:NoAttr K C f) (l:fs.lookup f=some v) (h:Q v H):yM K f (.ref a) H Q:=⟨a,C,dx,fs,v,rfl,e,c,n,l,h⟩
def sM (K:PySem.W.Frag) (f:Str) (y:V):V→Hp→(Hp→Prop)→Prop:=fun x H N=>∃ a C dx fs,x = .ref a∧H a=some (.ins C dx fs)∧Cls K C∧NoAttr K C f∧fs.length < 1000∧N (upd H a (.ins C dx (dI f y fs)))
theorem vc {K:PySem.W.Frag} {ta tv:TE} {f:Str} {D:Ends} {s:St} {H:Hp} (h:tv s H fun y H1=>ta s H1 fun x H2=>sM K f y x H2 fun H3=>D.nx s H3):yX K ta tv f D s H:=h
theorem sN {K:PySem.W.Frag} {f:Str} {a C dx:Addr} {fs fs':List (Str×V)} {y:V} {H:Hp} {N:Hp→Prop} (e:At H a (.ins C dx fs)) (c:Cls K C) (n:NoAttr K C f) (l:fs.length < 1000) (p:dI f y fs=fs') (h:N (upd H a (.ins C dx fs'))):sM K f y (.ref a) H N:=⟨a,C,dx,fs,rfl,e,c,n,l,p ▸ h⟩
def sO (K:PySem.W.Frag) (f:Str) (N:Addr→Addr→V→Hp→Prop):V→Hp→Prop:=fun x H=>∃ a C dx fs v,x = .ref a∧H a=some (.ins C dx fs)∧Cls K C∧NoAttr K C f∧fs.lookup f=some v∧N a C v H
def sP (f:Str) (a C:Addr) (z:V) (H:Hp) (N:Hp→Prop):Prop:=∃ dx' fs',H a=some (.ins C dx' fs')∧fs'.length < 1000∧N (upd H a (.ins C dx' (dI f z fs')))
theorem vd {K:PySem.W.Frag} {ta tv:TE} {rd:V→V→Hp→VK→Prop} {f:Str} {D:Ends} {s:St} {H:Hp} (h:ta s H fun x H1=>sO K f (fun a C v H1=>tv s H1 fun y H2=>rd v y H2 fun z H3=>sP f a C z H3 fun H4=>D.nx s H4) x H1):lY K ta tv rd f D s H:=h
theorem vf {K:PySem.W.Frag} {f:Str} {a C dx:Addr} {fs:List (Str×V)} {v:V} {H:Hp} {N:Addr→Addr→V→Hp→Prop} (e:At H a (.ins C dx fs)) (c:Cls K C) (n:NoAttr K C f) (l:fs.lookup f=some v) (h:N a C v H):sO K f N (.ref a) H:=⟨a,C,dx,fs,v,rfl,e,c,n,l,h⟩
theorem vg {f:Str} {a C dx:Addr} {fs fs':List (Str×V)} {z:V} {H:Hp} {N:Hp→Prop} (e:At H a (.ins C dx fs)) (l:fs.length < 1000) (p:dI f z fs=fs') (h:N (upd H a (.ins C dx fs'))):sP f a C z H N:=⟨dx,fs,e,l,p ▸ h⟩
def sQ (C:Addr) (m:Str) (N:V→Hp→Prop):V→Hp→Prop:=fun x H=>∃ a dx fs,x = .ref a∧H a=some (.ins C dx fs)∧fs.lookup m=none∧N x H
theorem vh {C:Addr} {m:Str} {sp:Sp} {dvs:List V} {E:XK} {ta:TE} {t:TA} {s:St} {H:Hp} {Q:VK} (h:ta s H fun x H1=>sQ C m (fun x H1=>t s H1 fun vs H2=>sp (x :: (vs++dvs)) H2 Q E) x H1):kq C m sp dvs E ta t s H Q:=h
theorem sR {C a dx:Addr} {m:Str} {fs:List (Str×V)} {H:Hp} {N:V→Hp→Prop} (e:At H a (.ins C dx fs)) (l:fs.lookup m=none) (h:N (.ref a) H):sQ C m N (.ref a) H:=⟨a,dx,fs,rfl,e,l,h⟩
def om (K:PySem.W.Frag):List V→Hp→VK→Prop:=fun xs H Q=>∃ p ys,xs=[.ref p]∧(SqL K H p ys∨SqT K H p ys)∧Q (.int ys.length) H
theorem pP {X:Cx}:fu X (.builtin "len") (om X.K):=kC
theorem vi {K:PySem.W.Frag} {a:Addr} {xs:List V} {H:Hp} {Q:VK} (e:SqL K H a xs) (h:Q (.int xs.length) H):om K [.ref a] H Q:=⟨a,xs,rfl,.inl e,h⟩
def kQ (K:PySem.W.Frag):List V→Hp→VK→Prop:=fun xs H Q=>∃ p ys,xs=[.ref p]∧(SqL K H p ys∨SqT K H p ys)∧∀ l,H l=none→Q (.ref l) (upd H l (.lst ys))
theorem oo {X:Cx}:fu X (.type "list") (kQ X.K):=kG
theorem sS {K:PySem.W.Frag} {a:Addr} {xs:List V} {H:Hp} {Q:VK} (e:SqL K H a xs) (h:∀ l,aK H l→Q (.ref l) (upd H l (.lst xs))):kQ K [.ref a] H Q:=⟨a,xs,rfl,.inl e,h⟩
def BD:List V→Hp→VK→Prop:=fun xs H Q=>(∃ i,xs=[.int i]∧Q (.int i) H)∨∃ k,xs=[.bl k]∧Q (.int (if k then 1 else 0)) H
def pQ (K:PySem.W.Frag):V→Hp→(Bool→Hp→Prop)→Prop:=fun x H Q=>∃ k,yW K x H k∧Q k H
def zl (K:PySem.W.Frag) (ta:TE):TT:=fun s H Q=>ta s H fun x H'=>pQ K x H' Q
theorem xC {X:Cx} {a:Expr} {ta:TE} (ha:PE X a ta) (he:∀ whole,isTrue a X.env whole=(do let v ← whole;standAt a.pos;holding [v] (truthy v))):PT X a (zl X.K ta):=rW ha he
theorem xD {K:PySem.W.Frag} {ta:TE} {s:St} {H:Hp} {Q:Bool→Hp→Prop} (h:ta s H fun x H'=>pQ K x H' Q):zl K ta s H Q:=h
theorem vj {K:PySem.W.Frag} {a:Addr} {xs:List V} {H:Hp} {Q:Bool→Hp→Prop} (e:SqL K H a xs) (h:Q (!xs.isEmpty) H):pQ K (.ref a) H Q:=⟨_,.inl ⟨xs,e,rfl⟩,h⟩
def zm:R2:=fun x y H Q=>y = .non∧Q (.bl (decide (x = .non))) H
def vk:R2:=fun x y H Q=>y = .non∧Q (.bl (!decide (x = .non))) H
theorem jS {X:Cx}:OpR X (compareOp .Is) zm:=wR
theorem nl {X:Cx}:OpR X (compareOp .IsNot) vk:=uF
theorem vm {H:Hp} {Q:VK} (h:Q (.bl true) H):zm .non .non H Q:=⟨rfl,h⟩
theorem vn {a:Addr} {H:Hp} {Q:VK} (h:Q (.bl false) H):zm (.ref a) .non H Q:=⟨rfl,h⟩
theorem sT {H:Hp} {Q:VK} (h:Q (.bl false) H):vk .non .non H Q:=⟨rfl,h⟩
theorem sU {a:Addr} {H:Hp} {Q:VK} (h:Q (.bl true) H):vk (.ref a) .non H Q:=⟨rfl,h⟩
theorem vo {C:Addr} {sp:Sp} {dvs:List V} {E:XK} {t:TA} {s:St} {H:Hp} {Q:VK} (h:t s H fun vs H1=>∀ x dx,aK H1 x→aK H1 dx→dx≠x→sp (.ref x :: (vs++dvs)) (upd (upd H1 dx (.own x)) x (.ins C dx [])) (fun v H2=>v = .non∧Q (.ref x) H2) E):n8 C sp dvs E t s H Q:=h
theorem cr {K:PySem.W.Frag} {a:Addr} {xs:List V} {i:Int} {v:V} {H:Hp} {Q:VK} (e:SqL K H a xs) (hi:atI xs i=some v) (h:Q v H):wY K (.ref a) (.int i) H Q:=⟨a,xs,i,v,rfl,rfl,e,hi,h⟩
theorem xE {K:PySem.W.Frag} {a:Addr} {xs:List V} {i:Int} {v:V} {H:Hp} {Q:VK} (e:SqT K H a xs) (hi:atI xs i=some v) (h:Q v H):uO K (.ref a) (.int i) H Q:=⟨a,xs,i,v,rfl,rfl,e,hi,h⟩
theorem pR {a b:Addr} {xs ys:List V} {H:Hp} {Q:VK} (e1:At H a (.lst xs)) (e2:At H b (.lst ys)) (hl:xs.length+ys.length≤sizeLine) (h:∀ p,aK H p→Q (.ref p) (upd H p (.lst (xs++ys)))):AG (.ref a) (.ref b) H Q:=⟨a,b,xs,ys,rfl,rfl,e1,e2,hl,h⟩
theorem zn {r:V→Option Int→Option Int→Hp→VK→Prop} {te:TE} {tl th:TO} {s:St} {H:Hp} {Q:VK} (h:te s H fun x H1=>tl s H1 fun l H2=>th s H2 fun u H3=>r x l u H3 Q):tSl r te tl th s H Q:=h
theorem pS {s:St} {H:Hp} {Q:Option Int→Hp→Prop} (h:Q none H):pp s H Q:=h
theorem vp {t:TE} {s:St} {H:Hp} {Q:Option Int→Hp→Prop} (h:t s H fun x H1=>∃ i,x = .int i∧Q (some i) H1):wX t s H Q:=h
theorem fK {K:PySem.W.Frag} {a:Addr} {xs ys:List V} {lo hi:Option Int} {H:Hp} {Q:VK} (e:SqL K H a xs) (c:jw xs lo hi=ys) (h:∀ p,aK H p→Q (.ref p) (upd H p (.lst ys))):y3 K (.ref a) lo hi H Q:=⟨a,xs,rfl,e,c ▸ h⟩
theorem vq {K:PySem.W.Frag} {neg:Bool} {x:V} {p:Addr} {xs:List V} {H:Hp} {Q:VK} (e:SqL K H p xs∨SqT K H p xs) (f:gv x=true) (g:xs.all gv=true) (h:Q (.bl (if neg then !inV x xs else inV x xs)) H):rIn K neg x (.ref p) H Q:=⟨p,xs,rfl,e,f,g,h⟩
theorem aO {p A B:Prop} [Decidable p] (h1:p→A) (h2:¬ p→B):if decide p=true then A else B:=by
 by_cases h:p
 ·rw [decide_eq_true h];exact sh (h1 h)
 ·rw [decide_eq_false h];exact wv (h2 h)
theorem dg {p A B:Prop} [Decidable p] (h1:¬ p→A) (h2:p→B):if (!decide p)=true then A else B:=by
 by_cases h:p
 ·rw [decide_eq_true h];exact wv (h2 h)
 ·rw [decide_eq_false h];exact sh (h1 h)
theorem xF {p A B:Prop} [Decidable p] (hp:¬ p) (h:B):if decide p=true then A else B:=aO (fun z=>absurd z hp) (fun _=>h)
theorem aC {H:Hp} {a p:Addr} {o x:HO} (hp:aK H p) (h:At H a o):At (upd H p x) a o:=(aP (aE h hp)).trans h
theorem aL {H:Hp} {a p:Addr} {o x:HO} (ne:a≠p) (h:At H a o):At (upd H p x) a o:=(aP ne).trans h
theorem jT {H:Hp} {a p:Addr} {x:HO} (h:aK (upd H p x) a):aK H a∧a≠p:=by
 have h':upd H p x a=none:=h
 by_cases e:a=p
 ·subst e;rw [bq] at h';cases h'
 ·rw [aP e] at h';exact ⟨h',e⟩
theorem Same.get {H H':Hp} {a:Addr} {o:HO} (s:Same H H') (h:At H a o):At H' a o:=s a o h
theorem Same.new {H H':Hp} {p:Addr} {o:HO} (s:Same H H') (hp:aK H' p):Same H (upd H' p o):=bN s (s.free hp)
def Chg (S:List Addr) (H H':Hp):Prop:=∀ b o,b∉S→H b=some o→H' b=some o
theorem Chg.refl (S:List Addr) (H:Hp):Chg S H H:=fun _ _ _ h=>h
theorem Chg.trans {S:List Addr} {H H1 H2:Hp} (a:Chg S H H1) (b:Chg S H1 H2):Chg S H H2:=fun c o n h=>b c o n (a c o n h)
theorem Same.chg {S:List Addr} {H H':Hp} (s:Same H H'):Chg S H H':=fun c o _ h=>s c o h
theorem Chg.new {S:List Addr} {H H':Hp} {p:Addr} {o:HO} (s:Chg S H H') (hp:aK H' p):Chg S H (upd H' p o):=fun b u n h=>by
 have:=s b u n h
 exact aC hp this
theorem Chg.upd {S:List Addr} {H H':Hp} {p:Addr} {o:HO} (s:Chg S H H') (hp:p∈S):Chg S H (upd H' p o):=fun b u n h=>by
 have:=s b u n h
 exact aL (fun e=>n (e ▸ hp)) this
theorem Same.fr {H H':Hp} {p:Addr} (s:Same H H') (h:aK H' p):aK H p:=s.free h
theorem Same.upF {H H':Hp} {p:Addr} {o:HO} (s:Same H H') (h:aK H p):Same H (upd H' p o):=bN s h
theorem At.sqL {K:PySem.W.Frag} {H:Hp} {a:Addr} {xs:List V} (h:At H a (.lst xs)):SqL K H a xs:=SqL.of h
theorem At.sqT {K:PySem.W.Frag} {H:Hp} {a:Addr} {xs:List V} (h:At H a (.tup xs)):SqT K H a xs:=SqT.of h
theorem At.ne {H:Hp} {a b:Addr} {o u:HO} (h:At H a o) (h':At H b u) (d:o≠u):a≠b:=yQ h h' d
theorem Chg.fr {S:List Addr} {H H':Hp} {p:Addr} (s:Chg S H H') (n:p∉S) (h:aK H' p):aK H p:=by
 cases q:H p with
 | none=>exact q
 | some o=>
  have:=s p o n q
  rw [h] at this
  cases this
theorem aH {a b:Addr} (h:a≠b):a∉[b]:=by simp [h]
theorem kR {a b c d:Addr} (h:a≠b) (h2:a≠c) (h3:a≠d):a∉[b,c,d]:=by simp [h,h2,h3]
theorem zo {v:V} {r:St} {H:Hp} {Q:VK} (h:Q v H):jb 0 (some v :: r) H Q:=⟨v,rfl,h⟩
theorem zq {v:V} {a0:Option V} {r:St} {H:Hp} {Q:VK} (h:Q v H):jb 1 (a0 :: some v :: r) H Q:=⟨v,rfl,h⟩
theorem zr {v:V} {x:Option V} {a0:Option V} {r:St} {H:Hp} {Q:St→Hp→Prop} (h:Q (a0 :: some v :: r) H):cy 1 v (a0 :: x :: r) H Q:=h
theorem zt {v:V} {a0 a1:Option V} {r:St} {H:Hp} {Q:VK} (h:Q v H):jb 2 (a0 :: a1 :: some v :: r) H Q:=⟨v,rfl,h⟩
theorem zu {v:V} {x:Option V} {a0 a1:Option V} {r:St} {H:Hp} {Q:St→Hp→Prop} (h:Q (a0 :: a1 :: some v :: r) H):cy 2 v (a0 :: a1 :: x :: r) H Q:=h
theorem zw {v:V} {a0 a1 a2:Option V} {r:St} {H:Hp} {Q:VK} (h:Q v H):jb 3 (a0 :: a1 :: a2 :: some v :: r) H Q:=⟨v,rfl,h⟩
theorem zx {v:V} {x:Option V} {a0 a1 a2:Option V} {r:St} {H:Hp} {Q:St→Hp→Prop} (h:Q (a0 :: a1 :: a2 :: some v :: r) H):cy 3 v (a0 :: a1 :: a2 :: x :: r) H Q:=h
theorem zy {v:V} {a0 a1 a2 a3:Option V} {r:St} {H:Hp} {Q:VK} (h:Q v H):jb 4 (a0 :: a1 :: a2 :: a3 :: some v :: r) H Q:=⟨v,rfl,h⟩
theorem zz {v:V} {x:Option V} {a0 a1 a2 a3:Option V} {r:St} {H:Hp} {Q:St→Hp→Prop} (h:Q (a0 :: a1 :: a2 :: a3 :: some v :: r) H):cy 4 v (a0 :: a1 :: a2 :: a3 :: x :: r) H Q:=h
theorem zA {v:V} {a0 a1 a2 a3 a4:Option V} {r:St} {H:Hp} {Q:VK} (h:Q v H):jb 5 (a0 :: a1 :: a2 :: a3 :: a4 :: some v :: r) H Q:=⟨v,rfl,h⟩
theorem zB {v:V} {x:Option V} {a0 a1 a2 a3 a4:Option V} {r:St} {H:Hp} {Q:St→Hp→Prop} (h:Q (a0 :: a1 :: a2 :: a3 :: a4 :: some v :: r) H):cy 5 v (a0 :: a1 :: a2 :: a3 :: a4 :: x :: r) H Q:=h
theorem zC {v:V} {a0 a1 a2 a3 a4 a5:Option V} {r:St} {H:Hp} {Q:VK} (h:Q v H):jb 6 (a0 :: a1 :: a2 :: a3 :: a4 :: a5 :: some v :: r) H Q:=⟨v,rfl,h⟩
theorem zD {v:V} {x:Option V} {a0 a1 a2 a3 a4 a5:Option V} {r:St} {H:Hp} {Q:St→Hp→Prop} (h:Q (a0 :: a1 :: a2 :: a3 :: a4 :: a5 :: some v :: r) H):cy 6 v (a0 :: a1 :: a2 :: a3 :: a4 :: a5 :: x :: r) H Q:=h
theorem zE {v:V} {a0 a1 a2 a3 a4 a5 a6:Option V} {r:St} {H:Hp} {Q:VK} (h:Q v H):jb 7 (a0 :: a1 :: a2 :: a3 :: a4 :: a5 :: a6 :: some v :: r) H Q:=⟨v,rfl,h⟩
theorem zF {v:V} {x:Option V} {a0 a1 a2 a3 a4 a5 a6:Option V} {r:St} {H:Hp} {Q:St→Hp→Prop} (h:Q (a0 :: a1 :: a2 :: a3 :: a4 :: a5 :: a6 :: some v :: r) H):cy 7 v (a0 :: a1 :: a2 :: a3 :: a4 :: a5 :: a6 :: x :: r) H Q:=h
theorem zG {v:V} {a0 a1 a2 a3 a4 a5 a6 a7:Option V} {r:St} {H:Hp} {Q:VK} (h:Q v H):jb 8 (a0 :: a1 :: a2 :: a3 :: a4 :: a5 :: a6 :: a7 :: some v :: r) H Q:=⟨v,rfl,h⟩
theorem zH {v:V} {x:Option V} {a0 a1 a2 a3 a4 a5 a6 a7:Option V} {r:St} {H:Hp} {Q:St→Hp→Prop} (h:Q (a0 :: a1 :: a2 :: a3 :: a4 :: a5 :: a6 :: a7 :: some v :: r) H):cy 8 v (a0 :: a1 :: a2 :: a3 :: a4 :: a5 :: a6 :: a7 :: x :: r) H Q:=h
theorem zI {v:V} {a0 a1 a2 a3 a4 a5 a6 a7 a8:Option V} {r:St} {H:Hp} {Q:VK} (h:Q v H):jb 9 (a0 :: a1 :: a2 :: a3 :: a4 :: a5 :: a6 :: a7 :: a8 :: some v :: r) H Q:=⟨v,rfl,h⟩
theorem zJ {v:V} {x:Option V} {a0 a1 a2 a3 a4 a5 a6 a7 a8:Option V} {r:St} {H:Hp} {Q:St→Hp→Prop} (h:Q (a0 :: a1 :: a2 :: a3 :: a4 :: a5 :: a6 :: a7 :: a8 :: some v :: r) H):cy 9 v (a0 :: a1 :: a2 :: a3 :: a4 :: a5 :: a6 :: a7 :: a8 :: x :: r) H Q:=h
theorem xG {v:V} {a0 a1 a2 a3 a4 a5 a6 a7 a8 a9:Option V} {r:St} {H:Hp} {Q:VK} (h:Q v H):jb 10 (a0 :: a1 :: a2 :: a3 :: a4 :: a5 :: a6 :: a7 :: a8 :: a9 :: some v :: r) H Q:=⟨v,rfl,h⟩
theorem xH {v:V} {x:Option V} {a0 a1 a2 a3 a4 a5 a6 a7 a8 a9:Option V} {r:St} {H:Hp} {Q:St→Hp→Prop} (h:Q (a0 :: a1 :: a2 :: a3 :: a4 :: a5 :: a6 :: a7 :: a8 :: a9 :: some v :: r) H):cy 10 v (a0 :: a1 :: a2 :: a3 :: a4 :: a5 :: a6 :: a7 :: a8 :: a9 :: x :: r) H Q:=h
theorem xI {v:V} {a0 a1 a2 a3 a4 a5 a6 a7 a8 a9 a10:Option V} {r:St} {H:Hp} {Q:VK} (h:Q v H):jb 11 (a0 :: a1 :: a2 :: a3 :: a4 :: a5 :: a6 :: a7 :: a8 :: a9 :: a10 :: some v :: r) H Q:=⟨v,rfl,h⟩
theorem xJ {v:V} {x:Option V} {a0 a1 a2 a3 a4 a5 a6 a7 a8 a9 a10:Option V} {r:St} {H:Hp} {Q:St→Hp→Prop} (h:Q (a0 :: a1 :: a2 :: a3 :: a4 :: a5 :: a6 :: a7 :: a8 :: a9 :: a10 :: some v :: r) H):cy 11 v (a0 :: a1 :: a2 :: a3 :: a4 :: a5 :: a6 :: a7 :: a8 :: a9 :: a10 :: x :: r) H Q:=h
theorem xK {v:V} {a0 a1 a2 a3 a4 a5 a6 a7 a8 a9 a10 a11:Option V} {r:St} {H:Hp} {Q:VK} (h:Q v H):jb 12 (a0 :: a1 :: a2 :: a3 :: a4 :: a5 :: a6 :: a7 :: a8 :: a9 :: a10 :: a11 :: some v :: r) H Q:=⟨v,rfl,h⟩
theorem xL {v:V} {x:Option V} {a0 a1 a2 a3 a4 a5 a6 a7 a8 a9 a10 a11:Option V} {r:St} {H:Hp} {Q:St→Hp→Prop} (h:Q (a0 :: a1 :: a2 :: a3 :: a4 :: a5 :: a6 :: a7 :: a8 :: a9 :: a10 :: a11 :: some v :: r) H):cy 12 v (a0 :: a1 :: a2 :: a3 :: a4 :: a5 :: a6 :: a7 :: a8 :: a9 :: a10 :: a11 :: x :: r) H Q:=h
theorem xM {v:V} {a0 a1 a2 a3 a4 a5 a6 a7 a8 a9 a10 a11 a12:Option V} {r:St} {H:Hp} {Q:VK} (h:Q v H):jb 13 (a0 :: a1 :: a2 :: a3 :: a4 :: a5 :: a6 :: a7 :: a8 :: a9 :: a10 :: a11 :: a12 :: some v :: r) H Q:=⟨v,rfl,h⟩
theorem xN {v:V} {x:Option V} {a0 a1 a2 a3 a4 a5 a6 a7 a8 a9 a10 a11 a12:Option V} {r:St} {H:Hp} {Q:St→Hp→Prop} (h:Q (a0 :: a1 :: a2 :: a3 :: a4 :: a5 :: a6 :: a7 :: a8 :: a9 :: a10 :: a11 :: a12 :: some v :: r) H):cy 13 v (a0 :: a1 :: a2 :: a3 :: a4 :: a5 :: a6 :: a7 :: a8 :: a9 :: a10 :: a11 :: a12 :: x :: r) H Q:=h
theorem xO {v:V} {a0 a1 a2 a3 a4 a5 a6 a7 a8 a9 a10 a11 a12 a13:Option V} {r:St} {H:Hp} {Q:VK} (h:Q v H):jb 14 (a0 :: a1 :: a2 :: a3 :: a4 :: a5 :: a6 :: a7 :: a8 :: a9 :: a10 :: a11 :: a12 :: a13 :: some v :: r) H Q:=⟨v,rfl,h⟩
theorem xP {v:V} {x:Option V} {a0 a1 a2 a3 a4 a5 a6 a7 a8 a9 a10 a11 a12 a13:Option V} {r:St} {H:Hp} {Q:St→Hp→Prop} (h:Q (a0 :: a1 :: a2 :: a3 :: a4 :: a5 :: a6 :: a7 :: a8 :: a9 :: a10 :: a11 :: a12 :: a13 :: some v :: r) H):cy 14 v (a0 :: a1 :: a2 :: a3 :: a4 :: a5 :: a6 :: a7 :: a8 :: a9 :: a10 :: a11 :: a12 :: a13 :: x :: r) H Q:=h
theorem xQ {v:V} {a0 a1 a2 a3 a4 a5 a6 a7 a8 a9 a10 a11 a12 a13 a14:Option V} {r:St} {H:Hp} {Q:VK} (h:Q v H):jb 15 (a0 :: a1 :: a2 :: a3 :: a4 :: a5 :: a6 :: a7 :: a8 :: a9 :: a10 :: a11 :: a12 :: a13 :: a14 :: some v :: r) H Q:=⟨v,rfl,h⟩
theorem xR {v:V} {x:Option V} {a0 a1 a2 a3 a4 a5 a6 a7 a8 a9 a10 a11 a12 a13 a14:Option V} {r:St} {H:Hp} {Q:St→Hp→Prop} (h:Q (a0 :: a1 :: a2 :: a3 :: a4 :: a5 :: a6 :: a7 :: a8 :: a9 :: a10 :: a11 :: a12 :: a13 :: a14 :: some v :: r) H):cy 15 v (a0 :: a1 :: a2 :: a3 :: a4 :: a5 :: a6 :: a7 :: a8 :: a9 :: a10 :: a11 :: a12 :: a13 :: a14 :: x :: r) H Q:=h
end L2
set_option maxHeartbeats 4000000
namespace L2
open PySem PySem.Spec PyProof.Rows
def sp0 (f:Hp→VK→XK→Prop):Sp:=fun vs H Q E=>vs=[]∧f H Q E
def sp1 (f:V→Hp→VK→XK→Prop):Sp:=fun vs H Q E=>∃ a,vs=[a]∧f a H Q E
def sp2 (f:V→V→Hp→VK→XK→Prop):Sp:=fun vs H Q E=>∃ a b,vs=[a,b]∧f a b H Q E
def sp3 (f:V→V→V→Hp→VK→XK→Prop):Sp:=fun vs H Q E=>∃ a b c,vs=[a,b,c]∧f a b c H Q E
def sp4 (f:V→V→V→V→Hp→VK→XK→Prop):Sp:=fun vs H Q E=>∃ a b c d,vs=[a,b,c,d]∧f a b c d H Q E
theorem jU {f:V→Hp→VK→XK→Prop} {p:Str}:∀ vs H Q E,sp1 f vs H Q E→vs.length=[p].length:=by rintro _ _ _ _ ⟨_,rfl,_⟩;rfl
theorem gT {f:V→V→Hp→VK→XK→Prop} {p q:Str}:∀ vs H Q E,sp2 f vs H Q E→vs.length=[p,q].length:=by rintro _ _ _ _ ⟨_,_,rfl,_⟩;rfl
theorem yN {f:V→V→V→Hp→VK→XK→Prop} {p q r:Str}:∀ vs H Q E,sp3 f vs H Q E→vs.length=[p,q,r].length:=by rintro _ _ _ _ ⟨_,_,_,rfl,_⟩;rfl
theorem AO {f:V→V→V→V→Hp→VK→XK→Prop} {p q r t:Str}:∀ vs H Q E,sp4 f vs H Q E→vs.length=[p,q,r,t].length:=by rintro _ _ _ _ ⟨_,_,_,_,rfl,_⟩;rfl
theorem zK {f:V→Hp→VK→XK→Prop} {a:V} {H:Hp} {Q:VK} {E:XK} (h:f a H Q E):sp1 f ([a]++[]) H Q E:=⟨a,rfl,h⟩
theorem zL {f:V→V→Hp→VK→XK→Prop} {a b:V} {H:Hp} {Q:VK} {E:XK} (h:f a b H Q E):sp2 f ([a,b]++[]) H Q E:=⟨a,b,rfl,h⟩
theorem zM {f:V→V→V→Hp→VK→XK→Prop} {a b c:V} {H:Hp} {Q:VK} {E:XK} (h:f a b c H Q E):sp3 f ([a,b,c]++[]) H Q E:=⟨a,b,c,rfl,h⟩
theorem zN {f:V→V→V→V→Hp→VK→XK→Prop} {a b c d:V} {H:Hp} {Q:VK} {E:XK} (h:f a b c d H Q E):sp4 f ([a,b,c,d]++[]) H Q E:=⟨a,b,c,d,rfl,h⟩
theorem zO {f:V→Hp→VK→XK→Prop} {a:V} {H:Hp} {Q:VK} {E:XK} (h:f a H Q E):sp1 f (a :: ([]++[])) H Q E:=⟨a,rfl,h⟩
theorem zP {f:V→V→Hp→VK→XK→Prop} {a b:V} {H:Hp} {Q:VK} {E:XK} (h:f a b H Q E):sp2 f (a :: ([b]++[])) H Q E:=⟨a,b,rfl,h⟩
theorem zQ {f:V→V→V→Hp→VK→XK→Prop} {a b c:V} {H:Hp} {Q:VK} {E:XK} (h:f a b c H Q E):sp3 f (a :: ([b,c]++[])) H Q E:=⟨a,b,c,rfl,h⟩
def DefAt (K:PySem.W.Frag) (mg:Str→Option Value) (x:Str) (st:Stmt):Prop:=∃ f fd,Fun K x x st f fd∧mg x=some (.ref f)
def MethAt (K:PySem.W.Frag) (C:Addr) (m qual:Str) (st:Stmt):Prop:=∃ f fd,Fun K m qual st f fd∧Meth K C m f
def InitAt (K:PySem.W.Frag) (C:Addr) (qual:Str) (st:Stmt):Prop:=∃ f fd,Fun K "__init__" qual st f fd∧Mk K C f
def g9 (P:Program) (w:World) (K:PySem.W.Frag) (mg:Str→Option Value) (base:Heap) (CX:CXT) (k:Nat) (x:Str) (ps:List Str) (sp:Sp):Prop:=
 ∃ f fd,FnOk P w K mg base CX k f fd ps sp∧Binds K fd ps []∧PySem.W.keepIn K (.ref f)=true∧mg x=some (.ref f)
def fk (P:Program) (w:World) (K:PySem.W.Frag) (mg:Str→Option Value) (base:Heap) (CX:CXT) (k:Nat) (C:Addr) (m:Str) (ps:List Str) (sp:Sp):Prop:=
 ∃ f fd,FnOk P w K mg base CX k f fd ps sp∧Binds K fd ps []∧Meth K C m f
def ww (P:Program) (w:World) (K:PySem.W.Frag) (mg:Str→Option Value) (base:Heap) (CX:CXT) (k:Nat) (C:Addr) (ps:List Str) (sp:Sp):Prop:=
 ∃ f fd,FnOk P w K mg base CX k f fd ps sp∧Binds K fd ps []∧Mk K C f
section
variable {P:Program} {w:World} {K:PySem.W.Frag} {mg:Str→Option Value} {base:Heap}
abbrev kS (x qual:Str) (st:Stmt) (ps:List Str):Prop:=∀ (kV doc pm:Value) (an:Option Addr) (cdv ct:Value) (us:List Value),us.length=ps.length→bindArgs (PySem.W.fnOf x qual (gw st) (bJ st) (ag st) .none kV doc pm an cdv ct) ⟨us,[]⟩=pure (ps.zip us)
theorem DefAt.ok {x:Str} {st:Stmt} {N ps:List Str} {k:Nat} {sp:Sp} (D:DefAt K mg x st) (S:FnScope N ps (ag st)) (hb:kS x x st ps) (len:∀ vs H Q E,sp vs H Q E→vs.length=ps.length)
  (hbody:∀ (f:Addr) (cdv:Value) (A:Around) (outer:List Env) (s:Shared) (H:Hp) (vs:List V) (Q:VK) (E:XK),Room k (A.deeper (envOfC x (ag st) s.heap.objs.size f cdv))→sp vs H Q E →
   ∃ t,PSs (bt CX0 P w K mg base N x (ag st) f cdv A outer s H E).nox (bJ st) t∧t {nx:=fun _ H'=>Q .non H',rt:=Q} (start N vs) H):g9 P w K mg base CX0 (k+1) x ps sp:=by
 obtain ⟨f,fd,F,m⟩:=D
 exact ⟨f,fd,F.ok S len (hbody f),F.binds hb,F.kp,m⟩
theorem DefAt.okE {x:Str} {st:Stmt} {N ps:List Str} {k:Nat} {sp:Sp} (D:DefAt K mg x st) (S:FnScope N ps (ag st)) (hb:kS x x st ps) (len:∀ vs H Q E,sp vs H Q E→vs.length=ps.length)
  (hbody:∀ (f:Addr) (cdv:Value) (A:Around) (outer:List Env) (s:Shared) (H:Hp) (vs:List V) (Q:VK) (E:XK),Room k (A.deeper (envOfC x (ag st) s.heap.objs.size f cdv))→sp vs H Q E →
   ∃ t,PSs (bt (CXe P w) P w K mg base N x (ag st) f cdv A outer s H E) (bJ st) t∧t {nx:=fun _ H'=>Q .non H',rt:=Q} (start N vs) H):g9 P w K mg base (CXe P w) (k+1) x ps sp:=by
 obtain ⟨f,fd,F,m⟩:=D
 exact ⟨f,fd,F.okE S len (hbody f),F.binds hb,F.kp,m⟩
theorem MethAt.ok {C:Addr} {m qual:Str} {st:Stmt} {N ps:List Str} {k:Nat} {sp:Sp} (D:MethAt K C m qual st) (S:FnScope N ps (ag st)) (hb:kS m qual st ps) (len:∀ vs H Q E,sp vs H Q E→vs.length=ps.length)
  (hbody:∀ (f:Addr) (cdv:Value) (A:Around) (outer:List Env) (s:Shared) (H:Hp) (vs:List V) (Q:VK) (E:XK),Room k (A.deeper (envOfC qual (ag st) s.heap.objs.size f cdv))→sp vs H Q E →
   ∃ t,PSs (bt CX0 P w K mg base N qual (ag st) f cdv A outer s H E).nox (bJ st) t∧t {nx:=fun _ H'=>Q .non H',rt:=Q} (start N vs) H):fk P w K mg base CX0 (k+1) C m ps sp:=by
 obtain ⟨f,fd,F,m⟩:=D
 exact ⟨f,fd,F.ok S len (hbody f),F.binds hb,m⟩
theorem MethAt.okE {C:Addr} {m qual:Str} {st:Stmt} {N ps:List Str} {k:Nat} {sp:Sp} (D:MethAt K C m qual st) (S:FnScope N ps (ag st)) (hb:kS m qual st ps) (len:∀ vs H Q E,sp vs H Q E→vs.length=ps.length)
  (hbody:∀ (f:Addr) (cdv:Value) (A:Around) (outer:List Env) (s:Shared) (H:Hp) (vs:List V) (Q:VK) (E:XK),Room k (A.deeper (envOfC qual (ag st) s.heap.objs.size f cdv))→sp vs H Q E →
   ∃ t,PSs (bt (CXe P w) P w K mg base N qual (ag st) f cdv A outer s H E) (bJ st) t∧t {nx:=fun _ H'=>Q .non H',rt:=Q} (start N vs) H):fk P w K mg base (CXe P w) (k+1) C m ps sp:=by
 obtain ⟨f,fd,F,m⟩:=D
 exact ⟨f,fd,F.okE S len (hbody f),F.binds hb,m⟩
theorem InitAt.ok {C:Addr} {qual:Str} {st:Stmt} {N ps:List Str} {k:Nat} {sp:Sp} (D:InitAt K C qual st) (S:FnScope N ps (ag st)) (hb:kS "__init__" qual st ps) (len:∀ vs H Q E,sp vs H Q E→vs.length=ps.length)
  (hbody:∀ (f:Addr) (cdv:Value) (A:Around) (outer:List Env) (s:Shared) (H:Hp) (vs:List V) (Q:VK) (E:XK),Room k (A.deeper (envOfC qual (ag st) s.heap.objs.size f cdv))→sp vs H Q E →
   ∃ t,PSs (bt CX0 P w K mg base N qual (ag st) f cdv A outer s H E).nox (bJ st) t∧t {nx:=fun _ H'=>Q .non H',rt:=Q} (start N vs) H):ww P w K mg base CX0 (k+1) C ps sp:=by
 obtain ⟨f,fd,F,m⟩:=D
 exact ⟨f,fd,F.ok S len (hbody f),F.binds hb,m⟩
end
theorem nq {P:Program} {w:World} {X:Cx}:cf (CXe P w) X E0:=fun _ _ _ _ _ _ _ ⟨_,_,_,_,_,_,_,h⟩=>h.elim
section
variable {X:Cx} {CX:CXT} {j k:Nat} {x m:Str} {C:Addr} {ps:List Str} {sp:Sp} {E:XK} {p pos apos:Pos} {e o:Expr} {es:List Expr} {t:TA} {ta:TE}
theorem cv (G:g9 X.prog X.w X.K X.mg X.base CX j x ps sp) (hr:Room k X.A) (hx:cf CX X E) (ha:PA X (e :: es) t) (hjk:j≤k:=by decide) (hg:Gl X x:=by rfl) (hdb:(x == ("__debug__" : Str))=false:=by decide)
  (he:starEach (e :: es) X.env=(false,eval e X.env) :: starEach es X.env:=by rfl) (hpl:(backTo pos (starEach es X.env)).any (·.1)=false:=by rfl):PE X (.Call (.Name x p) (e :: es) [] pos) (pi sp [] E t):=by
 obtain ⟨f,fd,F,b,kp,mm⟩:=G
 exact uK F (hr.mono hjk) hg mm kp b .nil hx ha hdb he hpl
theorem eJ {pl:Sem Bool} (c:Cls X.K C) (G:fk X.prog X.w X.K X.mg X.base CX j C m ps sp) (hr:Room k X.A) (hx:cf CX X E) (he:PE X o ta) (ha:PA X (e :: es) t) (hjk:j≤k:=by decide)
  (hst:starEach (e :: es) X.env=(false,eval e X.env) :: starEach es X.env:=by rfl) (hpl:(backTo pos (starEach es X.env)).any (·.1)=false:=by rfl)
  (ht:eval (.Call (.Attribute o m apos) (e :: es) [] pos) X.env=(do
   let ov ← eval o X.env
   standAt apos.atName
   let (f,first) ← holding [ov] (getMethod ov m pl)
   callWith pos f first (backTo pos (starEach (e :: es) X.env)) (backToKw pos (keywordEach [] X.env))):=by rfl) :
  PE X (.Call (.Attribute o m apos) (e :: es) [] pos) (kq C m sp [] E ta t):=by
 obtain ⟨f,fd,F,b,mm⟩:=G
 exact uL he c mm F (hr.mono hjk) b .nil hx ha hst hpl ht
theorem jV {pl:Sem Bool} (c:Cls X.K C) (G:fk X.prog X.w X.K X.mg X.base CX j C m ps sp) (hr:Room k X.A) (hx:cf CX X E) (he:PE X o ta) (hjk:j≤k:=by decide)
  (ht:eval (.Call (.Attribute o m apos) [] [] pos) X.env=(do
   let ov ← eval o X.env
   standAt apos.atName
   let (f,first) ← holding [ov] (getMethod ov m pl)
   callWith pos f first (backTo pos (starEach [] X.env)) (backToKw pos (keywordEach [] X.env))):=by rfl) :
  PE X (.Call (.Attribute o m apos) [] [] pos) (kq C m sp [] E ta tY):=by
 obtain ⟨f,fd,F,b,mm⟩:=G
 exact rZ he c mm F (hr.mono hjk) b .nil hx ht
theorem zR (G:ww X.prog X.w X.K X.mg X.base CX j C ps sp) (hr:Room k X.A) (hm:X.mg x=some (.ref C)) (hx:cf CX X E) (ha:PA X (e :: es) t) (hjk:j+1≤k:=by decide) (hg:Gl X x:=by rfl) (hdb:(x == ("__debug__" : Str))=false:=by decide)
  (he:starEach (e :: es) X.env=(false,eval e X.env) :: starEach es X.env:=by rfl) (hpl:(backTo pos (starEach es X.env)).any (·.1)=false:=by rfl):PE X (.Call (.Name x p) (e :: es) [] pos) (n8 C sp [] E t):=by
 obtain ⟨f,fd,F,b,mm⟩:=G
 exact uM mm F (hr.mono hjk) hg hm b .nil hx ha hdb he hpl
theorem pT (G:ww X.prog X.w X.K X.mg X.base CX j C ps sp) (hr:Room k X.A) (hm:X.mg x=some (.ref C)) (hx:cf CX X E) (hjk:j+1≤k:=by decide) (hg:Gl X x:=by rfl) (hdb:(x == ("__debug__" : Str))=false:=by decide) :
  PE X (.Call (.Name x p) [] [] pos) (n8 C sp [] E tY):=by
 obtain ⟨f,fd,F,b,mm⟩:=G
 exact r6 mm F (hr.mono hjk) hg hm b .nil hx hdb
end
theorem pgi {X:Cx} {x:Str} {i:Int} {pos:Pos} (hm:∃ t,X.mg x=some (.int i t)) (hg:Gl X x:=by rfl) (hd:(x == ("__debug__" : Str))=false:=by decide):PE X (.Name x pos) (tC (.int i)):=let ⟨_,h⟩:=hm;lW hg h ⟨_,rfl⟩ hd
theorem pgs {X:Cx} {x:Str} {i:Str} {pos:Pos} (hm:∃ t,X.mg x=some (.str i t)) (hg:Gl X x:=by rfl) (hd:(x == ("__debug__" : Str))=false:=by decide):PE X (.Name x pos) (tC (.str i)):=let ⟨_,h⟩:=hm;lW hg h ⟨_,rfl⟩ hd
theorem pgr {X:Cx} {x:Str} {a:Addr} {pos:Pos} (hm:X.mg x=some (.ref a)) (hg:Gl X x:=by rfl) (hd:(x == ("__debug__" : Str))=false:=by decide):PE X (.Name x pos) (tC (.ref a)):=lW hg hm rfl hd
theorem pty {X:Cx} {x:Str} {n:String} {pos:Pos} (hm:X.mg x=none) (hv:bootBuiltins x=some (.type n)) (hg:Gl X x:=by rfl) (hn:x ≠ "__name__" := by decide) (hd:(x == ("__debug__" : Str))=false:=by decide):PE X (.Name x pos) (tC (.ty n)):=ux hg hm hv rfl hn hd
end L2
set_option maxHeartbeats 4000000
namespace L2
open PySem PySem.Spec PyProof.Rows
theorem aA {H:Hp} {a b:Addr} {o:HO} (h':aK H b) (h:At H a o):a≠b:=aE h h'
def rdF (w p c:V):List (Str×V):=[("wire",w),("plain",p),("choices",c)]
theorem md {w p c v:V}:dI "choices" v (rdF w p c)=rdF w p v:=by rfl
def ndF (st ps rd sn qu tk fc:V):List (Str×V):=[("state",st),("passed",ps),("reading",rd),("sending",sn),("queue",qu),("taken",tk),("fault_count",fc)]
section
variable {st ps rd sn qu tk fc v:V}
theorem pU:dI "state" v (ndF st ps rd sn qu tk fc)=ndF v ps rd sn qu tk fc:=by rfl
theorem oq:dI "passed" v (ndF st ps rd sn qu tk fc)=ndF st v rd sn qu tk fc:=by rfl
theorem me:dI "reading" v (ndF st ps rd sn qu tk fc)=ndF st ps v sn qu tk fc:=by rfl
theorem mf:dI "sending" v (ndF st ps rd sn qu tk fc)=ndF st ps rd v qu tk fc:=by rfl
theorem iE:dI "fault_count" v (ndF st ps rd sn qu tk fc)=ndF st ps rd sn qu tk v:=by rfl
end
def buF (ns bp:V):List (Str×V):=[("nodes",ns),("bits_past",bp)]
theorem jW {a b v:V}:dI "bits_past" v (buF a b)=buF a v:=by rfl
theorem kT {l:Addr} {k:Int} {xs:List V} {H:Hp} {Q:VK} (e:At H l (.lst xs)) (h1 : -(2 ^ 63)≤k) (h2:k < 2 ^ 63) (h3:xs.length * k.toNat≤sizeLine) (h:∀ p,aK H p→Q (.ref p) (upd H p (.lst (List.replicate k.toNat xs).flatten))):AH (.ref l) (.int k) H Q:=
 ⟨l,k,xs,rfl,rfl,e,h1,h2,h3,h⟩
theorem cO {K:PySem.W.Frag} {tl:TE} {g:TG} {tb:TS} {D:Ends} {s:St} {H:Hp} (h:tl s H fun x H1=>∃ a,x = .ref a∧(∃ xs,SqL K H1 a xs)∧∃ W:Nat→Nat→St→Hp→Prop,(∃ m,W 0 m s H1)∧∀ i m σ H,W i m σ H →
 ((Itl K a).stop i H∧D.nx σ H)∨((Itl K a).go i H∧∃ N:St→Hp→Prop,(∀ σ' H',N σ' H'→∃ m',m' < m∧W (i+1) m' σ' H')∧∀ x H',(Itl K a).yld i H x H'→g x σ H' fun σ2 H2=>tb {D with nx:=N,ct:=N,bk:=D.nx} σ2 H2)):yT (rR K tl) g tb D s H:=h
theorem bZ {K:PySem.W.Frag} {g:TG} {tb:TS} {D:Ends} {s:St} {H:Hp} {a:Addr} {xs:List V} (Pv:Nat→St→Hp→Prop) (e:SqL K H a xs) (h0:Pv 0 s H) (hl:∀ i σ H,i≤xs.length→Pv i σ H→SqL K H a xs)
  (hs:∀ i x σ H,xs[i]? = some x→Pv i σ H→g x σ H fun σ2 H2=>tb {D with nx:=Pv (i+1),ct:=Pv (i+1),bk:=D.nx} σ2 H2) (hd:∀ σ H,Pv xs.length σ H→D.nx σ H) :
  ∃ a',V.ref a = .ref a'∧(∃ xs,SqL K H a' xs)∧∃ W:Nat→Nat→St→Hp→Prop,(∃ m,W 0 m s H)∧∀ i m σ H,W i m σ H →
 ((Itl K a').stop i H∧D.nx σ H)∨((Itl K a').go i H∧∃ N:St→Hp→Prop,(∀ σ' H',N σ' H'→∃ m',m' < m∧W (i+1) m' σ' H')∧∀ x H',(Itl K a').yld i H x H'→g x σ H' fun σ2 H2=>tb {D with nx:=N,ct:=N,bk:=D.nx} σ2 H2):=
 ⟨a,rfl,⟨xs,e⟩,rT Pv h0 hl hs hd⟩
theorem iF {ta:TA} {g:TG} {tb:TS} {D:Ends} {s:St} {H:Hp} (h:ta s H fun vs H1=>∃ j:Int,vs=[.int j] ∧ -(2 ^ 62)≤j∧j < 2 ^ 62∧∃ W:Nat→Nat→St→Hp→Prop,(∃ m,W 0 m s H1)∧∀ i m σ H,W i m σ H →
 ((Itr 0 j.toNat).stop i H∧D.nx σ H)∨((Itr 0 j.toNat).go i H∧∃ N:St→Hp→Prop,(∀ σ' H',N σ' H'→∃ m',m' < m∧W (i+1) m' σ' H')∧∀ x H',(Itr 0 j.toNat).yld i H x H'→g x σ H' fun σ2 H2=>tb {D with nx:=N,ct:=N,bk:=D.nx} σ2 H2)):yT (uD ta) g tb D s H:=h
theorem fL {g:TG} {tb:TS} {D:Ends} {s:St} {H:Hp} {j:Int} (n:Nat) (Pv:Nat→St→Hp→Prop) (e:j.toNat=n) (hn:j < 2 ^ 62 ∧ -(2 ^ 62)≤j) (h0:Pv 0 s H)
  (hs:∀ i σ H,i < n→Pv i σ H→g (.int (i:Int)) σ H fun σ2 H2=>tb {D with nx:=Pv (i+1),ct:=Pv (i+1),bk:=D.nx} σ2 H2) (hd:∀ σ H,Pv n σ H→D.nx σ H) :
  ∃ j':Int,[V.int j]=[.int j'] ∧ -(2 ^ 62)≤j'∧j' < 2 ^ 62∧∃ W:Nat→Nat→St→Hp→Prop,(∃ m,W 0 m s H)∧∀ i m σ H,W i m σ H →
 ((Itr 0 j'.toNat).stop i H∧D.nx σ H)∨((Itr 0 j'.toNat).go i H∧∃ N:St→Hp→Prop,(∀ σ' H',N σ' H'→∃ m',m' < m∧W (i+1) m' σ' H')∧∀ x H',(Itr 0 j'.toNat).yld i H x H'→g x σ H' fun σ2 H2=>tb {D with nx:=N,ct:=N,bk:=D.nx} σ2 H2):=by
 refine ⟨j,rfl,hn.2,hn.1,?_⟩
 rw [e]
 exact o0 Pv h0 (fun i σ H hi hp=>by rw [Int.zero_add];exact hs i σ H hi hp) hd
theorem bF {K:PySem.W.Frag} {tl:TE} {tt:TT} {te:TE} {js:List Nat} {s:St} {H:Hp} {Q:VK} (h:tl s H fun x H1=>∃ a,x = .ref a∧(∃ xs,SqL K H1 a xs)∧∀ D,aK H1 D→∃ W:Nat→Nat→List V→Hp→Prop,(∃ n,W 0 n [] (upd H1 D (.lst [])))∧de (Itl K a) tt te (lT s js) D W Q):jP (rR K tl) tt te js s H Q:=h
theorem jX {ta:TA} {tt:TT} {te:TE} {js:List Nat} {s:St} {H:Hp} {Q:VK} (h:ta s H fun vs H1=>∃ j:Int,vs=[.int j] ∧ -(2 ^ 62)≤j∧j < 2 ^ 62∧∀ D,aK H1 D→∃ W:Nat→Nat→List V→Hp→Prop,(∃ n,W 0 n [] (upd H1 D (.lst [])))∧de (Itr 0 j.toNat) tt te (lT s js) D W Q):jP (uD ta) tt te js s H Q:=h
theorem fM {K:PySem.W.Frag} {te:TE} {caps:St} {H:Hp} {Q:VK} {a:Addr} {xs:List V} (f:V→V) (e:SqL K H a xs) (hn:xs.length≤sizeLine)
  (he:∀ (i:Nat) (x:V) (H':Hp) (R:VK),xs[i]? = some x→Same H H'→(∀ H2,Same H' H2→R (f x) H2)→te (caps++[some x]) H' R)
  (hQ:∀ D Hf,Same H Hf→aK H D→Hf D=some (.lst (xs.map f))→Q (.ref D) Hf) :
  ∃ a',V.ref a = .ref a'∧(∃ xs,SqL K H a' xs)∧∀ D,aK H D→∃ W:Nat→Nat→List V→Hp→Prop,(∃ n,W 0 n [] (upd H D (.lst [])))∧de (Itl K a') bc te caps D W Q:=
 ⟨a,rfl,⟨xs,e⟩,fun D hD=>so f hD hn e he fun Hf s1 e1=>hQ D Hf s1 hD e1⟩
theorem pV {te:TE} {caps:St} {H:Hp} {Q:VK} {j:Int} (n:Nat) (f:Nat→V) (e:j.toNat=n) (hj:j < 2 ^ 62 ∧ -(2 ^ 62)≤j) (hn:n≤sizeLine)
  (he:∀ (i:Nat) (H':Hp) (R:VK),i < n→Same H H'→(∀ H2,Same H' H2→R (f i) H2)→te (caps++[some (.int (i:Int))]) H' R)
  (hQ:∀ D Hf,Same H Hf→aK H D→Hf D=some (.lst ((List.range n).map f))→Q (.ref D) Hf) :
  ∃ j':Int,[V.int j]=[.int j'] ∧ -(2 ^ 62)≤j'∧j' < 2 ^ 62∧∀ D,aK H D→∃ W:Nat→Nat→List V→Hp→Prop,(∃ n,W 0 n [] (upd H D (.lst [])))∧de (Itr 0 j'.toNat) bc te caps D W Q:=by
 refine ⟨j,rfl,hj.2,hj.1,fun D hD => ?_⟩
 rw [e]
 exact sm f hD hn (fun i H' R hi s1 hR=>by rw [Int.zero_add];exact he i H' R hi s1 hR) fun Hf s1 e1=>hQ D Hf s1 hD e1
theorem iG {l:List Int} {j:Nat} (h:j < l.length):atI (l.map V.int) (j:Int)=some (.int (l.getD j 0)):=by
 refine jM ?_
 rw [List.getElem?_map,List.getElem?_eq_getElem h]
 simp [List.getD_eq_getElem?_getD,h]
theorem vt {n j:Nat} (h:j < n):ixN n (j:Int)=some j:=by
 unfold ixN
 rw [if_pos (by omega),if_pos (by omega)]
 simp
theorem map_set (l:List Int) (j:Nat) (x:Int):(l.map V.int).set j (.int x)=(l.set j x).map V.int:=by
 rw [List.map_set]
theorem cA {bs:List Int} {i:Nat} {y:V} (h:(bs.map V.int)[i]? = some y):∃ b,bs[i]? = some b∧y = .int b:=by
 rw [List.getElem?_map] at h
 cases e:bs[i]? with
 | none=>rw [e] at h;cases h
 | some b=>rw [e] at h;exact ⟨b,rfl,(Option.some.inj h).symm⟩
theorem iH {α β:Type} {f:α→β→α} {a:α} {l:List β} {i:Nat} {b:β} (h:l[i]? = some b):(l.take (i+1)).foldl f a=f ((l.take i).foldl f a) b:=by
 have hi:=(List.getElem?_eq_some_iff.mp h)
 obtain ⟨hi,e⟩:=hi
 rw [List.take_succ_eq_append_getElem hi,List.foldl_append,e]
 rfl
theorem jY (i:Int) (l:List Int):inV (.int i) (l.map V.int)=l.contains i:=by
 unfold inV
 rw [List.any_map]
 induction l with
 | nil=>rfl
 | cons a l ih=>
  rw [List.any_cons,ih,List.contains_cons]
  congr 1
  show (a == i)=(i == a)
  exact Bool.eq_iff_iff.mpr ⟨fun h=>by simpa using (beq_iff_eq.mp h).symm,fun h=>by simpa using (beq_iff_eq.mp h).symm⟩
theorem dh (l:List Int):(l.map V.int).all gv=true:=by
 rw [List.all_eq_true]
 intro x hx
 obtain ⟨_,_,rfl⟩:=List.mem_map.mp hx
 rfl
theorem vv (xs:List V) (a b:Nat):jw xs (some (a:Int)) (some (b:Int))=(xs.take b).drop a:=by
 unfold jw
 rw [HT.sIx_nat,HT.sIx_nat]
 rcases Nat.le_total a xs.length with h | h
 ·rw [Nat.min_eq_left h,List.drop_take]
  rcases Nat.le_total b xs.length with h2 | h2
  ·rw [Nat.min_eq_left h2]
  ·rw [Nat.min_eq_right h2,List.take_of_length_le (by rw [List.length_drop];omega),List.take_of_length_le (by rw [List.length_drop];omega)]
 ·rw [Nat.min_eq_right h,List.drop_eq_nil_of_le (Nat.le_refl _),List.drop_eq_nil_of_le (by rw [List.length_take];omega)]
  simp
theorem nr (xs:List V) (a:Nat):jw xs (some (a:Int)) none=xs.drop a:=by
 unfold jw
 rw [HT.sIx_nat,HT.sIx_none]
 rcases Nat.le_total a xs.length with h | h
 ·rw [Nat.min_eq_left h,List.take_of_length_le (by rw [List.length_drop];omega)]
 ·rw [Nat.min_eq_right h,List.drop_eq_nil_of_le (Nat.le_refl _),List.drop_eq_nil_of_le h]
  simp
theorem pW (xs:List V) (b:Nat):jw xs none (some (b:Int))=xs.take b:=by
 unfold jw
 rw [HT.sIx_nat,HT.sIx_none,Nat.sub_zero,List.drop_zero]
 rcases Nat.le_total b xs.length with h | h
 ·rw [Nat.min_eq_left h]
 ·rw [Nat.min_eq_right h,List.take_of_length_le (Nat.le_refl _),List.take_of_length_le h]
def RcK (K:PySem.W.Frag) (H:Hp) (n:Nat) (x y:V) (b:Bool):Prop:=∀ X:Cx,X.K=K→RcW X H n x y b
def EqK (K:PySem.W.Frag) (H:Hp) (n:Nat) (x y:V) (b:Bool):Prop:=∀ X:Cx,X.K=K→EqW X H n x y b
def AQ (K:PySem.W.Frag):R2:=fun x y H Q=>∃ b,RcK K H 8 x y b∧Q (.bl b) H
def wx (K:PySem.W.Frag):R2:=fun x y H Q=>∃ b,RcK K H 8 x y b∧Q (.bl (!b)) H
def xS (K:PySem.W.Frag):R2:=fun x y H Q=>∃ t p1 p2 b1 b2,y = .ref t∧SqT K H t [.ref p1,.ref p2]∧p1≠p2∧EqK K H 8 (.ref p1) x b1∧EqK K H 8 (.ref p2) x b2∧Q (.bl (b1 || b2)) H
section
variable {X:Cx} {K:PySem.W.Frag}
theorem xT {k:Nat} (hr:Room k X.A):OpR X (compareOp .Eq) (AQ X.K):=fun pins s σ H x y v u Q I rx ry ⟨b,h,q⟩=>xc hr pins s σ H x y v u Q I rx ry ⟨b,h X rfl,q⟩
theorem xU {k:Nat} (hr:Room k X.A):OpR X (compareOp .NotEq) (wx X.K):=fun pins s σ H x y v u Q I rx ry ⟨b,h,q⟩=>xf hr pins s σ H x y v u Q I rx ry ⟨b,h X rfl,q⟩
theorem vw {k:Nat} (hr:Room k X.A):OpR X (compareOp .In) (xS X.K):=fun pins s σ H x y v u Q I rx ry ⟨t,p1,p2,b1,b2,e,hs,hn,h1,h2,q⟩=>xk hr pins s σ H x y v u Q I rx ry ⟨t,p1,p2,b1,b2,e,hs,hn,h1 X rfl,h2 X rfl,q⟩
theorem sV {H:Hp} {a b:Addr} {xs ys:List Int} (ha:SqL K H a (xs.map V.int)) (hb:SqL K H b (ys.map V.int)):RcK K H 8 (.ref a) (.ref b) (decide (xs=ys)):=fun X e=>by subst e;exact nj ha hb
theorem nv {H:Hp} {a b:Addr} {xs ys:List Int} (ha:At H a (.lst (xs.map V.int))) (hb:At H b (.lst (ys.map V.int))):EqK K H 8 (.ref a) (.ref b) (decide (xs=ys)):=fun X e=>by subst e;exact sJ ha hb
theorem pX {H:Hp} {a b:Addr} {xs ys:List Int} {Q:VK} (ha:SqL K H a (xs.map V.int)) (hb:SqL K H b (ys.map V.int)) (h:Q (.bl (!decide (xs=ys))) H):wx K (.ref a) (.ref b) H Q:=⟨_,sV ha hb,h⟩
end
theorem SqL.new {K:PySem.W.Frag} {H:Hp} {a p:Addr} {xs:List V} {o:HO} (hp:aK H p) (h:SqL K H a xs):SqL K (upd H p o) a xs:=(aq hp o).seq h
theorem zS {H:Hp} {a:Addr} {o:HO} (h:At H a o):At H a o:=h
theorem xV {K:PySem.W.Frag} {H:Hp} {a:Addr} {xs:List V} (h:SqL K H a xs):SqL K H a xs:=h
theorem xW {K:PySem.W.Frag} {H:Hp} {a:Addr} {xs:List V} (h:SqT K H a xs):SqT K H a xs:=h
theorem pY {H:Hp} {a b:Addr} (h':aK H b) (h:∃ o,At H a o):a≠b:=let ⟨_,e⟩:=h;aE e h'
section
variable {K:PySem.W.Frag} {f m:Str} {a C:Addr} {H:Hp} {Q:VK} {N:Hp→Prop} {y:V} {i j:Int} {A:Prop}
theorem BE {R:Int→Int→Prop} {g:Int→Int→V} (h:rI R g (.int i) (.int j) H Q):rI R g (.int i) (.int j) H Q:=h
theorem xX (h:yM K f (.ref a) H Q):yM K f (.ref a) H Q:=h
theorem vx (h:sM K f y (.ref a) H N):sM K f y (.ref a) H N:=h
theorem vy {N:Addr→Addr→V→Hp→Prop} (h:sO K f N (.ref a) H):sO K f N (.ref a) H:=h
theorem vz (h:sP f a C y H N):sP f a C y H N:=h
theorem vA {N:V→Hp→Prop} (h:sQ C m N (.ref a) H):sQ C m N (.ref a) H:=h
theorem ua (h:om K [.ref a] H Q):om K [.ref a] H Q:=h
theorem vB (h:kQ K [.ref a] H Q):kQ K [.ref a] H Q:=h
theorem xY (h:uO K (.ref a) (.int i) H Q):uO K (.ref a) (.int i) H Q:=h
theorem xZ (h:tyV K "list" (.ref a) H∧A):tyV K "list" (.ref a) H∧A:=h
theorem x3 {Q:Bool→Hp→Prop} (h:pQ K (.ref a) H Q):pQ K (.ref a) H Q:=h
end
end L2
set_option maxHeartbeats 4000000
namespace L2
open PySem PySem.Spec PyProof.Rows
def Its (lo c:Int) (n:Nat):It:=⟨fun i _=>i < n,fun i H x H'=>H'=H∧x = .int (lo+(i:Nat) * c),fun i _=>n≤i⟩
theorem mh {P:Program} {w:World} {K:PySem.W.Frag} {tg:Expr} (it:Addr) (lo c:Int) (n:Nat):Turn P w K tg (Its lo c n) [it] it (fun i h=>IsRangeIter h it (lo+(i:Nat) * c) ((n:Int) - (i:Nat)) c) where
 mem:=by simp
 obj:=fun i h st b hb=>by
  have e:b=it:=by simpa using hb
  subst e
  exact ⟨_,st,fun v z=>by
   have z':Data.fields _=Data.cell v:=z
   cases z'⟩
 keep:=fun i h h' st k=>k it (by simp) _ st
 item:=by
  intro X hP hw hK hc i pins s σ H E I hf st hg
  subst hP hw hK
  obtain ⟨f0,f1,f2,f3,f4,f5⟩:=hf it (by simp)
  have W:=Walks.range (prog:=X.prog) (w:=X.w) (I.ok.hd hc) it lo c n
  refine W.item i s _ _ hg st fun v h' tk hv st' kk => ?_
  obtain ⟨t,rfl⟩:=hv
  have I1:Inv X pins σ H {s with heap:=h',toks:=tk}:=I.turned (fun b o hb e=>kk b o (by simpa using hb) e) f0 f1 f3 f4 f5
  exact ⟨_,rfl,uB (s:={s with heap:=h',toks:=tk}) (n := "range_iterator") st' rfl rfl (by decide) ⟨.int (lo+(i:Nat) * c),H,I1,⟨t,rfl⟩,⟨rfl,rfl⟩,st',fun b hb=>(hf b hb).1⟩⟩
 done:=by
  intro X hP hw hK hc i pins s σ H E I hf st hg
  subst hP hw hK
  obtain ⟨f0,f1,f2,f3,f4,f5⟩:=hf it (by simp)
  exact wpAny_pyNext_range_end (I.ok.hd hc) st (by have:n≤i:=hg;omega) fun h' eb=>⟨rfl,I.turned (t':=s.toks) (fun b o hb e=>eb b o hb e) f0 f1 f3 f4 f5⟩
 self:=fun _ _ _ _ _ st h=>wpAny_pyIter_rangeiter st h
section
variable {X:Cx} {tg:Expr}
theorem iI {i j:Int} {n:Nat} (e:j=i+8 * n):Builtin.Range.rangeSize i j 8=n:=by
 unfold Builtin.Range.rangeSize
 rw [if_pos (by decide)]
 split <;> omega
theorem vC {i j:Int} {n:Nat} (h0:0≤i) (e:j=i+8 * n) (h1:j≤100000):Builtin.Range.small i j 8=true:=by
 unfold Builtin.Range.small
 rw [iI e]
 simp only [Builtin.Range.rangeFitsLong,Bool.and_eq_true,Bool.or_eq_true,decide_eq_true_eq,beq_iff_eq,show (8:Int) > 0 by decide,if_true]
 omega
def x5 (ta:TA):TI:=fun σ H R=>ta σ H fun vs H1=>∃ (i j:Int) (n:Nat),vs=[.int i,.int j,.int 8]∧0≤i∧j=i+8 * n∧j≤100000∧R (Its i 8 n) H1
theorem pZ {a b c:Expr} {ta:TA} {p pos:Pos} (hg:Gl X "range") (hm:X.mg "range" = none) (ha:PA X [a,b,c] ta) (hs:starEach [a,b,c] X.env=[(false,eval a X.env),(false,eval b X.env),(false,eval c X.env)]:=by rfl)
  (hs2:starEach [b,c] X.env=[(false,eval b X.env),(false,eval c X.env)]:=by rfl):PI X tg (.Call (.Name "range" p) [a,b,c] [] pos) (x5 ta):=by
 intro pins s σ H R I h
 refine Call_ (kl I hg hm boot_range (PyProof.Rows.callWith_type1 (thn (ha pos pins s σ H _ I h) fun us s1 ⟨vs,H1,I1,r1,q1⟩ => ?_) (by rw [hs,hs2]) (by rw [hs2];rfl)))
 obtain ⟨i,j,n,e,q1,q2,q3,q⟩:=q1
 subst e
 cases r1 with
 | cons r rr=>
  cases rr with
  | cons r' rr=>
   cases rr with
   | cons r3 rr=>
    cases rr
    obtain ⟨t,rfl⟩:=r
    obtain ⟨t',rfl⟩:=r'
    obtain ⟨t3,rfl⟩:=r3
    refine call_range_3 (by decide) ?_ (Or.inl (PyProof.noPylong_small (by omega)))
    refine wpAny_pyIter_range (IsRange.new ..) (vC q1 q2 q3) ?_
    have I2:Inv X pins σ H1 {s1 with heap:=s1.heap.push {cls := .type "range",data := .fields #[.int i t,.int j t',.int 8 t3]},toks:=s1.toks}:=I1.kept fun b o e=>Heap.get?_push_of_some _ e
    refine ⟨(s1.heap.push {cls := .type "range",data := .fields #[.int i t,.int j t',.int 8 t3]}).objs.size,[(s1.heap.push {cls := .type "range",data := .fields #[.int i t,.int j t',.int 8 t3]}).objs.size],_,_,H1,rfl,
     I2.kept (t':=s1.toks) fun b o e=>Heap.get?_push_of_some _ e,mh _ i 8 n,?_,fun b hb => ?_,q⟩
    ·show IsRangeIter _ _ (i+((0:Nat):Int) * 8) ((n:Int) - ((0:Nat):Int)) 8
     rw [show i+((0:Nat):Int) * 8=i by simp,show (n:Int) - ((0:Nat):Int)=Builtin.Range.rangeSize i j 8 by rw [iI q2];simp]
     exact Heap.get?_push_size _ rfl
    ·have e:b=(s1.heap.push {cls := .type "range",data := .fields #[.int i t,.int j t',.int 8 t3]}).objs.size:=by simpa using hb
     subst e
     exact I2.fpOk (Nat.le_refl _) (I2.hok.fresh (Nat.le_refl _))
end
theorem p6 {te:TE} {caps:St} {D:Addr} {H1:Hp} {lo c:Int} {n:Nat} {Q:VK} (f:Nat→V) (hD:H1 D=none) (hn:n≤sizeLine)
  (he:∀ (i:Nat) (H':Hp) (R:VK),i < n→Same H1 H'→(∀ H2,Same H' H2→R (f i) H2)→te (caps++[some (.int (lo+(i:Nat) * c))]) H' R)
  (hQ:∀ Hf,Same H1 Hf→Hf D=some (.lst ((List.range n).map f))→Q (.ref D) Hf) :
  ∃ W:Nat→Nat→List V→Hp→Prop,(∃ m,W 0 m [] (upd H1 D (.lst [])))∧de (Its lo c n) bc te caps D W Q:=by
 refine ⟨fun i m ys Hc=>i≤n∧m=n - i∧ys=(List.range i).map f∧Same H1 Hc∧Hc D=some (.lst ys),⟨n,Nat.zero_le _,rfl,rfl,aq hD _,bq⟩,?_⟩
 rintro i m ys Hc ⟨hi,rfl,rfl,s1,e⟩
 refine ⟨e,?_⟩
 by_cases h:i < n
 ·refine .inr ⟨h,by rw [List.length_map,List.length_range];exact Nat.lt_of_lt_of_le h hn,?_⟩
  rintro v H' ⟨rfl,rfl⟩
  show te _ _ _
  refine he i _ _ h s1 fun H2 s2=>⟨s2 _ _ e,n - (i+1),by omega,by omega,rfl,jy f i,?_,bq⟩
  exact bN (s1.trans s2) hD
 ·have hin:i=n:=by omega
  subst hin
  exact .inl ⟨Nat.le_refl _,hQ Hc s1 e⟩
theorem sW {ta:TA} {tt:TT} {te:TE} {js:List Nat} {s:St} {H:Hp} {Q:VK} (h:ta s H fun vs H1=>∃ (i j:Int) (n:Nat),vs=[.int i,.int j,.int 8]∧0≤i∧j=i+8 * n∧j≤100000∧∀ D,H1 D=none→∃ W:Nat→Nat→List V→Hp→Prop,(∃ n,W 0 n [] (upd H1 D (.lst [])))∧de (Its i 8 n) tt te (lT s js) D W Q):jP (x5 ta) tt te js s H Q:=h
theorem p9 {te:TE} {caps:St} {H:Hp} {Q:VK} {i j:Int} (n:Nat) (f:Nat→V) (hi:0≤i) (e:j=i+8 * n) (hj:j≤1000)
  (he:∀ (k:Nat) (H':Hp) (R:VK),k < n→Same H H'→(∀ H2,Same H' H2→R (f k) H2)→te (caps++[some (.int (i+(k:Nat) * 8))]) H' R)
  (hQ:∀ D Hf,Same H Hf→aK H D→At Hf D (.lst ((List.range n).map f))→Q (.ref D) Hf) :
  ∃ (i' j':Int) (n:Nat),[V.int i,V.int j,V.int 8]=[.int i',.int j',.int 8]∧0≤i'∧j'=i'+8 * n∧j'≤100000∧∀ D,H D=none→∃ W:Nat→Nat→List V→Hp→Prop,(∃ n,W 0 n [] (upd H D (.lst [])))∧de (Its i' 8 n) bc te caps D W Q:=
 ⟨i,j,n,rfl,hi,e,by omega,fun D hD=>p6 f hD (small (by omega)) he fun Hf s1 e1=>hQ D Hf s1 hD e1⟩
section
variable {X:Cx} {scope:Scope} {x:Str} {fv:List Str} {js:List Nat}
theorem qd {i:Nat} {y:Str} {elt iter:Expr} {wi:TI} {te:TE} {px py pos spos:Pos} (hN:X.N.Nodup) (hy:X.N[i]? = some y) (hl:Loc X.env.scope y) (hi:PI X (.Name x px) iter wi) (he:∀ fp s H,PE (cxC X (fv++[x]) scope fp s H) elt te)
  (hC:gS X.env.scope scope X.N x fv js=true:=by rfl) (hcalm:X.calm=true:=by rfl) (hs:∀ v,foldedSetIterable iter X.env v=pure v:=by intro _;rfl)
  (hsw:swapsWith (.ListComp elt [⟨.Name x px,iter,[],0⟩] scope pos) (some (.Name y py)) spos.line X.env=pure true:=by rfl) (hf:X.fn y=true∨X.env.scope.names.lookup y=some .local:=by first | exact .inl rfl | exact .inr rfl) :
  PS X (.Assign [.Name y py] (.ListComp elt [⟨.Name x px,iter,[],0⟩] scope pos) spos) (wu (jP wi bc te js) (cy i)):=ni hN hy hl hC hcalm hi he (.inl ⟨rfl,rfl⟩) hs hsw hf
theorem sX {i:Nat} {y:Str} {elt iter c:Expr} {wi:TI} {tt:TT} {te:TE} {px py pos spos:Pos} (hN:X.N.Nodup) (hy:X.N[i]? = some y) (hl:Loc X.env.scope y) (hi:PI X (.Name x px) iter wi) (ht:∀ fp s H,PT (cxC X (fv++[x]) scope fp s H) c tt) (he:∀ fp s H,PE (cxC X (fv++[x]) scope fp s H) elt te)
  (hC:gS X.env.scope scope X.N x fv js=true:=by rfl) (hcalm:X.calm=true:=by rfl) (hs:∀ v,foldedSetIterable iter X.env v=pure v:=by intro _;rfl)
  (hsw:swapsWith (.ListComp elt [⟨.Name x px,iter,[c],0⟩] scope pos) (some (.Name y py)) spos.line X.env=pure true:=by rfl) (hf:X.fn y=true∨X.env.scope.names.lookup y=some .local:=by first | exact .inl rfl | exact .inr rfl) :
  PS X (.Assign [.Name y py] (.ListComp elt [⟨.Name x px,iter,[c],0⟩] scope pos) spos) (wu (jP wi tt te js) (cy i)):=ni hN hy hl hC hcalm hi he (.inr ⟨c,rfl,ht⟩) hs hsw hf
end
theorem Inv.freeze {X:Cx} {pins:List (Addr×Obj)} {σ:St} {H:Hp} {s:Shared} {a:Addr} {xs:List V} (I:Inv X pins σ H s) (e:H a=some (.lst xs)):∃ o,Inv X pins σ (upd H a (.frz o (.lst xs))) s:=by
 obtain ⟨hz,its,n,rv,eo⟩:=I.hok a _ e
 refine ⟨{cls := .type "list",data := .seq its.toArray n},?_⟩
 have ne:∀ {b:Addr} {o:HO},H b=some o→(∀ ys,o ≠ .lst ys)→b≠a:=fun {b o} q d z=>by
  subst z
  rw [e] at q
  exact d xs (Option.some.inj q).symm
 have u:Un X.fs [] H (upd H a (.frz {cls := .type "list",data := .seq its.toArray n} (.lst xs))) s.heap s.heap:=by
  refine ⟨fun b o q _ _ _=>q,fun b o q _ _ _=>⟨o.slots,q⟩,fun b o q n _ => ?_,fun b o q _=>⟨o,q⟩,fun b ys q => ?_,fun b o w q => ?_,fun b ps q=>⟨#[],?_⟩⟩
  ·rw [aP (fun z=>by subst z;rw [e] at n;cases n)];exact n
  ·rw [aP (ne q (fun _ z=>by cases z))];exact q
  ·rw [aP (ne q (fun _ z=>by cases z))];exact q
  ·rw [aP (ne q (fun _ z=>by cases z)),Array.append_empty];exact q
 refine I.un (t':=s.toks) u fun b v q => ?_
 by_cases hb:b=a
 ·subst hb
  rw [bq] at q
  cases q
  exact ⟨eo,hz,its,n,rv,eo⟩
 ·rw [aP hb] at q
  refine (I.hok b v q).stay (fun _ _ _ z=>z) (fun c z => ?_) fun c ys z => ?_
  ·rw [aP (ne z (fun _ y=>by cases y))];exact z
  ·rw [aP (ne z (fun _ y=>by cases y))];exact z
def zT (v:V) (H:Hp) (Q:VK):Prop:=∃ a xs,v = .ref a∧H a=some (.lst xs)∧∀ o,Q v (upd H a (.frz o (.lst xs)))
def AR (t:TE):TE:=fun s H Q=>t s H fun v H'=>zT v H' Q
theorem nw {X:Cx} {e:Expr} {t:TE} (h:PE X e t):PE X e (AR t):=fun pins s σ H Q I q=>by
 refine thn (h pins s σ H _ I q) ?_
 rintro u s1 ⟨v,H1,I1,r1,a,xs,rfl,e1,q1⟩
 obtain ⟨o,I2⟩:=I1.freeze e1
 exact ⟨_,_,I2,r1,q1 o⟩
theorem x6 {t:TE} {s:St} {H:Hp} {Q:VK} (h:t s H fun v H'=>zT v H' Q):AR t s H Q:=h
theorem jZ {a:Addr} {xs:List V} {H:Hp} {Q:VK} (e:At H a (.lst xs)) (h:∀ o,Q (.ref a) (upd H a (.frz o (.lst xs)))):zT (.ref a) H Q:=⟨a,xs,rfl,e,h⟩
theorem At.sqF {K:PySem.W.Frag} {H:Hp} {a:Addr} {o:Obj} {xs:List V} (h:At H a (.frz o (.lst xs))):SqL K H a xs := .inl (.inr ⟨o,h⟩)
section
variable {X:Cx} {K:PySem.W.Frag} {tg:Expr}
theorem aR {l:Expr} {tl:TE} (hl:PE X l tl) (hK:X.K=K:=by rfl):PI X tg l (rR K tl):=hK ▸ uC hl
theorem am {e:Expr} {f:Str} {pos:Pos} {ta:TE} (he:PE X e ta) (hb:attributeBase e f X.env (eval e X.env)=eval e X.env:=by rfl) (hK:X.K=K:=by rfl):PE X (.Attribute e f pos) (yK K ta f):=hK ▸ wU he hb
theorem bd {o value:Expr} {f:Str} {pos pos':Pos} {ta tv:TE} (ha:PE X o ta) (hv:PE X value tv) (hs:swapsWith value (some (.Attribute o f pos')) pos.line X.env=pure false:=by rfl) (hK:X.K=K:=by rfl):PS X (.Assign [.Attribute o f pos'] value pos) (yX K ta tv f):=hK ▸ wV ha hv hs
theorem dJ {o value:Expr} {f:Str} {pos tpos:Pos} {ta tv:TE} {op:Operator} {rd:V→V→Hp→VK→Prop} (ha:PE X o ta) (hv:PE X value tv) (hop:yY X op rd) (hK:X.K=K:=by rfl):PS X (.AugAssign (.Attribute o f tpos) op value pos) (lY K ta tv rd f):=hK ▸ pf ha hv hop
theorem br (hK:X.K=K:=by rfl):IxR X (wY K):=hK ▸ uP
theorem bK (hK:X.K=K:=by rfl):IxR X (uO K):=hK ▸ wZ
theorem b4 (hK:X.K=K:=by rfl):SlR X (y3 K):=hK ▸ uQ
theorem gz (hK:X.K=K:=by rfl):OpR X (compareOp .In) (rIn K false):=hK ▸ pA
theorem fN (hK:X.K=K:=by rfl):OpR X (compareOp .NotIn) (rIn K true):=hK ▸ kB
theorem aJ (hK:X.K=K:=by rfl):fu X (.builtin "len") (om K):=hK ▸ pP
theorem eK (hK:X.K=K:=by rfl):fu X (.type "list") (kQ K):=hK ▸ oo
theorem vD {a:Expr} {ta:TE} (ha:PE X a ta) (he:∀ whole,isTrue a X.env whole=(do let v ← whole;standAt a.pos;holding [v] (truthy v))) (hK:X.K=K:=by rfl):PT X a (zl K ta):=hK ▸ xC ha he
theorem fO (hK:X.K=K:=by rfl):fu X (.builtin "isinstance") (AM K):=hK ▸ sI
theorem vE {k:Nat} (hr:Room k X.A) (hK:X.K=K:=by rfl):OpR X (compareOp .Eq) (AQ K):=hK ▸ xT hr
theorem j0 {k:Nat} (hr:Room k X.A) (hK:X.K=K:=by rfl):OpR X (compareOp .NotEq) (wx K):=hK ▸ xU hr
theorem sY {k:Nat} (hr:Room k X.A) (hK:X.K=K:=by rfl):OpR X (compareOp .In) (xS K):=hK ▸ vw hr
variable {o e:Expr} {es:List Expr} {to:TE} {t:TA} {name:Str} {apos cpos:Pos} {T id:String} {r:V→List V→Hp→VK→Prop}
theorem cw (pa:PlainAttrs T) (slot:Slot T name id) (hty:typeOf (.builtin id)=pure (.type "method_descriptor")) (hm:MtR X id r) (ho:PE X o to) (ha:PA X (e :: es) t) (hK:X.K=K:=by rfl)
  (hbase:attributeBase o name X.env (eval o X.env)=eval o X.env:=by rfl)
  (hfew:((backTo cpos (starEach (e :: es) X.env)).all (fun x => !x.1) && (backToKw cpos (keywordEach [] X.env)).all (fun x=>x.1.isSome)
   && decide ((e :: es).length+([]:List Keyword).length+(if ([]:List Keyword).isEmpty then 0 else 1) < 30))=true:=by rfl)
  (hline:(apos.endLine == cpos.line)=true:=by rfl) (hs:starEach (e :: es) X.env=(false,eval e X.env) :: starEach es X.env:=by rfl) (hplain:(backTo cpos (starEach es X.env)).any (·.1)=false:=by rfl) :
  PE X (.Call (.Attribute o name apos) (e :: es) [] cpos) (tBM K T r to t):=hK ▸ y4 pa slot hty hm ho ha hbase hfew hline hs hplain
end
theorem x8 {H:Hp} {p a:Addr} {x:HO} (h:aK (upd H a x) p):aK H p:=(jT h).1
theorem ub {H:Hp} {p a b:Addr} {x y:HO} (h:aK (upd (upd H a x) b y) p):aK H p:=(jT (jT h).1).1
theorem AS {H:Hp} {p a b c:Addr} {x y z:HO} (h:aK (upd (upd (upd H a x) b y) c z) p):aK H p:=ub (x8 h)
theorem BF {H:Hp} {p a b c d:Addr} {x y z w:HO} (h:aK (upd (upd (upd (upd H a x) b y) c z) d w) p):aK H p:=AS (x8 h)
theorem zU {H:Hp} {p a:Addr} {x:HO} (h:aK (upd H a x) p):p≠a:=(jT h).2
theorem AT {H:Hp} {p a b:Addr} {x y:HO} (h:aK (upd (upd H a x) b y) p):p≠a:=zU (x8 h)
theorem zV {A B:Prop} (h:B):if (!true)=true then A else B:=wv h
theorem zW {A B:Prop} (h:A):if (!false)=true then A else B:=sh h
theorem qe {K:PySem.W.Frag} {b:Int} {p:Addr} {l:List Int} {H:Hp} {Q:VK} (e:SqL K H p (l.map V.int)∨SqT K H p (l.map V.int)) (h:Q (.bl (!decide (b∈l))) H):rIn K true (.int b) (.ref p) H Q:=
 ⟨p,_,rfl,e,rfl,dh _,by rw [jY,if_pos rfl];rw [show l.contains b=decide (b∈l) by simp];exact h⟩
theorem ya {K:PySem.W.Frag} {b:Int} {p:Addr} {l:List Int} {H:Hp} {Q:VK} (e:SqL K H p (l.map V.int)∨SqT K H p (l.map V.int)) (h:Q (.bl (decide (b∈l))) H):rIn K false (.int b) (.ref p) H Q:=
 ⟨p,_,rfl,e,rfl,dh _,by rw [jY,if_neg Bool.false_ne_true];rw [show l.contains b=decide (b∈l) by simp];exact h⟩
def ME (t:TE):Prop:=∀ (s:St) (H:Hp) (Q Q':VK),(∀ v H',Q v H'→Q' v H')→t s H Q→t s H Q'
def MA (t:TA):Prop:=∀ (s:St) (H:Hp) (Q Q':List V→Hp→Prop),(∀ v H',Q v H'→Q' v H')→t s H Q→t s H Q'
def MT (t:TT):Prop:=∀ (s:St) (H:Hp) (Q Q':Bool→Hp→Prop),(∀ v H',Q v H'→Q' v H')→t s H Q→t s H Q'
def MR (r:R2):Prop:=∀ (x y:V) (H:Hp) (Q Q':VK),(∀ v H',Q v H'→Q' v H')→r x y H Q→r x y H Q'
def MC (r:List V→Hp→VK→Prop):Prop:=∀ (x:List V) (H:Hp) (Q Q':VK),(∀ v H',Q v H'→Q' v H')→r x H Q→r x H Q'
theorem kU {i:Nat}:ME (jb i):=fun _ _ _ _ k ⟨v,e,q⟩=>⟨v,e,k _ _ q⟩
theorem BG {v:V}:ME (tC v):=fun _ _ _ _ k q=>k _ _ q
theorem sZ {r:R2} {ta tb:TE} (hr:MR r) (ha:ME ta) (hb:ME tb):ME (tOp r ta tb):=fun s H _ _ k q=>ha s H _ _ (fun _ H' q=>hb s H' _ _ (fun _ _ q=>hr _ _ _ _ _ k q) q) q
theorem yb:MA tY:=fun _ _ _ _ k q=>k _ _ q
theorem vF {ta:TE} {tr:TA} (ha:ME ta) (hr:MA tr):MA (uJ ta tr):=fun s H _ _ k q=>ha s H _ _ (fun _ H' q=>hr s H' _ _ (fun _ _ q=>k _ _ q) q) q
theorem zX {r:List V→Hp→VK→Prop} {t:TA} (hr:MC r) (ht:MA t):ME (tCB r t):=fun s H _ _ k q=>ht s H _ _ (fun _ _ q=>hr _ _ _ _ k q) q
theorem uc {K:PySem.W.Frag} {f:Str} {ta:TE} (ha:ME ta):ME (yK K ta f):=fun s H _ _ k q=>ha s H _ _ (fun _ _ ⟨a,C,dx,fs,v,e1,e2,e3,e4,e5,q⟩=>⟨a,C,dx,fs,v,e1,e2,e3,e4,e5,k _ _ q⟩) q
theorem qf {t:TE} (h:ME t):MT (nX t):=fun s H _ _ k q=>h s H _ _ (fun _ _ ⟨c,e,q⟩=>⟨c,e,k _ _ q⟩) q
theorem yc {t u:TT} (h:MT t) (g:MT u):MT (yS t u):=fun s H _ _ k q=>h s H _ _ (fun b H' q=>by
 cases b with
 | true=>exact g s H' _ _ k q
 | false=>exact k _ _ q) q
theorem yd {g:Int→Int→V}:MR (rI0 g):=fun _ _ _ _ _ k ⟨i,j,e1,e2,q⟩=>⟨i,j,e1,e2,k _ _ q⟩
theorem ye {K:PySem.W.Frag}:MR (wY K):=fun _ _ _ _ _ k ⟨p,xs,i,v,e1,e2,e3,e4,q⟩=>⟨p,xs,i,v,e1,e2,e3,e4,k _ _ q⟩
theorem yf {K:PySem.W.Frag}:MR (uO K):=fun _ _ _ _ _ k ⟨p,xs,i,v,e1,e2,e3,e4,q⟩=>⟨p,xs,i,v,e1,e2,e3,e4,k _ _ q⟩
theorem yg {K:PySem.W.Frag}:MC (om K):=fun _ _ _ _ k ⟨p,ys,e1,e2,q⟩=>⟨p,ys,e1,e2,k _ _ q⟩
end L2
set_option maxHeartbeats 4000000
namespace L2
open PySem PySem.Spec PyProof.Rows
def AU (t u:TS):TS:=fun D s H=>∃ Pv:St→Hp→Prop,t {D with nx:=Pv} s H∧∀ s' H',Pv s' H'→u D s' H'
section
variable {X:Cx}
theorem di {st:Stmt} {rest:List Stmt} {t u:TS} (h1:PS X st t) (h2:PSs X rest u):PSs X (st :: rest) (AU t u):=by
 rintro pins s σ H D I ⟨Pv,h,hP⟩
 refine wpAny_execs_cons (thn (h1 pins s σ H {D with nx:=Pv} I h) fun f s1 q => ?_)
 cases f with
 | next=>
  obtain ⟨σ',H',I',q⟩:=q
  exact h2 pins s1 σ' H' D I' (hP _ _ q)
 | ret v=>exact q
 | brk=>exact q
 | cont=>exact q
theorem gU {t u:TS} {D:Ends} {s:St} {H:Hp} (Pv:St→Hp→Prop) (h:t {D with nx:=Pv} s H) (h2:∀ s' H',Pv s' H'→u D s' H'):AU t u D s H:=⟨Pv,h,h2⟩
def AV (sp:Sp) (t:TA) (i:Nat):TB:=fun s H nx ex=>t s H fun vs H1=>sp (vs++[]) H1 (fun v H2=>nx (s.set i (some v)) H2) (exK ex)
def ud (sp:Sp) (t:TA):TB:=fun s H nx ex=>t s H fun vs H1=>sp (vs++[]) H1 (fun _ H2=>nx s H2) (exK ex)
theorem BH {j k:Nat} {ps:List Str} {sp:Sp} {x:Str} {p pos apos:Pos} {e:Expr} {es:List Expr} {t:TA}
  (G:g9 X.prog X.w X.K X.mg X.base (CXe X.prog X.w) j x ps sp) (hr:Room k X.A) (ha:PA X.nox (e :: es) t) (hjk:j≤k:=by decide) (hg:Gl X x:=by rfl) (hs:swapsWith (.Call (.Name x p) (e :: es) [] pos) none apos.line X.env=pure false:=by rfl)
  (hdb:(x == ("__debug__" : Str))=false:=by decide) (he:starEach (e :: es) X.env=(false,eval e X.env) :: starEach es X.env:=by rfl) (hpl:(backTo pos (starEach es X.env)).any (·.1)=false:=by rfl) :
  PB X [.Expr (.Call (.Name x p) (e :: es) [] pos) apos] (ud sp t):=by
 obtain ⟨f,fd,F,b,kp,mm⟩:=G
 exact uX F (hr.mono hjk) hg mm kp b .nil ha hs hdb he hpl
def AW (K:PySem.W.Frag) (Dd:Addr) (ie iz:Nat) (tb:TB):TS:=fun D s H=>tb s H D.nx fun C d H'=>PySem.W.mroIn K C (.ref Dd)=some true∧∀ ea,H' ea=none→D.nx (((s.set ie (some (.ref ea))).set iz (some (.ref ea))).set ie none) (upd H' ea (rL ea C d))
theorem vG {K:PySem.W.Frag} {body:List Stmt} {tb:TB} {bx n z:Str} {D:Addr} {iz ie:Nat} {np pz pn zp hpos pos:Pos} (hB:PB X body tb) (hst:X.stack=X.env :: X.outer) (hfr:X.env.frame=some X.env.locals) (hg:Gl X bx) (hm:X.mg bx=some (.ref D))
  (h1:PySem.W.typeIn X.K (.ref D)=some (.type "type")) (h2:(PySem.W.clsIn X.K D).isSome=true) (h3:PySem.W.mroIn X.K D (.type "BaseException")=some true)
  (hN:X.N.Nodup) (hi:X.N[ie]? = some n) (hl:X.env.scope.names.lookup n=some .local) (hz:X.N[iz]? = some z) (hlz:Loc X.env.scope z) (hf:X.fn z=true∨X.env.scope.names.lookup z=some .local:=by first | exact .inl rfl | exact .inr rfl | assumption)
  (hsw:swapsWith (.Name n pn) (some (.Name z pz)) zp.line X.env=pure false:=by rfl) (hdb:(bx == ("__debug__" : Str))=false:=by decide) (hd1:(n == ("__debug__" : Str))=false:=by decide) (hd2:(n == ("__classdict__" : Str))=false:=by decide) (hK:X.K=K:=by rfl) :
  PS X (.Try body [.ExceptHandler (some (.Name bx np)) (some n) [.Assign [.Name z pz] (.Name n pn) zp] hpos] [] [] pos) (AW K D ie iz tb):=by
 subst hK
 exact xj hB hst hfr hg hm h1 h2 h3 hN hi hl hz hlz hf hsw hdb hd1 hd2
theorem yh {K:PySem.W.Frag} {Dd:Addr} {ie iz:Nat} {tb:TB} {D:Ends} {s:St} {H:Hp} (h:tb s H D.nx fun C d H'=>PySem.W.mroIn K C (.ref Dd)=some true∧∀ ea,aK H' ea→D.nx (((s.set ie (some (.ref ea))).set iz (some (.ref ea))).set ie none) (upd H' ea (rL ea C d))):AW K Dd ie iz tb D s H:=h
theorem yi {sp:Sp} {t:TA} {s:St} {H:Hp} {nx:St→Hp→Prop} {ex:Addr→Option Addr→Hp→Prop} (h:t s H fun vs H1=>sp (vs++[]) H1 (fun _ H2=>nx s H2) (exK ex)):ud sp t s H nx ex:=h
theorem vH {K:PySem.W.Frag} {es:List Expr} {k:Nat} {t:TGs} {n:Nat} {pos:Pos} (hc:X.calm=true) (h:PGs X es t)
  (hn:(assignEach es X.env).length=n:=by rfl) (hst:(assignEach es X.env).findIdx? (·.1)=none:=by rfl) (hK:X.K=K:=by rfl):PG X (.Tuple es k pos) (wJ K n t):=hK ▸ wK hc h hn hst
theorem vI {K:PySem.W.Frag} {a:Addr} {xs:List V} {n:Nat} {t:TGs} {s:St} {H:Hp} {Q:St→Hp→Prop} (e:SqT K H a xs) (l:xs.length=n) (h:t xs s H Q):wJ K n t (.ref a) s H Q:=⟨a,xs,rfl,e,l,h⟩
theorem vJ {K:PySem.W.Frag} {a:Addr} {n:Nat} {t:TGs} {s:St} {H:Hp} {Q:St→Hp→Prop} (h:wJ K n t (.ref a) s H Q):wJ K n t (.ref a) s H Q:=h
theorem tf {t:TG} {u:TGs} {v:V} {r:List V} {s:St} {H:Hp} {Q:St→Hp→Prop} (h:t v s H fun s' H'=>u r s' H' Q):wI t u (v :: r) s H Q:=⟨v,r,rfl,h⟩
theorem vK {s:St} {H:Hp} {Q:St→Hp→Prop} (h:Q s H):Ax [] s H Q:=⟨rfl,h⟩
theorem vL {to ti:TE} {t:wH} {v:V} {s:St} {H:Hp} {Q:St→Hp→Prop} (h:to s H fun o H1=>ti s H1 fun i H2=>t o i v H2 fun H3=>Q s H3):Ay to ti t v s H Q:=h
theorem vM {p:Addr} {xs:List V} {k:Int} {j:Nat} {v:V} {H:Hp} {Q:Hp→Prop} (e:At H p (.lst xs)) (hi:ixN xs.length k=some j) (h:Q (upd H p (.lst (xs.set j v)))):w5 (.ref p) (.int k) v H Q:=⟨p,xs,k,j,rfl,rfl,e,hi,h⟩
end
theorem vN:bootBuiltins "ValueError" = some (.type "ValueError"):=by decide +kernel
theorem qh {X:Cx} {H:Hp} {a b:Addr} {xs ys:List Int} (ha:SqL X.K H a (xs.map V.int)) (hb:SqL X.K H b (ys.map V.int)):RcW X H 1 (.ref a) (.ref b) (decide (xs=ys)):=by
 by_cases hl:xs.length=ys.length
 ·have h:=jQ (X:=X) (n:=0) (e:=fun j=>xs.getD j 0 == ys.getD j 0) ha hb (by simpa using hl) fun j x y ex ey=>by
   obtain ⟨i,e1,rfl⟩:=cA ex
   obtain ⟨i',e2,rfl⟩:=cA ey
   rw [List.getD_eq_getElem?_getD,List.getD_eq_getElem?_getD,e1,e2]
   exact l0 i i'
  rw [List.length_map,pL xs ys hl] at h
  exact h.mono (by omega)
 ·have h:=l6 (X:=X) ha hb (by simpa using hl)
  have:decide (xs=ys)=false:=decide_eq_false fun e=>hl (by rw [e])
  rw [this]
  exact h.mono (by omega)
section
variable {K:PySem.W.Frag} {H:Hp}
end
end L2
set_option maxHeartbeats 4000000
set_option maxRecDepth 100000
namespace L2
open PySem PySem.Spec PyProof.Rows
section
variable {X:Cx}
def qi:V→List V→Hp→VK→Prop:=fun x vs H Q=>∃ (l:Addr) (xs:List V) (i:Int) (k:Nat) (y:V),x = .ref l∧vs=[.int i,y]∧i=k∧H l=some (.lst xs)∧k≤xs.length∧xs.length < 1000000∧Q .non (upd H l (.lst (xs.take k++y :: xs.drop k)))
theorem qj:MtM X "list.insert" qi:=by
 intro pins s σ H x vs v us Q I rx rv h
 obtain ⟨l,xs,i,k,y,rfl,rfl,hik,hH,hk,hz,q⟩:=h
 cases rx
 obtain ⟨u,w,rfl,ru,rw'⟩:=rv.two
 obtain ⟨t,rfl⟩:=ru
 obtain ⟨z,its,n,r,hl,e⟩:=I.lstM hH
 have e24:sizeLine=16777216:=by decide +kernel
 have f1:Builtin.List.listFitsIndex i=true:=fitsIndex_both (by omega) (by omega)
 have f2:¬ (!Builtin.List.listFitsIndex i)=true:=by rw [f1];decide
 have f3:its.toArray.size≤sizeLine:=by rw [List.size_toArray,← hl];exact z
 have M:=AutoSeq1.list_insert_list_int_val_1 l its.toArray n i t w f2 f3
 refine call_meets F.slot_list_insert ⟨_,e,rfl⟩ F.entry_list_insert (F.args_list_insert_3 _ _ _) M ⟨e,?_⟩
 refine ⟨.non,_,I.lset (its':=its.take k++w :: its.drop k) hH e ?_ ?_ ?_,rfl,q⟩
 ·show ((its.toArray.extract 0 (if i < 0 then (i+(its.toArray.size:Int)).toNat else min i.toNat its.toArray.size)).push w++its.toArray.extract (if i < 0 then (i+(its.toArray.size:Int)).toNat else min i.toNat its.toArray.size))=_
  rw [if_neg (by omega),show i.toNat=k by omega,List.size_toArray,Nat.min_eq_left (by omega)]
  apply Array.toList_inj.mp
  simp [List.drop_take]
  exact List.take_of_length_le (by rw [List.length_drop];omega)
 ·exact (r.take k).append (.cons rw' (r.drop k))
 ·rw [List.length_append,List.length_cons,List.length_take,List.length_drop]
  omega
theorem qk {l:Addr} {xs:List V} {k:Nat} {y:V} {H:Hp} {Q:VK} (e:At H l (.lst xs)) (hk:k≤xs.length) (hl:xs.length < 1000000) (h:Q .non (upd H l (.lst (xs.take k++y :: xs.drop k)))):qi (.ref l) [.int k,y] H Q:=⟨l,xs,_,k,y,rfl,rfl,rfl,e,hk,hl,h⟩
def qm (K:PySem.W.Frag):V→List V→Hp→VK→Prop:=fun x vs H Q=>∃ (l:Addr) (ns:List Int) (k:Int),x = .ref l∧vs=[.int k]∧SqL K H l (ns.map V.int)∧k∈ns∧Q (.int (ns.idxOf k:Nat)) H
theorem tj:MtM X "list.index" (qm X.K):=by
 intro pins s σ H x vs v us Q I rx rv h
 obtain ⟨l,ns,k,rfl,rfl,hS,hk,q⟩:=h
 cases rx
 obtain ⟨u,rfl,ru⟩:=rv.one
 obtain ⟨t,rfl⟩:=ru
 obtain ⟨its,r,pl,hz⟩:=I.list hS
 have hi:=n9 r
 obtain ⟨⟨cls,dd,data,sl⟩,ho,hc,n,hd⟩:=id pl.isList
 simp only at hc hd
 subst hc hd
 have hlen:=hi.length
 have hj:ns.idxOf k < ns.length:=List.idxOf_lt_length_iff.mpr hk
 rw [List.length_map] at hz
 have e24:sizeLine=16777216:=by decide +kernel
 refine call_meets PySem.F.slot_list_index ⟨_,ho,rfl⟩ PySem.F.entry_list_index (PySem.F.args_list_index_2 _ _)
  (SeqAt.list_indexAt l its.toArray n dd sl (.int k t) (isInt k) (ns.idxOf k) (by simpa [hlen] using hj) (by omega) ?_ ?_) ⟨ho,fun y hy=>(eq_isInt k t hi y (by simpa using hy)).at _ _,?_⟩
 ·show isInt k its[ns.idxOf k]=true
  rw [isInt_at k hi _ (by omega) hj]
  simpa using List.getElem_idxOf hj
 ·intro j hjs hlt
  show isInt k its[j]=false
  rw [isInt_at k hi j (by simpa using hjs) (by omega)]
  exact ne_of_lt_idxOf hlt _
 ·exact ⟨.int _,H,I.tok _,⟨_,rfl⟩,q⟩
theorem qo {K:PySem.W.Frag} (hK:X.K=K:=by rfl):MtM X "list.index" (qm K):=hK ▸ tj
theorem tm {K:PySem.W.Frag} {l:Addr} {ns:List Int} {k:Int} {H:Hp} {Q:VK} (e:SqL K H l (ns.map V.int)) (hk:k∈ns) (h:Q (.int (ns.idxOf k:Nat)) H):qm K (.ref l) [.int k] H Q:=⟨l,ns,k,rfl,rfl,e,hk,h⟩
theorem ny (val:Nat→Int):∀ k,argBest (fun i j=>decide (val i < val j)) k≤k∧∀ i,i≤k→val (argBest (fun i j=>decide (val i < val j)) k)≤val i
 | 0=>⟨Nat.le_refl _,fun i hi=>by
                    have:i=0:=by omega
                    subst this;exact Int.le_refl _⟩
 | k+1=>by
  obtain ⟨h1,h2⟩:=ny val k
  unfold argBest
  by_cases c:decide (val (k+1) < val (argBest (fun i j=>decide (val i < val j)) k))=true
  ·rw [if_pos c]
   refine ⟨Nat.le_refl _,fun i hi => ?_⟩
   have c':=of_decide_eq_true c
   rcases Nat.lt_or_ge i (k+1) with z | z
   ·have:=h2 i (by omega)
    omega
   ·have:i=k+1:=by omega
    subst this;exact Int.le_refl _
  ·rw [if_neg c]
   refine ⟨by omega,fun i hi => ?_⟩
   have c':¬ val (k+1) < val (argBest (fun i j=>decide (val i < val j)) k):=fun z=>c (decide_eq_true z)
   rcases Nat.lt_or_ge i (k+1) with z | z
   ·exact h2 i (by omega)
   ·have:i=k+1:=by omega
    subst this;omega
def BI:List V→Hp→VK→Prop:=fun xs H Q=>∃ (p:Addr) (ns:List Int),xs=[.ref p]∧H p=some (.lst (ns.map V.int))∧ns≠[]∧∀ m,m∈ns→(∀ x∈ns,m≤x)→Q (.int m) H
theorem j1 (hc:X.calm=true):fu X (.builtin "min") BI:=by
 intro pins s σ H xs us Q I r h
 obtain ⟨p,ns,rfl,hq,hne,q⟩:=h
 obtain ⟨u,rfl,rx⟩:=o9 r
 cases rx
 obtain ⟨its,r',pl,hz⟩:=I.list (SqL.of (K:=X.K) hq)
 have hl:=r'.length
 rw [List.length_map] at hl
 have hpos:0 < ns.length:=List.length_pos_iff.mpr hne
 refine call_min_walk (wpAny_pyIter_list pl.isList ?_)
 have hnp:p≠s.heap.objs.size:=by
  obtain ⟨o,ho,_⟩:=pl.isList
  exact Nat.ne_of_lt (Heap.lt_size ho)
 have hval:∀ (i:Nat) (v:Value),its.toArray[i]? = some v→∃ t,v=Value.int (ns.getD i 0) t:=fun i v hv=>by
  have hv':its[i]? = some v:=by simpa using hv
  have hi:i < ns.length:=by
   have:=(List.getElem?_eq_some_iff.mp hv').1
   omega
  obtain ⟨u,h1,h2⟩:=r'.get (i:=i) (x := .int (ns.getD i 0)) (by rw [List.getElem?_map,List.getElem?_eq_getElem hi];simp [List.getD_eq_getElem?_getD,hi])
  rw [hv'] at h1
  cases h1
  exact h2
 refine ⟨_,_,_,_,_,_,_,rfl,Walks.list (A:=X.A.in1) (I.ok.hd hc) s.heap.objs.size p hnp its.toArray,⟨⟨_,Heap.get?_push_size _ rfl,rfl,rfl⟩,pl.isList.at fun o e=>Heap.get?_push_of_some _ e⟩,?_,?_,CmpOf.ints_lt (fun i=>ns.getD i 0) hval,fun v h' tk hP k => ?_⟩
 ·intro b hb
  rw [Heap.size_push]
  obtain ⟨o,ho,_⟩:=pl.isList
  have h9:=Heap.lt_size ho
  simp only [List.mem_cons,List.not_mem_nil,or_false] at hb
  rcases hb with rfl | rfl
  ·exact Nat.lt_succ_self _
  ·exact Nat.lt_succ_of_lt h9
 ·rw [List.size_toArray,← hl];exact hpos
 ·obtain ⟨t,rfl⟩:=hval _ _ hP
  refine ⟨.int _,H,I.walked k,⟨t,rfl⟩,?_⟩
  have e:its.toArray.size=ns.length:=by rw [List.size_toArray,hl]
  rw [e]
  obtain ⟨b1,b2⟩:=ny (fun i=>ns.getD i 0) (ns.length - 1)
  refine q _ ?_ ?_
  ·rw [List.getD_eq_getElem?_getD,List.getElem?_eq_getElem (show argBest _ (ns.length - 1) < ns.length by omega)]
   exact List.getElem_mem _
  ·intro x hx
   obtain ⟨i,hi,rfl⟩:=List.getElem_of_mem hx
   have:=b2 i (by omega)
   rw [show ns.getD i 0=ns[i] by simp [List.getD_eq_getElem?_getD,hi]] at this
   exact this
end
theorem vO {te:TE} {ti:TIp} {x:V} {a0 a1 a2:Option V} {r:St} {D:Ends} {H:Hp} (h:te (a0 :: a1 :: a2 :: some x :: r) H fun y H1=>ti x y H1 fun z H2=>D.nx (a0 :: a1 :: a2 :: some z :: r) H2):Az 3 te ti D (a0 :: a1 :: a2 :: some x :: r) H:=⟨x,rfl,h⟩
theorem yj {f:Int→Int→Int} {i j:Int} {H:Hp} {Q:VK} (h:Q (.int (f i j)) H):ipI f (.int i) (.int j) H Q:=⟨i,j,rfl,rfl,h⟩
end L2
set_option maxHeartbeats 4000000
set_option maxRecDepth 100000
namespace L2
open PySem PySem.Spec PyProof.Rows
def ou (D:Addr) (n i:Nat) (Iv:Nat→List V→Hp→Prop) (ys:List V) (y:V) (H:Hp):Prop:=H D=some (.lst ys)∧∃ m,m < n - i∧(i+1≤n∧m=n - (i+1)∧Iv (i+1) (ys++[y]) (upd H D (.lst (ys++[y]))))
def tq (D:Addr) (n i:Nat) (Iv:Nat→List V→Hp→Prop) (ys:List V) (H:Hp):Prop:=H D=some (.lst ys)∧∃ m,m < n - i∧(i+1≤n∧m=n - (i+1)∧Iv (i+1) ys H)
theorem j2 {D:Addr} {n i:Nat} {Iv:Nat→List V→Hp→Prop} {ys:List V} {y:V} {H:Hp} (hi:i < n) (e:At H D (.lst ys)) (h:Iv (i+1) (ys++[y]) (upd H D (.lst (ys++[y])))):ou D n i Iv ys y H:=⟨e,n - (i+1),by omega,hi,rfl,h⟩
theorem vP {D:Addr} {n i:Nat} {Iv:Nat→List V→Hp→Prop} {ys:List V} {H:Hp} (hi:i < n) (e:At H D (.lst ys)) (h:Iv (i+1) ys H):tq D n i Iv ys H:=⟨e,n - (i+1),by omega,hi,rfl,h⟩
theorem kW {K:PySem.W.Frag} {tt:TT} {te:TE} {caps:St} {a D:Addr} {xs:List V} {H1:Hp} {Q:VK} (Iv:Nat→List V→Hp→Prop) (h0:Iv 0 [] (upd H1 D (.lst [])))
  (hl:∀ i ys H,i≤xs.length→Iv i ys H→At H D (.lst ys)∧SqL K H a xs∧ys.length≤i) (hn:xs.length≤sizeLine)
  (hs:∀ i x ys H,xs[i]? = some x→Iv i ys H→tt (caps++[some x]) H fun b H2=>if b=true then te (caps++[some x]) H2 (ou D xs.length i Iv ys) else tq D xs.length i Iv ys H2)
  (hd:∀ ys H,Iv xs.length ys H→Q (.ref D) H) :
  ∃ W:Nat→Nat→List V→Hp→Prop,(∃ n,W 0 n [] (upd H1 D (.lst [])))∧de (Itl K a) tt te caps D W Q:=by
 refine ⟨fun i m ys Hc=>i≤xs.length∧m=xs.length - i∧Iv i ys Hc,⟨xs.length,Nat.zero_le _,rfl,h0⟩,?_⟩
 rintro i m ys Hc ⟨hi,rfl,iv⟩
 obtain ⟨e1,e2,e3⟩:=hl i ys Hc hi iv
 refine ⟨e1,?_⟩
 by_cases h:i < xs.length
 ·refine .inr ⟨⟨xs,xs[i],e2,List.getElem?_eq_getElem h⟩,by omega,?_⟩
  rintro v H' ⟨rfl,hv⟩
  exact hs i v ys _ (hv xs e2) iv
 ·have hin:i=xs.length:=by omega
  subst hin
  exact .inl ⟨⟨xs,e2,Nat.le_refl _⟩,hd ys Hc iv⟩
theorem qp {tt:TT} {te:TE} {caps:St} {D:Addr} {n:Nat} {H1:Hp} {Q:VK} (Iv:Nat→List V→Hp→Prop) (h0:Iv 0 [] (upd H1 D (.lst [])))
  (hl:∀ i ys H,i≤n→Iv i ys H→At H D (.lst ys)∧ys.length≤i) (hn:n≤sizeLine)
  (hs:∀ i ys H,i < n→Iv i ys H→tt (caps++[some (.int (i:Int))]) H fun b H2=>if b=true then te (caps++[some (.int (i:Int))]) H2 (ou D n i Iv ys) else tq D n i Iv ys H2)
  (hd:∀ ys H,Iv n ys H→Q (.ref D) H) :
  ∃ W:Nat→Nat→List V→Hp→Prop,(∃ n,W 0 n [] (upd H1 D (.lst [])))∧de (Itr 0 n) tt te caps D W Q:=by
 refine ⟨fun i m ys Hc=>i≤n∧m=n - i∧Iv i ys Hc,⟨n,Nat.zero_le _,rfl,h0⟩,?_⟩
 rintro i m ys Hc ⟨hi,rfl,iv⟩
 obtain ⟨e1,e3⟩:=hl i ys Hc hi iv
 refine ⟨e1,?_⟩
 by_cases h:i < n
 ·refine .inr ⟨h,by omega,?_⟩
  rintro v H' ⟨rfl,rfl⟩
  rw [Int.zero_add]
  exact hs i ys _ h iv
 ·have hin:i=n:=by omega
  subst hin
  exact .inl ⟨Nat.le_refl _,hd ys Hc iv⟩
theorem fP {K:PySem.W.Frag} {te:TE} {caps:St} {H:Hp} {Q:VK} {a:Addr} {xs:List V} (Iv:Addr→Nat→List V→Hp→Prop) (e:SqL K H a xs) (hn:xs.length≤sizeLine)
  (h0:∀ D,aK H D→Iv D 0 [] (upd H D (.lst []))) (hl:∀ D i ys H,i≤xs.length→Iv D i ys H→At H D (.lst ys)∧SqL K H a xs∧ys.length≤i)
  (hs:∀ D i x ys H,xs[i]? = some x→Iv D i ys H→te (caps++[some x]) H (ou D xs.length i (Iv D) ys)) (hd:∀ D ys H,Iv D xs.length ys H→Q (.ref D) H) :
  ∃ a',V.ref a = .ref a'∧(∃ xs,SqL K H a' xs)∧∀ D,H D=none→∃ W:Nat→Nat→List V→Hp→Prop,(∃ n,W 0 n [] (upd H D (.lst [])))∧de (Itl K a') bc te caps D W Q:=
 ⟨a,rfl,⟨xs,e⟩,fun D hD=>kW (Iv D) (h0 D hD) (hl D) hn (fun i x ys H hx iv=>by unfold bc;exact sh (hs D i x ys H hx iv)) (hd D)⟩
theorem iJ {K:PySem.W.Frag} {tt:TT} {te:TE} {caps:St} {H:Hp} {Q:VK} {a:Addr} {xs:List V} (Iv:Addr→Nat→List V→Hp→Prop) (e:SqL K H a xs) (hn:xs.length≤sizeLine)
  (h0:∀ D,aK H D→Iv D 0 [] (upd H D (.lst []))) (hl:∀ D i ys H,i≤xs.length→Iv D i ys H→At H D (.lst ys)∧SqL K H a xs∧ys.length≤i)
  (hs:∀ D i x ys H,xs[i]? = some x→Iv D i ys H→tt (caps++[some x]) H fun b H2=>if b=true then te (caps++[some x]) H2 (ou D xs.length i (Iv D) ys) else tq D xs.length i (Iv D) ys H2) (hd:∀ D ys H,Iv D xs.length ys H→Q (.ref D) H) :
  ∃ a',V.ref a = .ref a'∧(∃ xs,SqL K H a' xs)∧∀ D,H D=none→∃ W:Nat→Nat→List V→Hp→Prop,(∃ n,W 0 n [] (upd H D (.lst [])))∧de (Itl K a') tt te caps D W Q:=
 ⟨a,rfl,⟨xs,e⟩,fun D hD=>kW (Iv D) (h0 D hD) (hl D) hn (hs D) (hd D)⟩
theorem kX {te:TE} {caps:St} {H:Hp} {Q:VK} {j:Int} (n:Nat) (Iv:Addr→Nat→List V→Hp→Prop) (ej:j.toNat=n) (hj:j < 2 ^ 62 ∧ -(2 ^ 62)≤j) (hn:n≤sizeLine)
  (h0:∀ D,aK H D→Iv D 0 [] (upd H D (.lst []))) (hl:∀ D i ys H,i≤n→Iv D i ys H→At H D (.lst ys)∧ys.length≤i)
  (hs:∀ D i ys H,i < n→Iv D i ys H→te (caps++[some (.int (i:Int))]) H (ou D n i (Iv D) ys)) (hd:∀ D ys H,Iv D n ys H→Q (.ref D) H) :
  ∃ j':Int,[V.int j]=[.int j'] ∧ -(2 ^ 62)≤j'∧j' < 2 ^ 62∧∀ D,H D=none→∃ W:Nat→Nat→List V→Hp→Prop,(∃ n,W 0 n [] (upd H D (.lst [])))∧de (Itr 0 j'.toNat) bc te caps D W Q:=by
 refine ⟨j,rfl,hj.2,hj.1,fun D hD => ?_⟩
 rw [ej]
 exact qp (Iv D) (h0 D hD) (hl D) hn (fun i ys H hi iv=>by unfold bc;exact sh (hs D i ys H hi iv)) (hd D)
end L2
namespace L2
open PySem PySem.Spec PyProof.Rows
section
variable {κ:Type} [DecidableEq κ]
def ue (kvs:List (κ×V)) (k:κ):Option V:=(kvs.find? fun kv=>decide (kv.1=k)).map (·.2)
def yO (kvs:List (κ×V)) (k:κ) (v:V):List (κ×V):=
 if (kvs.any fun kv=>decide (kv.1=k))=true then kvs.map (fun kv=>if kv.1=k then (kv.1,v) else kv) else kvs++[(k,v)]
def vQ (kvs:List (κ×V)) (k:κ):List (κ×V):=kvs.filter fun kv=>decide (kv.1≠k)
end
abbrev KT (H:Hp):List (List Key×V)→List (List Key×Addr×Value)→Prop:=Paired fun p q=>p.1=q.1∧H q.2.1=some (.tup (p.1.map kV))∧RelV p.2 q.2.2
section
variable {P:Program} {w:World} {H:Hp} {h:Heap} {a:Addr}
end
def vR (H:Hp) (a:Addr) (y:V) (r:Option V):Prop:=
 (∃ kvs k,Rd H a (.dK kvs)∧y=kV k∧r=ue kvs k)∨∃ kvs k b,Rd H a (.dT kvs)∧y = .ref b∧H b=some (.tup (k.map kV))∧r=ue kvs k
def zY (H:Hp) (a:Addr) (y v:V) (H':Hp):Prop:=
 (∃ kvs k,H a=some (.dK kvs)∧y=kV k∧kvs.length < sizeLine∧H'=upd H a (.dK (yO kvs k v))) ∨
 ∃ kvs k b,H a=some (.dT kvs)∧y = .ref b∧H b=some (.tup (k.map kV))∧kvs.length < sizeLine∧H'=upd H a (.dT (yO kvs k v))
section
variable {X:Cx} {pins:List (Addr×Obj)} {σ:St} {H:Hp} {s:Shared} {a:Addr} {y v:V} {u r:Value} {o:Option V} {A:Around} {E:Value→Shared→Prop}
end
section
variable {X:Cx} {pins:List (Addr×Obj)} {σ:St} {H:Hp} {s:Shared} {a:Addr} {kvs:List (Key×V)} {k:Key} {u:Value} {A:Around} {E:Value→Shared→Prop}
end
def Co (i:Expr):Prop:=∀ ov iv,subscripted i false ov iv=operate [ov,iv] (getItem ov iv)
def BJ (td ty:TE):TE:=fun σ H Q=>td σ H fun x H1=>ty σ H1 fun y H2=>∃ a v,x = .ref a∧vR H2 a y (some v)∧Q v H2
def Cq (ty td:TE):TE:=fun σ H Q=>ty σ H fun y H1=>td σ H1 fun x H2=>∃ a o,x = .ref a∧vR H2 a y o∧Q (.bl o.isSome) H2
def zZ (ty td:TE):TE:=fun σ H Q=>ty σ H fun y H1=>td σ H1 fun x H2=>∃ a o,x = .ref a∧vR H2 a y o∧Q (.bl (!o.isSome)) H2
def BK (td ty tv:TE):TS:=fun D σ H=>tv σ H fun v H1=>td σ H1 fun x H2=>ty σ H2 fun y H3=>∃ a H4,x = .ref a∧zY H3 a y v H4∧D.nx σ H4
def BL (td ty tv:TE) (rd:V→V→Hp→VK→Prop):TS:=fun D σ H=>td σ H fun x H1=>ty σ H1 fun y H2=>∃ a v,x = .ref a∧vR H2 a y (some v) ∧
 tv σ H2 fun y2 H3=>rd v y2 H3 fun z H4=>∃ H5,zY H4 a y z H5∧D.nx σ H5
def BN (td ty:TE):TS:=fun D σ H=>td σ H fun x H1=>ty σ H1 fun y H2=>∃ a kvs k,x = .ref a∧H2 a=some (.dK kvs)∧y=kV k∧(ue kvs k).isSome=true∧D.nx σ (upd H2 a (.dK (vQ kvs k)))
section
variable {X:Cx} {o i e value:Expr} {pos pos' tpos:Pos} {td ty tv:TE}
end
def AX:TE:=fun _ H Q=>∀ p,H p=none→Q (.ref p) (upd H p (.dK []))
def AY:TE:=fun _ H Q=>∀ p,H p=none→Q (.ref p) (upd H p (.dT []))
section
variable {X:Cx} {pos:Pos}
end
def qq:List (TE×TE)→St→Hp→(List (V×V)→Hp→Prop)→Prop
 | [],_,H,Q=>Q [] H
 | (tk,tv) :: r,σ,H,Q=>tk σ H fun x H1=>tv σ H1 fun y H2=>qq r σ H2 fun ps H3=>Q ((x,y) :: ps) H3
abbrev VV:List (V×V)→List (Value×Value)→Prop:=Paired fun p q=>RelV p.1 q.1∧RelV p.2 q.2
def PPs (X:Cx) (pos:Pos) (keys:List (Option Expr)) (values:List Expr) (trs:List (TE×TE)):Prop:=
 ∀ (pins:List (Addr×Obj)) (s:Shared) (σ:St) (H:Hp) (Q:List (V×V)→Hp→Prop),Inv X pins σ H s→qq trs σ H Q →
  wpAny (model X.prog X.w) X.A (evalPairs (pairTrees keys values X.env pos)) (fun vs s'=>∃ ps H',Inv X pins σ H' s'∧VV ps vs∧Q ps H') X.xe s
def qr (kvs more:List (Key×V)):List (Key×V):=more.foldl (fun acc kv=>yO acc kv.1 kv.2) kvs
def BO (trs:List (TE×TE)):TE:=fun σ H Q=>∀ p,H p=none→qq trs σ (upd H p (.dK [])) fun ps H2=>H2 p=some (.dK [])∧∃ kvs:List (Key×V),ps=kvs.map (fun kv=>(kV kv.1,kv.2))∧kvs.length≤15∧Q (.ref p) (upd H2 p (.dK (qr [] kvs)))
structure M1 (X:Cx) (o:Expr) (m:Str) (apos:Pos) (e:Expr) (cpos:Pos):Prop where
 base:attributeBase o m X.env (eval o X.env)=eval o X.env
 few:((backTo cpos (starEach [e] X.env)).all (fun x => !x.1) && (backToKw cpos (keywordEach [] X.env)).all (fun x=>x.1.isSome)
  && decide (([e]:List Expr).length+([]:List Keyword).length+(if ([]:List Keyword).isEmpty then 0 else 1) < 30))=true
 line:(apos.endLine == cpos.line)=true
 trees:backTo cpos (starEach [e] X.env)=[(false,eval e X.env)]
structure M2 (X:Cx) (o:Expr) (m:Str) (apos:Pos) (e f:Expr) (cpos:Pos):Prop where
 base:attributeBase o m X.env (eval o X.env)=eval o X.env
 few:((backTo cpos (starEach [e,f] X.env)).all (fun x => !x.1) && (backToKw cpos (keywordEach [] X.env)).all (fun x=>x.1.isSome)
  && decide (([e,f]:List Expr).length+([]:List Keyword).length+(if ([]:List Keyword).isEmpty then 0 else 1) < 30))=true
 line:(apos.endLine == cpos.line)=true
 trees:backTo cpos (starEach [e,f] X.env)=[(false,eval e X.env),(false,eval f X.env)]
def IsD (H:Hp) (a:Addr):Prop:=(∃ kvs,Rd H a (.dK kvs))∨∃ kvs,Rd H a (.dT kvs)
section
variable {X:Cx} {pins:List (Addr×Obj)} {σ:St} {H:Hp} {s:Shared} {a:Addr} {y d:V} {u r:Value} {o:Option V} {A:Around} {E:Value→Shared→Prop}
end
def AZ (td ty:TE):TE:=fun σ H Q=>td σ H fun x H1=>∃ a,x = .ref a∧IsD H1 a∧ty σ H1 fun y H2=>∃ o,vR H2 a y o∧Q (o.getD .non) H2
def A0 (td ty tx:TE):TE:=fun σ H Q=>td σ H fun x H1=>∃ a,x = .ref a∧IsD H1 a∧ty σ H1 fun y H2=>tx σ H2 fun z H3=>∃ o,vR H3 a y o∧Q (o.getD z) H3
def A3 (td ty:TE):TE:=fun σ H Q=>td σ H fun x H1=>∃ a,x = .ref a∧IsD H1 a∧ty σ H1 fun y H2=>∃ kvs k v,H2 a=some (.dK kvs)∧y=kV k∧ue kvs k=some v∧Q v (upd H2 a (.dK (vQ kvs k)))
def A4 (td ty tx:TE):TE:=fun σ H Q=>td σ H fun x H1=>∃ a,x = .ref a∧IsD H1 a∧ty σ H1 fun y H2=>tx σ H2 fun z H3=>∃ kvs k,H3 a=some (.dK kvs)∧y=kV k ∧
 (∀ v,ue kvs k=some v→Q v (upd H3 a (.dK (vQ kvs k))))∧(ue kvs k=none→Q z H3)
section
variable {X:Cx} {o e f:Expr} {apos cpos:Pos} {td ty tx:TE}
end
section
variable {X:Cx} {pins:List (Addr×Obj)} {σ:St} {H:Hp} {s:Shared} {a:Addr} {kvs:List (Key×V)} {A:Around} {E:Value→Shared→Prop}
end
section
variable {X:Cx} {pins:List (Addr×Obj)} {σ:St} {H:Hp} {s:Shared} {a:Addr} {y:V} {u:Value} {A:Around} {E:Value→Shared→Prop}
end
end L2
set_option maxHeartbeats 4000000
set_option maxRecDepth 100000
namespace L2
open PySem PySem.Spec PyProof.Rows
def BP:V→V→Hp→VK→Prop:=fun x y H Q=>∃ a v,x = .ref a∧vR H a y (some v)∧Q v H
def BQ (v:V):V→V→Hp→(Hp→Prop)→Prop:=fun x y H N=>∃ a H4,x = .ref a∧zY H a y v H4∧N H4
def BR:V→List V→Hp→VK→Prop:=fun x vs H Q=>∃ d o kvs more,x = .ref d∧vs=[.ref o]∧H d=some (.dK kvs)∧H o=some (.dK more)∧d≠o∧kvs.length+more.length≤1000∧Q .non (upd H d (.dK (qr kvs more)))
end L2
namespace L2
open PySem PySem.Spec PyProof.Rows
section
variable {X:Cx} {K:PySem.W.Frag}
def BS (K:PySem.W.Frag):R2:=fun x y H Q=>∃ a b xs ys,x = .ref a∧y = .ref b∧SqL K H a xs∧SqL K H b ys∧xs.length+ys.length≤sizeLine∧∀ p,H p=none→Q (.ref p) (upd H p (.lst (xs++ys)))
end
def yk (t:TS):TS:=fun D σ H=>∃ p xs,H p=some (.lst xs)∧∀ o,t D σ (upd H p (.frz o (.lst xs)))
theorem vS {X:Cx} {ss:List Stmt} {t:TS} (h:PSs X ss t):PSs X ss (yk t):=by
 rintro pins s σ H D I ⟨p,xs,e,q⟩
 obtain ⟨o,I2⟩:=I.freeze e
 exact h pins s σ _ D I2 (q o)
theorem vT {t:TS} {D:Ends} {s:St} {H:Hp} {p:Addr} {xs:List V} (e:At H p (.lst xs)) (h:∀ o,t D s (upd H p (.frz o (.lst xs)))):yk t D s H:=⟨p,xs,e,h⟩
end L2
namespace L2
open PySem PySem.Spec PyProof.Rows
def BT (p:Addr):List (V×V)→Hp→VK→Prop:=fun ps H2 Q=>H2 p=some (.dK [])∧∃ kvs:List (Key×V),ps=kvs.map (fun kv=>(kV kv.1,kv.2))∧kvs.length≤15∧Q (.ref p) (upd H2 p (.dK (qr [] kvs)))
end L2
set_option maxHeartbeats 4000000
set_option maxRecDepth 100000
namespace L2
open PySem PySem.Spec PyProof.Rows
section
variable {X:Cx} {K:PySem.W.Frag} {H:Hp}
theorem nz {bs:List Bool}:∀ {us:List Value},Vals (bs.map V.bl) us→us=bs.map Value.bool:=by
 induction bs with
 | nil=>intro us r;rw [List.map_nil] at r;cases r;rfl
 | cons b bs ih=>
  intro us r
  rw [List.map_cons] at r
  cases r with
  | cons h t=>
   have h:_=Value.bool b:=h
   rw [h,ih t]
   rfl
def ow:Value→Bool
 | .bool b=>b
 | _=>false
theorem uf {A:Around} {s:Shared} {bs:List Bool} {y:Value} (h:y∈bs.map Value.bool):SeqAt.EqAt A s y (.bool true) (ow y):=by
 obtain ⟨b,_,rfl⟩:=List.mem_map.mp h
 have:=pw (A:=A) (s:=s) (y := .bl b) (x := .bl true) (u := .bool b) (v := .bool true) rfl rfl rfl rfl
 have e:eqV (.bl b) (.bl true)=ow (.bool b):=by cases b <;> rfl
 rw [e] at this
 exact this
theorem qt (bs:List Bool):(bs.map Value.bool).countP ow=bs.count true:=by
 rw [List.countP_map,List.count]
 congr 1
 funext b
 cases b <;> rfl
def qv:V→List V→Hp→VK→Prop:=fun x vs H Q=>∃ (l:Addr) (bs:List Bool),x = .ref l∧vs=[.bl true]∧H l=some (.lst (bs.map V.bl))∧Q (.int (bs.count true:Nat)) H
theorem tu:MtM X "list.count" qv:=by
 intro pins s σ H x vs v us Q I rx rv h
 obtain ⟨l,bs,rfl,rfl,hS,q⟩:=h
 cases rx
 obtain ⟨u,rfl,ru⟩:=rv.one
 obtain rfl:u=Value.bool true:=ru
 obtain ⟨its,r,pl,hz⟩:=I.list (SqL.of (K:=X.K) hS)
 obtain rfl:=nz r
 obtain ⟨⟨cls,dd,data,sl⟩,ho,hc,n,hd⟩:=id pl.isList
 simp only at hc hd
 subst hc hd
 refine call_meets PySem.F.slot_list_count ⟨_,ho,rfl⟩ PySem.F.entry_list_count (PySem.F.args_list_count_2 _ _)
  (SeqAt.list_countAt l _ n dd sl (.bool true) ow) ⟨ho,fun y hy=>uf (by simpa using hy),?_⟩
 have e:(bs.map Value.bool).toArray.toList.countP ow=bs.count true:=qt bs
 rw [e]
 exact ⟨.int _,H,I.tok _,⟨_,rfl⟩,q⟩
def qw:V→List V→Hp→VK→Prop:=fun x vs H Q=>∃ (l:Addr) (bs:List Bool),x = .ref l∧vs=[.bl true]∧H l=some (.lst (bs.map V.bl))∧true∈bs∧Q (.int (bs.idxOf true:Nat)) H
theorem qx:MtM X "list.index" qw:=by
 intro pins s σ H x vs v us Q I rx rv h
 obtain ⟨l,bs,rfl,rfl,hS,hk,q⟩:=h
 cases rx
 obtain ⟨u,rfl,ru⟩:=rv.one
 obtain rfl:u=Value.bool true:=ru
 obtain ⟨its,r,pl,hz⟩:=I.list (SqL.of (K:=X.K) hS)
 obtain rfl:=nz r
 obtain ⟨⟨cls,dd,data,sl⟩,ho,hc,n,hd⟩:=id pl.isList
 simp only at hc hd
 subst hc hd
 have hj:bs.idxOf true < bs.length:=List.idxOf_lt_length_iff.mpr hk
 rw [List.length_map] at hz
 have e24:sizeLine=16777216:=by decide +kernel
 refine call_meets PySem.F.slot_list_index ⟨_,ho,rfl⟩ PySem.F.entry_list_index (PySem.F.args_list_index_2 _ _)
  (SeqAt.list_indexAt l (bs.map Value.bool).toArray n dd sl (.bool true) ow (bs.idxOf true) (by simpa using hj) (by omega) ?_ ?_) ⟨ho,fun y hy=>uf (by simpa using hy),?_⟩
 ·have e:(bs.map Value.bool).toArray[bs.idxOf true]'(by simpa using hj)=Value.bool bs[bs.idxOf true]:=by simp
  rw [e]
  show bs[bs.idxOf true]=true
  exact List.getElem_idxOf hj
 ·intro j hjs hlt
  have hb:j < bs.length:=by omega
  have e:(bs.map Value.bool).toArray[j]'hjs=Value.bool bs[j]:=by simp
  rw [e]
  show bs[j]=false
  have:=List.not_of_lt_findIdx (p:=fun x=>x == true) (xs:=bs) (i:=j) hlt
  simpa using this
 ·exact ⟨.int _,H,I.tok _,⟨_,rfl⟩,q⟩
theorem kY {l:Addr} {bs:List Bool} {Q:VK} (e:At H l (.lst (bs.map V.bl))) (h:Q (.int (bs.count true:Nat)) H):qv (.ref l) [.bl true] H Q:=⟨l,bs,rfl,rfl,e,h⟩
theorem kZ {l:Addr} {bs:List Bool} {Q:VK} (e:At H l (.lst (bs.map V.bl))) (hk:true∈bs) (h:Q (.int (bs.idxOf true:Nat)) H):qw (.ref l) [.bl true] H Q:=⟨l,bs,rfl,rfl,e,hk,h⟩
def TFr (K:PySem.W.Frag) (H:Hp) (v:V) (f:Int×List Int):Prop:=∃ t r,v = .ref t∧SqT K H t [.int f.1,.ref r]∧SqL K H r (f.2.map V.int)
theorem yl {x y:V} {f:Int×List Int} (hx:TFr K H x f) (hy:TFr K H y f):EqK K H 3 x y true:=by
 obtain ⟨t,r,rfl,ht,hr⟩:=hx
 obtain ⟨t',r',rfl,ht',hr'⟩:=hy
 intro X e
 subst e
 refine pK ?_ fun _=>rfl
 have h:=pJ (X:=X) (n:=1) (e:=fun _=>true) ht ht' fun j x y ex ey=>by
  match j,ex,ey with
  | 0,ex,ey=>
   cases ex
   cases ey
   have:=l0 (X:=X) (H:=H) f.1 f.1
   rw [beq_self_eq_true] at this
   exact this.mono (by omega)
  | 1,ex,ey=>
   cases ex
   cases ey
   have:=qh hr hr'
   rw [decide_eq_true rfl] at this
   exact pK this fun _=>rfl
 have e:(List.range (min ([V.int f.1,.ref r]:List V).length ([V.int f.1,.ref r']:List V).length)).all (fun _=>true) && ([V.int f.1,.ref r]:List V).length == ([V.int f.1,.ref r']:List V).length:=by rfl
 rw [e] at h
 exact h.mono (by omega)
theorem vU {a b:Addr} {xs ys:List V} {fs:List (Int×List Int)} (ha:SqL K H a xs) (hb:SqL K H b ys) (hx:xs.length=fs.length) (hy:ys.length=fs.length) (px:∀ (j:Nat) x f,xs[j]? = some x→fs[j]? = some f→TFr K H x f) (py:∀ (j:Nat) x f,ys[j]? = some x→fs[j]? = some f→TFr K H x f):RcK K H 8 (.ref a) (.ref b) true:=by
 intro X e
 subst e
 have h:=jQ (X:=X) (n:=3) (e:=fun _=>true) ha hb (hx.trans hy.symm) fun j x y ex ey=>by
  have hj:j < fs.length:=by rw [← hx];exact (List.getElem?_eq_some_iff.mp ex).1
  exact yl (px j x _ ex (List.getElem?_eq_getElem hj)) (py j y _ ey (List.getElem?_eq_getElem hj)) X rfl
 rw [show (List.range xs.length).all (fun _=>true)=true from List.all_eq_true.mpr fun _ _=>rfl] at h
 exact h.mono (by omega)
theorem tw {a b:Addr} {xs ys:List V} {fs:List (Int×List Int)} {Q:VK} (ha:SqL K H a xs) (hb:SqL K H b ys) (hx:xs.length=fs.length) (hy:ys.length=fs.length) (px:∀ (j:Nat) x f,xs[j]? = some x→fs[j]? = some f→TFr K H x f) (py:∀ (j:Nat) x f,ys[j]? = some x→fs[j]? = some f→TFr K H x f) (h:Q (.bl false) H):wx K (.ref a) (.ref b) H Q:=⟨true,vU ha hb hx hy px py,h⟩
end
end L2
namespace L2
open PySem PySem.Spec PyProof.Rows
class PEc (X:Cx) (e:Expr) (t:outParam TE):Prop where
 out:PE X e t
class PPc (X:Cx) (pos:Pos) (ks:List (Option Expr)) (vs:List Expr) (ts:outParam (List (TE×TE))):Prop where
 out:PPs X pos ks vs ts
 all:ks.all (·.isSome)=true
 len:ks.length=vs.length
section
variable {X:Cx} {p pos:Pos}
end
end L2
namespace L2
open PySem
theorem aU {N P:List Str} {sc:Scope} (a:sc.kind = .function:=by rfl) (b:sc.isCoroutine=false:=by rfl) (c:sc.isGenerator=false:=by rfl) (d:N.Nodup:=by decide +kernel) (e:N.take P.length=P:=by rfl) (f:∀ x∈P,sc.names.lookup x=some .local∨sc.names.lookup x=some .cell:=by decide +kernel) (g:∀ y∈sc.names,y.2 ≠ .free:=by decide +kernel):FnScope N P sc:=⟨a,b,c,d,e,f,g⟩
end L2
set_option maxHeartbeats 4000000
set_option maxRecDepth 100000
namespace L2
open PySem PySem.Spec PyProof.Rows
section
variable {X:Cx}
def BU:V→List V→Hp→VK→Prop:=fun x vs H Q=>∃ (d:Addr) (kvs:List (Key×V)) (k:Key) (y:V),x = .ref d∧vs=[kV k,y]∧H d=some (.dK kvs)∧kvs.length≤900∧(∀ w,ue kvs k=some w→Q w H)∧(ue kvs k=none→Q y (upd H d (.dK (yO kvs k y))))
def Aa (K:PySem.W.Frag):List V→Hp→VK→Prop:=fun xs H Q=>∃ (p:Addr) (ns:List Int),xs=[.ref p]∧SqL K H p (ns.map V.int)∧ns.length < 64∧∀ (D:Addr) (ms:List Int),aK H D→ms.Perm ns→ms.Pairwise (·≤·)→Q (.ref D) (upd H D (.lst (ms.map V.int)))
end
end L2
set_option maxHeartbeats 4000000
set_option maxRecDepth 100000
namespace L2
open PySem PySem.Spec PyProof.Rows
section
variable {prog:Program} {w:World} {A:Around} {E:Value→Shared→Prop} {s:Shared}
def tz (h:Heap) (a:Addr) (vs:List Value):Heap:=((h.update a (Obj.mapSeq fun _=>#[])).push (seqObj "tuple" vs.toArray 0)).push (seqObj "list" #[] 0)
def vV (h:Heap) (vs:List Value):Heap:=((h.push (seqObj "list" #[] 0)).update h.objs.size (Obj.mapSeq (·++vs.toArray))).push (seqObj "list" vs.toArray 0)
theorem qy {a:Addr} {vs:List Value} {n:Nat} {P:PySem.Fin→Shared→Prop} {G:List Nat→Prop} (ho:s.heap.get? a=some (seqObj "list" vs.toArray n)) (h64:vs.length < 64)
  (hk:∀ h':Heap,(∀ b o,b≠a→s.heap.get? b=some o→h'.get? b=some o)→2≤vs.length→wpAny (model prog w) A (keyKind' vs.toArray) (fun κ s'=>s'={s with heap:=h'}∧(W.kas_sort vs.length).kasWp (W.kas_ask prog w A κ vs) (fun p s''=>s''={s with heap:=h'}∧G p.toList) s') (fun _ _=>False) {s with heap:=h'})
  (h1:vs.length < 2→P (.done (.ret .none)) {s with heap:=sortedHeap s.heap a vs vs.toArray})
  (h2:∀ p:List Nat,p.length=vs.length→G p→P (.done (.ret .none)) {s with heap:=sortedHeap s.heap a vs (p.map fun i=>vs.getD i Value.none).toArray}) :
  wpAny (model prog w) A (Builtin.«list.sort» ⟨[.ref a],[]⟩) P E s:=by
 have keep:∀ b o,b≠a→s.heap.get? b=some o→(tz s.heap a vs).get? b=some o:=fun b o hb e=>
  Heap.get?_push_of_some _ (Heap.get?_push_of_some _ ((Heap.get?_update_other _ _ (Ne.symm hb)).trans e))
 obtain ⟨e1,ho1⟩:∃ e1,(s.heap.update a (Obj.mapSeq fun _=>#[])).get? a=some (seqObj "list" #[] e1):=⟨_,get?_update_seq ho fun _=>#[]⟩
 have ho6:(tz s.heap a vs).get? a=some (seqObj "list" #[] e1):=Heap.get?_push_of_some _ (Heap.get?_push_of_some _ ho1)
 have hz:vs.length≤sizeLine:=by rw [sizeLine_eq];omega
 rw [list_sort_plain]
 refine wpAny_bind (listItems_at ho rfl (wpAny_bind (listUpdate_at ho rfl ?_ (by rw [List.size_toArray];exact hz) (Nat.zero_le _))))
 refine wpAny_bind (seqEpoch_at ho1 rfl (wpAny_bind (wpAny_newTuple ?_ hz)))
 refine wpAny_bind (wpAny_newList (wpAny_holding ?_) (Nat.zero_le _))
 show wpAny _ A _ P E {s with heap:=tz s.heap a vs}
 dsimp only
 by_cases c:vs.toArray.size < 2
 ·rw [if_pos c,if_pos c]
  refine wpAny_bind (wpAny_pure (wpAny_bind ?_))
  rw [StateT.run_pure]
  refine wpAny_pure ?_
  dsimp only
  have eo:(arrOf (SortSt.mk' general' (vs.toArray.zip vs.toArray) #[] 7 none)).map (·.2)=vs.toArray:=by
   show (vs.toArray.zip vs.toArray).map (·.2)=vs.toArray
   simp
   exact List.map_snd_zip (Nat.le_refl _)
  rw [eo]
  refine wpAny_bind (seqEpoch_at ho6 rfl (wpAny_bind (listUpdate_at ho6 rfl ?_ (Nat.zero_le _) (by rw [List.size_toArray];omega))))
  rw [bne_self_eq_false]
  exact wpAny_pure (h1 (by simpa using c))
 ·have c2:2≤vs.length:=by simpa using c
  rw [if_neg c,if_neg c]
  refine wpAny_bind (wpAny_mono (hk _ keep c2) (fun κ s0 hs => ?_) fun _ _ x=>x.elim)
  obtain ⟨rfl,hs⟩:=hs
  refine wpAny_bind (wpAny_mono (W.kat_run (Q:=fun st' s'=>∃ p:Array Nat,p.size=vs.length∧arrOf st'=p.map (W.kas_item (vs.toArray.zip vs.toArray))∧failedOf st'=none∧s'={s with heap:=tz s.heap a vs}∧G p.toList)
   rfl c2 h64 (fun p st' s' a1 a2 a3 a4=>⟨p,a1,a2,a3,a4⟩) hs) ?_ fun _ _ e=>e)
  rintro ⟨⟨⟩,st'⟩ s' ⟨p,hp,har,hf,rfl,g⟩
  dsimp only
  rw [W.kat_snds rfl har]
  have hl:p.toList.length=vs.length:=by rw [Array.length_toList,hp]
  refine wpAny_bind (seqEpoch_at ho6 rfl (wpAny_bind (listUpdate_at ho6 rfl ?_ (Nat.zero_le _) (by rw [List.size_toArray,List.length_map,hl];omega))))
  rw [hf,bne_self_eq_false]
  exact wpAny_pure (h2 p.toList hl g)
theorem mi {l:Addr} {vs:List Value} {Q:Value→Shared→Prop} {G:List Nat→Prop} (hl:s.heap.IsList l vs.toArray) (h64:vs.length < 64)
  (hk:∀ h':Heap,(∀ b o,s.heap.get? b=some o→h'.get? b=some o)→2≤vs.length→wpAny (model prog w) A.in1.in1 (keyKind' vs.toArray) (fun κ s'=>s'={s with heap:=h'}∧(W.kas_sort vs.length).kasWp (W.kas_ask prog w A.in1.in1 κ vs) (fun p s''=>s''={s with heap:=h'}∧G p.toList) s') (fun _ _=>False) {s with heap:=h'})
  (h:∀ out:List Value,((vs.length < 2∧out=vs)∨∃ p:List Nat,p.length=vs.length∧G p∧out=p.map fun i=>vs.getD i Value.none)→Q (.ref (s.heap.objs.size+1)) {s with heap:=sortedAll s.heap vs out.toArray}) :
  wpAny (model prog w) A (call (.builtin "sorted") [.ref l]) Q E s:=by
 refine Calls.call_function_entry kind_sorted plain_sorted entry_sorted (args_sorted1 (.ref l)) ?_
 unfold Builtin.«sorted»
 refine wpAny_bind (m:=checkCount "sorted" 1 1 _) (wpAny_pure (wpAny_bind (collect_list hl (wpAny_bind (wpAny_newList ?_)))))
 have hz:((s.heap.push (seqObj "list" #[] 0)).update s.heap.objs.size (Obj.mapSeq (·++vs.toArray))).objs.size=s.heap.objs.size+1:=by rw [Heap.size_update,size_push']
 have hL:(vV s.heap vs).get? (s.heap.objs.size+1)=some (seqObj "list" vs.toArray 0):=by
  rw [← hz];exact Heap.get?_push_size _ rfl
 have old:∀ b o,s.heap.get? b=some o→b≠s.heap.objs.size+1∧(vV s.heap vs).get? b=some o:=fun b o e=>by
  have hb:=Heap.lt_size e
  exact ⟨Nat.ne_of_lt (Nat.lt_succ_of_lt hb),Heap.get?_push_of_some _ ((Heap.get?_update_other _ _ (Ne.symm (Nat.ne_of_lt hb))).trans (Heap.get?_push_of_some _ e))⟩
 show wpAny _ A.in1 _ _ E {s with heap:=vV s.heap vs}
 rw [hz]
 refine wpAny_bind (wpAny_holding (wpAny_call_entry slot_list_sort ⟨_,hL,rfl⟩ entry_list_sort (qy (G:=G) hL h64 (fun h' k c => ?_) (fun c=>⟨_,rfl,?_⟩) (fun p hp g=>⟨_,rfl,?_⟩)) (args_list_sort _)))
 ·exact hk h' (fun b o e=>k b o (old b o e).1 (old b o e).2) c
 ·exact wpAny_pure ⟨_,rfl,h vs (.inl ⟨c,rfl⟩)⟩
 ·exact wpAny_pure ⟨_,rfl,h _ (.inr ⟨p,hp,g,rfl⟩)⟩
end
end L2
set_option maxHeartbeats 4000000
set_option maxRecDepth 100000
namespace L2
open PySem PySem.Spec PyProof.Rows
def evc {α:Type} (n:Nat) (lt:Nat→Nat→Bool):W.KasT α→Option α
 | .ret a=>some a
 | .ask i j k=>if i < n∧j < n∧i≠j then evc n lt (k (lt i j)) else none
theorem ug {α:Type} {n:Nat} {lt:Nat→Nat→Bool} {cmp:Nat→Nat→(Bool→Shared→Prop)→Shared→Prop} {s:Shared} (hc:∀ i j C,i < n→j < n→i≠j→C (lt i j) s→cmp i j C s) :
  ∀ (t:W.KasT α) {a:α} {Q:α→Shared→Prop},evc n lt t=some a→Q a s→t.kasWp cmp Q s
 | .ret b,a,Q,e,h=>by
  have e:b=a:=Option.some.inj e
  subst e
  exact h
 | .ask i j k,a,Q,e,h=>by
  unfold evc at e
  split at e
  ·rename_i c
   exact hc i j _ c.1 c.2.1 c.2.2 (ug hc (k (lt i j)) e h)
  ·cases e
theorem uh {α:Type} {n:Nat} {lt lt':Nat→Nat→Bool} (h:∀ i j,i < n→j < n→i≠j→lt i j=lt' i j):∀ t:W.KasT α,evc n lt t=evc n lt' t
 | .ret _=>rfl
 | .ask i j k=>by
  unfold evc
  split
  ·rename_i c
   rw [h i j c.1 c.2.1 c.2.2]
   exact uh h _
  ·rfl
def pwB (lt:Nat→Nat→Bool):List Nat→Bool
 | []=>true
 | a :: l=>l.all (lt a) && pwB lt l
def k7 (n:Nat) (lt:Nat→Nat→Bool):Bool:=match evc n lt (W.kas_sort n) with
 | some p=>p.toList.isPerm (List.range n) && pwB lt p.toList
 | none=>false
def qz (n:Nat) (lt:Nat→Nat→Bool):Bool:=(List.range n).all fun i=>(List.range n).all fun j=>(List.range n).all fun k => !(lt i j && lt j k) || lt i k
def tab (a b c d e f:Bool):Nat→Nat→Bool
 | 0,1=>a | 1,0 => !a | 0,2=>b | 2,0 => !b | 0,3=>c | 3,0 => !c
 | 1,2=>d | 2,1 => !d | 1,3=>e | 3,1 => !e | 2,3=>f | 3,2 => !f
 | _,_=>false
theorem Ab:∀ a b c d e f:Bool,qz 4 (tab a b c d e f)=true→k7 4 (tab a b c d e f)=true:=by decide +kernel
theorem Ac:∀ a b d:Bool,qz 3 (tab a b true d true true)=true→k7 3 (tab a b true d true true)=true:=by decide +kernel
theorem Ad:∀ a:Bool,k7 2 (tab a true true true true true)=true:=by decide +kernel
theorem ui {lt:Nat→Nat→Bool}:∀ {l:List Nat},pwB lt l=true→l.Pairwise fun a b=>lt a b=true
 | [],_=>List.Pairwise.nil
 | a :: l,h=>by
  have h:(l.all (lt a) && pwB lt l)=true:=h
  rw [Bool.and_eq_true,List.all_eq_true] at h
  exact List.pairwise_cons.mpr ⟨h.1,ui h.2⟩
theorem vW {n:Nat} {lt:Nat→Nat→Bool} (h:∀ i j k,i < n→j < n→k < n→lt i j=true→lt j k=true→lt i k=true):qz n lt=true:=by
 unfold qz
 rw [List.all_eq_true]
 intro i hi
 rw [List.all_eq_true]
 intro j hj
 rw [List.all_eq_true]
 intro k hk
 have:=h i j k (List.mem_range.mp hi) (List.mem_range.mp hj) (List.mem_range.mp hk)
 cases a:lt i j <;> cases b:lt j k <;> simp_all
theorem tD {n:Nat} {x:Nat→Int} (h2:2≤n) (h4:n≤4) (inj:∀ i j,i < n→j < n→i≠j→x i≠x j) :
  ∃ p:Array Nat,evc n (fun i j=>decide (x i < x j)) (W.kas_sort n)=some p∧p.toList.Perm (List.range n)∧(p.toList.map x).Pairwise (· < ·):=by
 have key:∀ t:Nat→Nat→Bool,(∀ i j,i < n→j < n→t i j=decide (x i < x j))→(qz n t=true→k7 n t=true) →
   ∃ p:Array Nat,evc n (fun i j=>decide (x i < x j)) (W.kas_sort n)=some p∧p.toList.Perm (List.range n)∧(p.toList.map x).Pairwise (· < ·):=fun t ht hs=>by
  have h:=hs (vW fun i j k hi hj hk a b=>by
   rw [ht _ _ hi hj] at a
   rw [ht _ _ hj hk] at b
   rw [ht _ _ hi hk]
   have a:=of_decide_eq_true a
   have b:=of_decide_eq_true b
   exact decide_eq_true (by omega))
  unfold k7 at h
  rw [uh fun i j hi hj _=>ht i j hi hj] at h
  split at h
  ·rename_i p e
   rw [Bool.and_eq_true,List.isPerm_iff] at h
   refine ⟨p,e,h.1,?_⟩
   rw [List.pairwise_map]
   refine List.Pairwise.imp_of_mem (fun {a b} ha hb r => ?_) (ui h.2)
   rw [ht a b (List.mem_range.mp (h.1.mem_iff.mp ha)) (List.mem_range.mp (h.1.mem_iff.mp hb))] at r
   exact of_decide_eq_true r
  ·cases h
 have neg:∀ i j,i < n→j < n→i≠j→(!decide (x i < x j))=decide (x j < x i):=fun i j hi hj hne=>by
  have:=inj i j hi hj hne
  by_cases c:x i < x j
  ·rw [decide_eq_true c,decide_eq_false (by omega)];rfl
  ·rw [decide_eq_false c,decide_eq_true (by omega)];rfl
 have self:∀ i,false=decide (x i < x i):=fun i=>(decide_eq_false (by omega)).symm
 obtain rfl | rfl | rfl:n=2∨n=3∨n=4:=by omega
 ·refine key (tab (decide (x 0 < x 1)) true true true true true) (fun i j hi hj => ?_) (fun _=>Ad _)
  obtain rfl | rfl:i=0∨i=1:=by omega
  all_goals obtain rfl | rfl:j=0∨j=1:=by omega
  all_goals first | exact self _ | rfl | exact neg _ _ (by decide) (by decide) (by decide)
 ·refine key (tab (decide (x 0 < x 1)) (decide (x 0 < x 2)) true (decide (x 1 < x 2)) true true) (fun i j hi hj => ?_) (Ac _ _ _)
  obtain rfl | rfl | rfl:i=0∨i=1∨i=2:=by omega
  all_goals obtain rfl | rfl | rfl:j=0∨j=1∨j=2:=by omega
  all_goals first | exact self _ | rfl | exact neg _ _ (by decide) (by decide) (by decide)
 ·refine key (tab (decide (x 0 < x 1)) (decide (x 0 < x 2)) (decide (x 0 < x 3)) (decide (x 1 < x 2)) (decide (x 1 < x 3)) (decide (x 2 < x 3))) (fun i j hi hj => ?_) (Ab _ _ _ _ _ _)
  obtain rfl | rfl | rfl | rfl:i=0∨i=1∨i=2∨i=3:=by omega
  all_goals obtain rfl | rfl | rfl | rfl:j=0∨j=1∨j=2∨j=3:=by omega
  all_goals first | exact self _ | rfl | exact neg _ _ (by decide) (by decide) (by decide)
end L2
namespace L2
open PySem PySem.Spec PyProof.Rows
section
variable {X:Cx}
abbrev T3:=Addr×Int×Addr
def qA (K:PySem.W.Frag):List V→Hp→VK→Prop:=fun xs H Q=>∃ (p:Addr) (ts:List T3),xs=[.ref p]∧SqL K H p (ts.map fun t=>V.ref t.1)∧ts.length≤4∧(∀ t∈ts,SqT K H t.1 [.int t.2.1,.ref t.2.2])∧(ts.Pairwise fun a b=>a.2.1≠b.2.1) ∧
 ∀ (D:Addr) (us:List T3),aK H D→us.Perm ts→(us.Pairwise fun a b=>a.2.1 < b.2.1)→Q (.ref D) (upd H D (.lst (us.map fun t=>V.ref t.1)))
theorem ym:∀ {ts:List T3} {us:List Value},Vals (ts.map fun t=>V.ref t.1) us→us=ts.map fun t=>Value.ref t.1
 | [],us,r=>by cases r;rfl
 | t :: ts,us,r=>by
  rw [List.map_cons] at r
  cases r with
  | cons a b=>
   have a:_=Value.ref t.1:=a
   rw [a,ym b]
   rfl
theorem jz:∀ ts:List T3,Vals (ts.map fun t=>V.ref t.1) (ts.map fun t=>Value.ref t.1)
 | [] => .nil
 | _ :: ts => .cons rfl (jz ts)
theorem iK {α β:Type} (f:α→β) (l:List α) (i:Nat) (d:α) (e:β) (hi:i < l.length):(l.map f).getD i e=f (l.getD i d):=by
 rw [List.getD_eq_getElem?_getD,List.getD_eq_getElem?_getD,List.getElem?_map,List.getElem?_eq_getElem hi]
 rfl
theorem ox {α:Type} (l:List α) (d:α):(List.range l.length).map (fun i=>l.getD i d)=l:=by
 apply List.ext_getElem
 ·simp
 ·intro i h1 h2
  simp [List.getD_eq_getElem?_getD,h2]
theorem qB {h:Heap}:∀ {ts:List T3},(∀ t∈ts,∃ tk,IsTup h t.1 #[.int t.2.1 tk,.ref t.2.2])→∃ fs:List Value,fs.length=ts.length∧W.KatTups h (ts.map fun t=>Value.ref t.1) fs∧∀ v∈fs,∃ n tk,v=Value.int n tk
 | [],_=>⟨[],rfl,W.KatTups.nil,fun v hv=>(by cases hv)⟩
 | t :: ts,ht=>by
  obtain ⟨fs,h1,h2,h3⟩:=qB (ts:=ts) fun u hu=>ht u (List.mem_cons_of_mem _ hu)
  obtain ⟨tk,o,e,c,n,d⟩:=ht t List.mem_cons_self
  refine ⟨.int t.2.1 tk :: fs,by rw [List.length_cons,List.length_cons,h1],W.KatTups.cons e c d rfl h2,fun v hv => ?_⟩
  rcases List.mem_cons.mp hv with z | z
  ·exact ⟨_,_,z⟩
  ·exact h3 v z
theorem A6 {ts:List T3} (h:ts.Pairwise fun a b=>a.2.1≠b.2.1) {i j:Nat} (hi:i < ts.length) (hj:j < ts.length) (hne:i≠j):(ts.getD i (0,0,0)).2.1≠(ts.getD j (0,0,0)).2.1:=by
 have e:∀ k (hk:k < ts.length),ts.getD k (0,0,0)=ts[k]:=fun k hk=>by rw [List.getD_eq_getElem?_getD,List.getElem?_eq_getElem hk];rfl
 rw [e i hi,e j hj]
 rcases Nat.lt_or_gt_of_ne hne with z | z
 ·exact List.pairwise_iff_getElem.mp h i j hi hj z
 ·exact (List.pairwise_iff_getElem.mp h j i hj hi z).symm
theorem tE {α:Type} {R:α→α→Prop}:∀ {l:List α},l.length < 2→l.Pairwise R
 | [],_=>List.Pairwise.nil
 | [_],_=>List.pairwise_singleton _ _
 | _ :: _ :: _,h=>absurd h (by simp)
theorem A7 {ts:List T3} {i:Nat} (hi:i < ts.length):ts.getD i (0,0,0)∈ts:=by
 rw [List.getD_eq_getElem?_getD,List.getElem?_eq_getElem hi]
 exact List.getElem_mem hi
theorem oy:fu X (.builtin "sorted") (qA X.K):=by
 intro pins s σ H xs us Q I r h
 obtain ⟨p,ts,rfl,hq,hl,ht,hpw,q⟩:=h
 obtain ⟨u,rfl,rx⟩:=o9 r
 cases rx
 obtain ⟨its,r',pl,hz⟩:=I.list hq
 obtain rfl:=ym r'
 have tup:∀ t∈ts,∃ tk,IsTup s.heap t.1 #[.int t.2.1 tk,.ref t.2.2]:=fun t hm=>by
  obtain ⟨vs,rv,it,_⟩:=I.tuple (ht t hm)
  obtain ⟨a,b,rfl,ra,rb⟩:=wT rv
  obtain ⟨tk,rfl⟩:∃ tk,a = .int t.2.1 tk:=ra
  obtain rfl:b = .ref t.2.2:=rb
  exact ⟨tk,it⟩
 have hlen:(ts.map fun t=>Value.ref t.1).length=ts.length:=List.length_map _
 refine mi (G:=fun p=>p.Perm (List.range ts.length)∧(p.map fun i=>(ts.getD i (0,0,0)).2.1).Pairwise (· < ·)) pl.isList (by omega) (fun h' keep c => ?_) (fun out ho => ?_)
 ·have tup':∀ t∈ts,∃ tk,IsTup h' t.1 #[.int t.2.1 tk,.ref t.2.2]:=fun t hm=>let ⟨tk,o,e,m⟩:=tup t hm;⟨tk,o,keep _ _ e,m⟩
  obtain ⟨fs,hfl,kt,hint⟩:=qB tup'
  rw [hlen] at c ⊢
  refine W.kat_kind (fs:=fs) (T := .type "int") kt (by omega) (fun v hv => ?_) rfl ⟨rfl,?_⟩
  ·obtain ⟨n,tk,rfl⟩:=hint v hv
   exact W.Looks.now
  ·obtain ⟨p,ep,hp1,hp2⟩:=tD (n:=ts.length) (x:=fun i=>(ts.getD i (0,0,0)).2.1) c hl (fun i j hi hj hne=>A6 hpw hi hj hne)
   refine ug (n:=ts.length) (fun i j C hi hj hne hC => ?_) _ ep ⟨rfl,hp1,hp2⟩
   show wpAny _ _ (keyLt' (tuples' true) ((ts.map fun t=>Value.ref t.1).getD i Value.none) ((ts.map fun t=>Value.ref t.1).getD j Value.none)) C _ _
   rw [iK _ _ _ (0,0,0) _ hi,iK _ _ _ (0,0,0) _ hj]
   obtain ⟨tk1,o1,e1,_,n1,d1⟩:=tup' _ (A7 hi)
   obtain ⟨tk2,o2,e2,_,n2,d2⟩:=tup' _ (A7 hj)
   refine W.kat_lt e1 d1 e2 d2 (W.kat_cons (wpAny_eqBool_int ?_))
   rw [beq_eq_false_iff_ne.mpr (A6 hpw hi hj hne)]
   exact W.kat_no (oneLt_int hC)
 ·obtain ⟨us,rfl,h1,h2⟩:∃ us:List T3,out=us.map (fun t=>Value.ref t.1)∧us.Perm ts∧us.Pairwise fun a b=>a.2.1 < b.2.1:=by
   rcases ho with ⟨c,rfl⟩ | ⟨p,hp,⟨g1,g2⟩,rfl⟩
   ·refine ⟨ts,rfl,List.Perm.refl _,?_⟩
    rw [hlen] at c
    exact tE c
   ·refine ⟨p.map fun i=>ts.getD i (0,0,0),?_,?_,?_⟩
    ·rw [List.map_map]
     refine List.map_congr_left fun i hi => ?_
     exact iK _ _ _ (0,0,0) _ (List.mem_range.mp (g1.mem_iff.mp hi))
    ·have:=g1.map fun i=>ts.getD i (0,0,0)
     rw [ox] at this
     exact this
    ·rw [List.pairwise_map] at g2 ⊢
     exact g2
  obtain ⟨e,he⟩:=sortedAll_at s.heap (ts.map fun t=>Value.ref t.1) (us.map fun t=>Value.ref t.1).toArray
  refine ⟨.ref _,_,I.laid (t':=s.toks) (o := .lst (us.map fun t=>V.ref t.1)) (fun _ _ z=>sortedAll_old z) (Nat.le_succ _) ⟨?_,us.map fun t=>Value.ref t.1,e,jz us,he⟩,rfl,q _ us (I.hok.fresh (Nat.le_succ _)) h1 h2⟩
  rw [List.length_map,h1.length_eq]
  have:64≤sizeLine:=by decide +kernel
  omega
theorem iL {K:PySem.W.Frag} (hK:X.K=K:=by rfl):fu X (.builtin "sorted") (qA K):=hK ▸ oy
end
end L2
namespace BB
def ar (n:Int):Nat→List Int
 | 0=>[]
 | k+1=>(n / 2 ^ k % 2) :: ar n k
theorem aw (n:Int):∀ k,(ar n k).length=k
 | 0=>rfl
 | k+1=>by simp [ar,aw n k]
theorem jA (n:Int):∀ m:Nat,(List.range m).map (fun k:Nat=>n / 2 ^ (m - 1 - k) % 2)=ar n m
 | 0=>rfl
 | m+1=>by
  rw [List.range_succ_eq_map,List.map_cons,List.map_map,ar]
  congr 1
  rw [← jA n m]
  apply List.map_congr_left
  intro k hk
  have:m+1 - 1 - (k+1)=m - 1 - k:=by omega
  show n / 2 ^ (m+1 - 1 - (k+1)) % 2=_
  rw [this]
def Bit (b:Int):Prop:=b=0∨b=1
def Bits (l:List Int):Prop:=∀ b∈l,Bit b
theorem bL (n:Int):∀ k,Bits (ar n k)
 | 0=>by intro b hb;cases hb
 | k+1=>by
  intro b hb
  rcases List.mem_cons.mp hb with rfl | hb
  ·unfold Bit;omega
  ·exact bL n k b hb
theorem Bits.nil:Bits []:=by intro b hb;cases hb
theorem Bits.cons {b:Int} {l:List Int} (h:Bit b) (t:Bits l):Bits (b :: l):=by
 intro c hc
 rcases List.mem_cons.mp hc with rfl | hc
 ·exact h
 ·exact t c hc
theorem Bits.head {b:Int} {l:List Int} (h:Bits (b :: l)):Bit b:=h b List.mem_cons_self
theorem Bits.tail {b:Int} {l:List Int} (h:Bits (b :: l)):Bits l:=fun c hc=>h c (List.mem_cons_of_mem _ hc)
theorem Bits.append {l m:List Int} (h:Bits l) (t:Bits m):Bits (l++m):=by
 intro c hc
 rcases List.mem_append.mp hc with hc | hc
 ·exact h c hc
 ·exact t c hc
theorem Bits.take {l:List Int} (h:Bits l) (n:Nat):Bits (l.take n):=fun c hc=>h c (List.mem_of_mem_take hc)
theorem Bits.zeros (n:Nat):Bits (List.replicate n 0):=fun c hc => .inl (List.eq_of_mem_replicate hc)
def x2 (a b:Int):Int:=(a+b) % 2
def Ae:List Int→List Int→List Int
 | [],r=>r
 | _ :: _,[]=>[]
 | w :: ws,x :: r=>x2 x w :: Ae ws r
def wheel:List Int:=ar 17817 15
theorem qC:wheel.length=15:=aw _ _
def gA (c:List Int) (b:Int):List Int:=
 if c.headD 0=b then c.tail++[0] else List.zipWith x2 (c.tail++[0]) wheel
theorem qD {c:List Int} (b:Int) (h:c.length=15):(gA c b).length=15:=by
 unfold gA
 split <;> simp [List.length_zipWith,qC,h]
theorem nA:∀ a b:List Int,Bits (List.zipWith x2 a b)
 | [],_=>by simp [Bits.nil]
 | _ :: _,[]=>by simp [Bits.nil]
 | x :: a,y :: b=>by
  rw [List.zipWith_cons_cons]
  exact (show Bit (x2 x y) by unfold Bit x2;omega) |> fun h=>Bits.cons h (nA a b)
theorem oz {c:List Int} (b:Int) (h:Bits c):Bits (gA c b):=by
 unfold gA
 split
 ·refine Bits.append (fun x hx=>h x (List.mem_of_mem_tail hx)) (Bits.cons (.inl rfl) Bits.nil)
 ·exact nA _ _
theorem nB:∀ (bs c:List Int),c.length=15→(bs.foldl gA c).length=15
 | [],_,h=>h
 | b :: bs,c,h=>nB bs (gA c b) (qD b h)
theorem k9:∀ (bs c:List Int),Bits c→Bits (bs.foldl gA c)
 | [],_,h=>h
 | b :: bs,c,h=>k9 bs (gA c b) (oz b h)
def j3:List Int:=List.replicate 15 0
def chk (bs:List Int):List Int:=bs.foldl gA j3
theorem dj (bs:List Int):(chk bs).length=15:=nB bs _ (by simp [j3])
theorem tF (bs:List Int):Bits (chk bs):=k9 bs _ (Bits.zeros 15)
def eL (c:Nat) (b:Int):Nat:=
 if ((c / 16384:Nat):Int)=b then c * 2 % 32768 else (c * 2 % 32768) ^^^ 17817
theorem nC {c:Nat} (b:Int):eL c b < 32768:=by
 unfold eL
 have h1:c * 2 % 32768 < 2 ^ 15:=by omega
 split
 ·omega
 ·exact Nat.xor_lt_two_pow h1 (by decide)
theorem cP (n i:Nat):((n:Int) / 2 ^ i % 2)=((n.testBit i).toNat:Int):=by
 rw [Nat.toNat_testBit]
 push_cast
 rfl
theorem jB (a b:Nat):∀ k,ar ((a ^^^ b:Nat):Int) k=List.zipWith x2 (ar a k) (ar b k)
 | 0=>rfl
 | k+1=>by
  rw [ar,ar,ar,List.zipWith_cons_cons,jB a b k]
  congr 1
  rw [cP,cP,cP,Nat.testBit_xor]
  cases a.testBit k <;> cases b.testBit k <;> rfl
theorem gW (a:Nat):∀ k,ar ((a * 2:Nat):Int) (k+1)=ar a k++[0]
 | 0=>by simp [ar]
 | k+1=>by
  rw [ar,gW a k,ar,List.cons_append]
  congr 1
  rw [cP,cP,Nat.mul_comm,← Nat.pow_one 2,Nat.testBit_two_pow_mul]
  simp
theorem jC (a:Nat) (m:Nat):∀ k,k≤m→ar ((a % 2 ^ m:Nat):Int) k=ar a k
 | 0,_=>rfl
 | k+1,h=>by
  rw [ar,ar,jC a m k (by omega)]
  congr 1
  rw [cP,cP,Nat.testBit_mod_two_pow]
  simp [show k < m by omega]
theorem mj {c:Nat} (hc:c < 32768) (b:Int):ar (eL c b) 15=gA (ar c 15) b:=by
 have hs:ar ((c * 2 % 32768:Nat):Int) 15=(ar c 15).tail++[0]:=by
  have:=jC (c * 2) 15 15 (Nat.le_refl _)
  rw [show (2:Nat) ^ 15=32768 from rfl] at this
  rw [this,gW c 14]
  rfl
 have hh:(ar c 15).headD 0=((c / 16384:Nat):Int):=by
  show ((c:Int) / 2 ^ 14 % 2)=_
  omega
 unfold eL gA
 rw [hh]
 split
 ·exact hs
 ·rw [jB,hs]
  rfl
theorem qE:∀ (bs:List Int) (c:Nat),c < 32768→bs.foldl eL c < 32768
 | [],_,h=>h
 | b :: bs,c,_=>qE bs _ (nC b)
theorem nE:∀ (bs:List Int) (c:Nat),c < 32768→ar (bs.foldl eL c:Nat) 15=bs.foldl gA (ar c 15)
 | [],_,_=>rfl
 | b :: bs,c,h=>by
  rw [List.foldl_cons,List.foldl_cons,nE bs _ (nC b),mj h]
theorem vX (bs:List Int):ar (bs.foldl eL 0:Nat) 15=chk bs:=by
 rw [nE bs 0 (by decide)]
 rfl
def Af (k j:Nat) (rest:List Int):List Int:=rest.take k++Ae ((1 :: wheel).take j) (rest.drop k)
def uj (k:Nat) (rest:List Int):List Int:=if rest.getD k 0=1 then Af k 16 rest else rest
structure Outer (bs:List Int) (k:Nat) (rest:List Int):Prop where
 len:rest.length=bs.length+15
 bhd:rest.drop k=Ae ((bs.take k).foldl gA j3) (bs.drop k++j3)
end BB
namespace BB
def b5 (l:List Int):Int:=l.foldl (fun n b=>n * 2+b) 0
theorem gB:∀ (l:List Int) (a:Int),l.foldl (fun n b=>n * 2+b) a=a * 2 ^ l.length+b5 l
 | [],a=>by simp [b5]
 | b :: l,a=>by
  unfold b5
  rw [List.foldl_cons,List.foldl_cons,gB l,gB l (0 * 2+b),List.length_cons,Int.pow_succ]
  have:(2:Int) ^ l.length * 2=2 * 2 ^ l.length:=Int.mul_comm _ _
  rw [this,Int.add_mul,Int.zero_mul,Int.zero_add,← Int.mul_assoc,Int.add_assoc]
theorem dL (b:Int) (l:List Int):b5 (b :: l)=b * 2 ^ l.length+b5 l:=by
 show l.foldl _ (0 * 2+b)=_
 rw [gB];simp
theorem j4:∀ {l:List Int},Bits l→0≤b5 l∧b5 l < 2 ^ l.length
 | [],_=>by decide
 | b :: l,h=>by
  obtain ⟨h1,h2⟩:=j4 h.tail
  rw [dL,List.length_cons,Int.pow_succ]
  rcases h.head with e | e <;> subst e <;> omega
theorem gX (n:Int):∀ k:Nat,b5 (ar n k)=n % 2 ^ k
 | 0=>by simp [ar,b5]
 | k+1=>by
  rw [ar,dL,aw,gX n k,Int.pow_succ]
  have hp:(0:Int) < 2 ^ k:=Int.pow_pos (by decide)
  generalize (2:Int) ^ k=p at *
  have h1:=Int.mul_ediv_add_emod n p
  have h2:=Int.mul_ediv_add_emod (n / p) 2
  have h3:0≤n / p % 2∧n / p % 2 < 2:=by omega
  have h4:=Int.emod_nonneg n (show p≠0 by omega)
  have h5:=Int.emod_lt_of_pos n hp
  generalize n % p=r at *
  generalize n / p=q at *
  generalize he:q % 2=b at *
  generalize q / 2=c at *
  have e:n=(p * 2) * c+(b * p+r):=by
   rw [← h1,← h2]
   rw [Int.mul_add,Int.mul_assoc,Int.add_assoc]
   congr 1
   rw [Int.mul_comm p b]
  have hb:b * p+r < p * 2:=by
   have:b=0∨b=1:=by omega
   rcases this with rfl | rfl <;> omega
  have hb0:0≤b * p+r:=by
   have:b=0∨b=1:=by omega
   rcases this with rfl | rfl <;> omega
  rw [e,Int.mul_add_emod_self_left]
  exact (Int.emod_eq_of_lt hb0 hb).symm
theorem aW {n:Int} {k:Nat} (h0:0≤n) (h1:n < 2 ^ k):b5 (ar n k)=n:=by
 rw [gX];exact Int.emod_eq_of_lt h0 h1
def hI (w:List Int):List Int:=w.drop (w.length - 5)
def due (w:List Int):Bool:=hI w == [0,0,0,0,0] || hI w == [1,1,1,1,1]
def aX (w:List Int) (b:Int):List Int:=if due (w++[b])=true then w++[b]++[1 - b] else w++[b]
def bi (l:List Int):List Int:=l.foldl aX []
theorem dM (l:List Int) (b:Int):bi (l++[b])=aX (bi l) b:=by
 unfold bi;rw [List.foldl_append];rfl
def oU:List Int→Nat
 | []=>0
 | [_]=>1
 | x :: y :: r=>if x=y then oU (y :: r)+1 else 1
def run (w:List Int):Nat:=oU w.reverse
theorem fQ (w:List Int) (b:Int):run (w++[b])=if w.getLast? = some b then run w+1 else 1:=by
 unfold run
 rw [List.reverse_append]
 show oU (b :: w.reverse)=_
 rw [← List.head?_reverse]
 cases h:w.reverse with
 | nil=>simp [oU]
 | cons y r=>
  by_cases e:b=y
  ·subst e
   rw [if_pos (show (b :: r).head? = some b from rfl)]
   simp [oU]
  ·rw [if_neg (show ¬ (y :: r).head? = some b from fun h=>e (Option.some.inj h).symm)]
   simp [oU,e]
theorem qF:∀ (n:Nat) (r:List Int) (x:Int),n+1≤oU (x :: r)↔∃ t,r=List.replicate n x++t
 | 0,r,x=>by
  constructor
  ·intro _;exact ⟨r,by simp⟩
  ·intro _
   cases r with
   | nil=>simp [oU]
   | cons y r=>simp only [oU];split <;> omega
 | n+1,[],x=>by simp [oU,List.replicate_succ]
 | n+1,y :: r,x=>by
  simp only [oU]
  by_cases e:x=y
  ·subst e
   rw [if_pos rfl,Nat.succ_le_succ_iff,qF n r x]
   simp [List.replicate_succ]
  ·rw [if_neg e]
   constructor
   ·intro h;omega
   ·rintro ⟨t,h⟩
    rw [List.replicate_succ,List.cons_append] at h
    injection h with h1 _
    exact absurd h1.symm e
theorem qG (w:List Int):hI w=(w.reverse.take 5).reverse:=by
 unfold hI
 rw [List.take_reverse,List.reverse_reverse]
theorem j5 {w:List Int} (h:Bits w):due w=true↔5≤run w:=by
 unfold due run
 rw [qG]
 have hb:Bits w.reverse:=fun b hb=>h b (List.mem_reverse.mp hb)
 generalize w.reverse=r at *
 simp only [Bool.or_eq_true,beq_iff_eq]
 have sym:∀ x:Int,(r.take 5).reverse=[x,x,x,x,x]↔r.take 5=[x,x,x,x,x]:=fun x=>by
  constructor
  ·intro e;have:=congrArg List.reverse e;simpa using this
  ·intro e;rw [e];rfl
 rw [sym,sym]
 cases r with
 | nil=>simp [oU]
 | cons x r=>
  rw [qF 4 r x]
  constructor
  ·rintro (e | e)
   all_goals
    rw [List.take_succ_cons] at e
    injection e with e1 e2
    subst e1
    refine ⟨r.drop 4,?_⟩
    have:=List.take_append_drop 4 r
    rw [e2] at this
    exact this.symm
  ·rintro ⟨t,rfl⟩
   rcases hb.head with e | e <;> subst e
   ·exact .inl rfl
   ·exact .inr rfl
theorem jd {w:List Int} {b:Int} (h:Bits w) (hb:Bit b):Bits (aX w b):=by
 have h1:Bits (w++[b]):=h.append (Bits.cons hb Bits.nil)
 unfold aX
 split
 ·exact h1.append (Bits.cons (by rcases hb with e | e <;> subst e <;> simp [Bit]) Bits.nil)
 ·exact h1
theorem gC:∀ {l:List Int},Bits l→Bits (bi l):=by
 intro l
 suffices ∀ (l w:List Int),Bits w→Bits l→Bits (l.foldl aX w) from fun h=>this l [] Bits.nil h
 intro l
 induction l with
 | nil=>intro w h _;exact h
 | cons b l ih=>intro w h hl;exact ih _ (jd h hl.head) hl.tail
theorem j6 {w:List Int} {b:Int} (h:Bits w) (hb:Bit b) (hr:run w≤4):run (aX w b)≤4:=by
 have h1:Bits (w++[b]):=h.append (Bits.cons hb Bits.nil)
 unfold aX
 split
 ·rw [fQ,if_neg (by simp;omega)];decide
 ·rename_i hd
  have:=mt (j5 h1).mpr hd
  omega
theorem dN {α:Type} (l:List α):l=[]∨∃ m b,l=m++[b]:=by
 rcases List.eq_nil_or_concat l with h | ⟨m,b,h⟩
 ·exact .inl h
 ·exact .inr ⟨m,b,by simpa using h⟩
theorem qH {α:Type} {P:List α→Prop} (h0:P []) (h1:∀ l b,P l→P (l++[b])):∀ l,P l:=by
 intro l
 have:∀ n (l:List α),l.length=n→P l:=by
  intro n
  induction n with
  | zero=>intro l e;rw [List.length_eq_zero_iff.mp e];exact h0
  | succ n ih=>
   intro l e
   rcases dN l with rfl | ⟨m,b,rfl⟩
   ·simp at e
   ·exact h1 m b (ih m (by simpa using e))
 exact this _ l rfl
theorem Bits.left {l m:List Int} (h:Bits (l++m)):Bits l:=fun b hb=>h b (List.mem_append_left _ hb)
theorem Bits.right {l m:List Int} (h:Bits (l++m)):Bits m:=fun b hb=>h b (List.mem_append_right _ hb)
theorem qI:∀ {l:List Int},Bits l→run (bi l)≤4:=by
 intro l
 refine qH (P:=fun l=>Bits l→run (bi l)≤4) (fun _=>by decide) (fun l b ih h => ?_) l
 rw [dM]
 exact j6 (gC h.left) h.right.head (ih h.left)
theorem gY {l:List Int} (h:Bits l):due (bi l)=false:=by
 have h1:=qI h
 have h2:=j5 (gC h)
 cases e:due (bi l) with
 | false=>rfl
 | true=>have:=h2.mp e;omega
def A8 (w:List Int):Prop:=4 < w.length∧(∃ x,hI w=[x,x,x,x,x])∧run w % 5=0
def BV (w:List Int):Prop:=∀ k x,k+6≤w.length→(w.drop k).take 6≠[x,x,x,x,x,x]
theorem iM:∀ (l:List Int),(bi l).length≤2 * l.length:=by
 intro l
 refine qH (P:=fun l=>(bi l).length≤2 * l.length) (by simp [bi]) (fun l b ih => ?_) l
 rw [dM]
 unfold aX
 split <;> simp <;> omega
end BB
namespace BB
def be (row:List Int):List Int:=row.flatMap fun b=>ar b 8
def body (name:Int) (row:List Int):List Int:=[0]++ar name 11++ar (row.length:Int) 4++be row
def aG (name:Int) (row:List Int):List Int:=body name row++chk (body name row)
def eE (name:Int) (row:List Int):Prop:=(0≤name∧name≤2047)∧row.length≤8∧∀ b∈row,0≤b∧b≤255
theorem eM:∀ row:List Int,(be row).length=8 * row.length
 | []=>rfl
 | b :: r=>by
  show (ar b 8++be r).length=_
  rw [List.length_append,aw,eM r,List.length_cons];omega
theorem gZ:∀ row:List Int,Bits (be row)
 | []=>Bits.nil
 | b :: r=>(bL b 8).append (gZ r)
theorem lb (name:Int) (row:List Int):Bits (body name row):=
 (((Bits.cons (.inl rfl) Bits.nil).append (bL _ _)).append (bL _ _)).append (gZ _)
theorem fR (name:Int) (row:List Int):(body name row).length=16+8 * row.length:=by
 unfold body;simp [aw,eM];omega
theorem eN (name:Int) (row:List Int):Bits (aG name row):=(lb name row).append (tF _)
theorem b8 (name:Int) (row:List Int):(aG name row).length=31+8 * row.length:=by
 unfold aG;rw [List.length_append,fR,dj];omega
def cnt (p:List Int):Int:=8 * p.getD 12 0+4 * p.getD 13 0+2 * p.getD 14 0+p.getD 15 0
def bh (p:List Int):Nat:=(16+8 * cnt p).toNat
structure Fits (p:List Int):Prop where
 h0:p.getD 0 0=0
 h8:cnt p≤8
 ck:bh p < p.length→p.drop (bh p)=(chk (p.take (bh p))).take (p.length - bh p)
theorem aM {p:List Int} (h:Bits p) (i:Nat):Bit (p.getD i 0):=by
 rw [List.getD_eq_getElem?_getD]
 cases e:p[i]? with
 | none=>exact .inl rfl
 | some x=>exact h x (List.mem_of_getElem? e)
theorem qJ {p:List Int} (h:Bits p):0≤cnt p:=by
 unfold cnt
 rcases aM h 12 with a | a <;> rcases aM h 13 with b | b <;> rcases aM h 14 with c | c <;> rcases aM h 15 with d | d <;> omega
theorem Fits.len {p:List Int} (f:Fits p):p.length≤bh p+15:=by
 by_cases h:bh p < p.length
 ·have:=congrArg List.length (f.ck h)
  rw [List.length_drop,List.length_take,dj] at this
  omega
 ·omega
def cH (p:List Int):List Int:=if p.length=0 then [0] else if 12 < p.length∧p.getD 12 0=1 then [0] else [0,1]
def bv (p:List Int):List Int:=
 if p.length < 16 then cH p else if p.length < bh p then [0,1] else if p.length=bh p+15 then []
 else [(chk (p.take (bh p))).getD (p.length - bh p) 0]
theorem yP {p:List Int} (h:16≤p.length):b5 ((p.drop 12).take 4)=cnt p:=by
 have e:(p.drop 12).take 4=[p.getD 12 0,p.getD 13 0,p.getD 14 0,p.getD 15 0]:=by
  match p,h with
  | _ :: _ :: _ :: _ :: _ :: _ :: _ :: _ :: _ :: _ :: _ :: _ :: a :: b :: c :: d :: r,_=>rfl
 rw [e]
 unfold cnt b5
 simp only [List.foldl_cons,List.foldl_nil]
 omega
theorem aQ {p:List Int} {b:Int} {i:Nat} (h:i < p.length):(p++[b]).getD i 0=p.getD i 0:=by
 simp [List.getD_eq_getElem?_getD,List.getElem?_append_left h]
theorem bS {p:List Int} {b:Int}:(p++[b]).getD p.length 0=b:=by
 simp [List.getD_eq_getElem?_getD]
theorem cQ {p:List Int} {i:Nat} (h:p.length≤i):p.getD i 0=0:=by
 simp [List.getD_eq_getElem?_getD,List.getElem?_eq_none h]
theorem nH {p:List Int} {b:Int} (h:16≤p.length):cnt (p++[b])=cnt p:=by
 unfold cnt
 rw [aQ (by omega),aQ (by omega),aQ (by omega),aQ (by omega)]
theorem vY {p:List Int} {b:Int} (h:16≤p.length):bh (p++[b])=bh p:=by
 unfold bh;rw [nH h]
theorem vZ {p:List Int} (h:Bits p):16≤bh p:=by
 have:=qJ h
 unfold bh;omega
theorem lc {p:List Int} {b:Int} (hp:Bits p) (hb:Bit b) (f:Fits p) (hend:¬ (16≤p.length∧p.length=bh p+15)) :
  b∈bv p↔Fits (p++[b]):=by
 have hq:Bits (p++[b]):=hp.append (Bits.cons hb Bits.nil)
 have hbm:b∈([0,1]:List Int):=by rcases hb with e | e <;> subst e <;> simp
 unfold bv
 by_cases h16:p.length < 16
 ·rw [if_pos h16]
  have noCk:∀ (h8:cnt (p++[b])≤8),(bh (p++[b]) < (p++[b]).length→(p++[b]).drop (bh (p++[b]))=(chk ((p++[b]).take (bh (p++[b])))).take ((p++[b]).length - bh (p++[b]))):=fun _ hlt=>by
   have:=vZ hq
   rw [List.length_append,List.length_singleton] at hlt
   omega
  unfold cH
  by_cases h0:p.length=0
  ·rw [if_pos h0]
   have e:p=[]:=List.length_eq_zero_iff.mp h0
   subst e
   constructor
   ·intro h
    have:b=0:=by simpa using h
    subst this
    exact ⟨rfl,by decide,noCk (by decide)⟩
   ·intro g
    have:=g.h0
    simpa using this
  ·rw [if_neg h0]
   have g0:(p++[b]).getD 0 0=0:=by rw [aQ (by omega)];exact f.h0
   have f8:=f.h8
   by_cases hc:12 < p.length∧p.getD 12 0=1
   ·rw [if_pos hc]
    obtain ⟨h12,h1⟩:=hc
    have c12:(p++[b]).getD 12 0=1:=by rw [aQ (by omega)];exact h1
    have cn:cnt (p++[b])≤8↔b=0:=by
     unfold cnt at f8 ⊢
     rw [c12]
     rw [h1] at f8
     have b13:=aM hp 13
     have b14:=aM hp 14
     have b15:=aM hp 15
     have z13:p.getD 13 0=0:=by rcases b13 with e | e <;> rcases b14 with e' | e' <;> rcases b15 with e'' | e'' <;> omega
     have z14:p.getD 14 0=0:=by rcases b14 with e' | e' <;> rcases b15 with e'' | e'' <;> omega
     have hl:p.length=13∨p.length=14∨p.length=15:=by omega
     rcases hl with hl | hl | hl
     ·have e13:(p++[b]).getD 13 0=b:=by rw [← hl];exact bS
      rw [e13,cQ (by simp;omega),cQ (by simp;omega)]
      rcases hb with e | e <;> subst e <;> simp
     ·have e14:(p++[b]).getD 14 0=b:=by rw [← hl];exact bS
      rw [e14,aQ (by omega),z13,cQ (by simp;omega)]
      rcases hb with e | e <;> subst e <;> simp
     ·have e15:(p++[b]).getD 15 0=b:=by rw [← hl];exact bS
      rw [e15,aQ (by omega),z13,aQ (by omega),z14]
      rcases hb with e | e <;> subst e <;> simp
    constructor
    ·intro h
     have:b=0:=by simpa using h
     have h8:=cn.mpr this
     exact ⟨g0,h8,noCk h8⟩
    ·intro g
     have:=cn.mp g.h8
     simp [this]
   ·rw [if_neg hc]
    refine ⟨fun _ => ?_,fun _=>hbm⟩
    have h8:cnt (p++[b])≤8:=by
     unfold cnt
     by_cases h12:12 < p.length
     ·have z:p.getD 12 0=0:=by
       rcases aM hp 12 with e | e
       ·exact e
       ·exact absurd ⟨h12,e⟩ hc
      rw [aQ h12,z]
      rcases aM hq 13 with e | e <;> rcases aM hq 14 with e' | e' <;> rcases aM hq 15 with e'' | e'' <;> omega
     ·rw [cQ (i:=13) (by simp;omega),cQ (i:=14) (by simp;omega),cQ (i:=15) (by simp;omega)]
      rcases aM hq 12 with e | e <;> omega
    exact ⟨g0,h8,noCk h8⟩
 ·rw [if_neg h16]
  have hge:16≤p.length:=by omega
  have ea:=vY (b:=b) hge
  have g0:(p++[b]).getD 0 0=0:=by rw [aQ (by omega)];exact f.h0
  have g8:cnt (p++[b])≤8:=by rw [nH hge];exact f.h8
  by_cases hlt:p.length < bh p
  ·rw [if_pos hlt]
   refine ⟨fun _=>⟨g0,g8,fun h => ?_⟩,fun _=>hbm⟩
   rw [ea,List.length_append,List.length_singleton] at h
   omega
  ·rw [if_neg hlt,if_neg (fun e=>hend ⟨hge,e⟩)]
   have hl:=f.len
   have hl':p.length < bh p+15:=by
    rcases Nat.lt_or_ge p.length (bh p+15) with h | h
    ·exact h
    ·exact absurd ⟨hge,by omega⟩ hend
   have et:(p++[b]).take (bh p)=p.take (bh p):=List.take_append_of_le_length (by omega)
   have ed:(p++[b]).drop (bh p)=p.drop (bh p)++[b]:=List.drop_append_of_le_length (by omega)
   have ck:p.drop (bh p)=(chk (p.take (bh p))).take (p.length - bh p):=by
    by_cases h:bh p < p.length
    ·exact f.ck h
    ·have:p.length=bh p:=by omega
     rw [List.drop_of_length_le (by omega),this];simp
   have hi:p.length - bh p < (chk (p.take (bh p))).length:=by rw [dj];omega
   have key:(chk (p.take (bh p))).take (p.length+1 - bh p)=p.drop (bh p)++[(chk (p.take (bh p))).getD (p.length - bh p) 0]:=by
    rw [show p.length+1 - bh p=(p.length - bh p)+1 by omega,List.take_succ_eq_append_getElem hi,← ck]
    simp [List.getD_eq_getElem?_getD,List.getElem?_eq_getElem hi]
   constructor
   ·intro h
    have e:b=(chk (p.take (bh p))).getD (p.length - bh p) 0:=by simpa using h
    refine ⟨g0,g8,fun _ => ?_⟩
    rw [ea,et,ed,List.length_append,List.length_singleton,key,← e]
   ·intro g
    have h1:=g.ck (by rw [ea,List.length_append,List.length_singleton];omega)
    rw [ea,et,ed,List.length_append,List.length_singleton,key] at h1
    have h2:=List.append_cancel_left h1
    exact List.mem_singleton.mpr (List.head_eq_of_cons_eq h2)
theorem lg {p:List Int} (hp:Bits p):bv p=[]↔16≤p.length∧p.length=bh p+15:=by
 have:=vZ hp
 unfold bv cH
 constructor
 ·intro h
  by_cases h16:p.length < 16
  ·rw [if_pos h16] at h
   split at h
   ·cases h
   ·split at h <;> cases h
  ·rw [if_neg h16] at h
   split at h
   ·cases h
   ·split at h
    ·exact ⟨by omega,by assumption⟩
    ·cases h
 ·rintro ⟨h1,h2⟩
  rw [if_neg (by omega),if_neg (by omega),if_pos h2]
def ak (w p:List Int):List Int:=if due w=true then [1 - w.getLastD 0] else bv p
def iN (s:List Int×Int×Int) (b:Int):List Int×Int×Int:=
 if s.2.1=5 then (s.1,1,b) else (s.1++[b],if s.2.2=b then s.2.1+1 else 1,b)
def LP (w:List Int):List Int×Int×Int:=w.foldl iN ([],0,2)
theorem qK (w:List Int) (b:Int):LP (w++[b])=iN (LP w) b:=by
 unfold LP;rw [List.foldl_append];rfl
structure Rd (w p:List Int):Prop where
 bw:Bits w
 bp:Bits p
 st:bi p=if due w=true then w++[1 - w.getLastD 0] else w
 fit:Fits p
 lp:LP w=(p,(run w:Int),w.getLastD 2)
 r5:run w≤5
theorem tG:Fits []:=⟨rfl,by decide,fun h=>by simp at h⟩
theorem cS:Rd [] []:=⟨Bits.nil,Bits.nil,rfl,tG,rfl,by decide⟩
theorem fT {w:List Int} {b d:Int}:(w++[b]).getLastD d=b:=by simp
theorem Rd.d5 {w p:List Int} (r:Rd w p):due w=true↔run w=5:=by
 rw [j5 r.bw];have:=r.r5;omega
theorem nI {w:List Int} {b:Int} (hb:Bit b):w.getLastD 2=b↔w.getLast? = some b:=by
 rcases dN w with rfl | ⟨m,c,rfl⟩
 ·simp;rcases hb with e | e <;> subst e <;> decide
 ·simp
def bz (w p:List Int) (b:Int):List Int:=if due w=true then p else p++[b]
theorem Rd.fin {w p:List Int} (r:Rd w p):ak w p=[]↔due w=false∧16≤p.length∧p.length=bh p+15:=by
 unfold ak
 cases e:due w with
 | true=>simp
 | false=>simp [lg r.bp]
theorem Rd.next {w p:List Int} {b:Int} (r:Rd w p) (hb:Bit b) (hc:b∈ak w p):Rd (w++[b]) (bz w p b):=by
 have hw:Bits (w++[b]):=r.bw.append (Bits.cons hb Bits.nil)
 unfold ak at hc
 unfold bz
 cases e:due w with
 | true=>
  rw [e] at hc
  simp only [if_true] at hc ⊢
  have hne:w≠[]:=by rintro rfl;cases e
  obtain ⟨m,c,rfl⟩:∃ m c,w=m++[c]:=(dN w).resolve_left hne
  have hbc:b=1 - c:=by simpa using hc
  have h5:=r.d5.mp e
  have hrun:run (m++[c]++[b])=1:=by
   rw [fQ,if_neg (by simp;omega)]
  have nd:due (m++[c]++[b])=false:=by
   cases z:due (m++[c]++[b]) with
   | false=>rfl
   | true=>have:=(j5 hw).mp z;omega
  refine ⟨hw,r.bp,?_,r.fit,?_,by omega⟩
  ·rw [nd,r.st,e,hbc];simp
  ·rw [qK,r.lp,h5,hrun]
   simp [iN]
 | false=>
  rw [e] at hc
  simp only [Bool.false_eq_true,if_false] at hc ⊢
  have hne:¬ (16≤p.length∧p.length=bh p+15):=fun z=>by
   rw [(lg r.bp).mpr z] at hc;cases hc
  have h5:run w≠5:=fun z=>by rw [r.d5.mpr z] at e;cases e
  have hr:=r.r5
  refine ⟨hw,r.bp.append (Bits.cons hb Bits.nil),?_,(lc r.bp hb r.fit hne).mp hc,?_,?_⟩
  ·rw [dM,r.st,e]
   simp only [Bool.false_eq_true,if_false]
   unfold aX
   split <;> simp
  ·rw [qK,r.lp,fQ]
   unfold iN
   simp only
   rw [if_neg (by omega),fT]
   by_cases hl:w.getLast? = some b
   ·rw [if_pos hl,if_pos ((nI hb).mpr hl)];simp
   ·rw [if_neg hl,if_neg (fun z=>hl ((nI hb).mp z))];simp
  ·rw [fQ];split <;> omega
def Ends (w:List Int):Prop:=¬ ((LP w).1.length < 31∨(LP w).2.1=5)∧((LP w).1.length:Int)=31+8 * cnt (LP w).1
def A9 (w:List Int) (b:Int):Prop:=¬ (w≠[]∧(Ends w∨((LP w).2.1=5∧b=w.getLastD 0)))∧Fits (LP (w++[b])).1
def dk (p:List Int):Int:=b5 ((p.drop 1).take 11)
def je (p:List Int):List Int:=(List.range (cnt p).toNat).map fun j=>b5 ((p.drop (16+8 * j)).take 8)
theorem dm {name:Int} {row:List Int} (g:eE name row):cnt (aG name row)=row.length:=by
 have hl:=b8 name row
 rw [← yP (by omega)]
 have:((aG name row).drop 12).take 4=ar (row.length:Int) 4:=by
  unfold aG body
  simp only [List.append_assoc]
  rw [← List.append_assoc [0],List.drop_append_of_le_length (by simp [aw]),List.drop_of_length_le (by simp [aw]),List.nil_append,
   List.take_append_of_le_length (by simp [aw]),List.take_of_length_le (by simp [aw])]
 rw [this,aW (by omega) (by have:=g.2.1;omega)]
theorem lh {name:Int} {row:List Int} (g:eE name row):bh (aG name row)=16+8 * row.length:=by
 unfold bh;rw [dm g];omega
theorem qL {P:List Int} (hP:Bits P) (f:Fits P) (h16:16≤P.length):∀ k,Fits (P.take k):=by
 intro k
 by_cases hk:P.length≤k
 ·rw [List.take_of_length_le hk];exact f
 have hk':k < P.length:=by omega
 have hlen:(P.take k).length=k:=by simp;omega
 have gd:∀ i,(P.take k).getD i 0=if i < k then P.getD i 0 else 0:=fun i=>by
  by_cases h:i < k
  ·rw [if_pos h];simp [List.getD_eq_getElem?_getD,h]
  ·rw [if_neg h,cQ (by omega)]
 have c0:=f.h8
 have hc:cnt (P.take k)≤cnt P:=by
  unfold cnt
  rw [gd,gd,gd,gd]
  rcases aM hP 12 with a | a <;> rcases aM hP 13 with b | b <;> rcases aM hP 14 with c | c <;> rcases aM hP 15 with d | d <;> rw [a,b,c,d] <;> (repeat' split) <;> omega
 refine ⟨?_,by omega,fun hlt => ?_⟩
 ·rw [gd];split
  ·exact f.h0
  ·rfl
 ·rw [hlen] at hlt ⊢
  have h16':=vZ (hP.take k)
  have ec:cnt (P.take k)=cnt P:=by
   unfold cnt
   rw [gd,gd,gd,gd,if_pos (by omega),if_pos (by omega),if_pos (by omega),if_pos (by omega)]
  have ea:bh (P.take k)=bh P:=by unfold bh;rw [ec]
  rw [ea] at hlt ⊢
  have:=f.ck (by omega)
  rw [List.take_take,show min (bh P) k=bh P by omega,List.drop_take,this,List.take_take]
  congr 1;omega
theorem ml {name:Int} {row:List Int} (g:eE name row):Fits (aG name row):=by
 have ha:=lh g
 have hl:=b8 name row
 refine ⟨rfl,by rw [dm g];have:=g.2.1;omega,fun _ => ?_⟩
 rw [ha,hl]
 unfold aG
 rw [List.drop_left' (by rw [fR]),List.take_left' (by rw [fR]),List.take_of_length_le (by rw [dj];omega)]
inductive Way:List Int→List Int→List Int→List Int→Prop
 | nil (w p:List Int):Way w p [] p
 | cons {w p r q:List Int} {b:Int}:b∈ak w p→Way (w++[b]) (bz w p b) r q→Way w p (b :: r) q
theorem Way.snoc {w p r q:List Int} {b:Int} (h:Way w p r q) (hb:b∈ak (w++r) q):Way w p (r++[b]) (bz (w++r) q b):=by
 induction h with
 | nil w p=>rw [List.append_nil] at hb ⊢;exact .cons hb (.nil _ _)
 | cons h1 h2 ih=>
  rw [List.append_assoc] at ih
  exact .cons h1 (ih (by simpa using hb))
theorem Way.rd {w p r q:List Int} (h:Way w p r q) (hr:Bits r) (x:Rd w p):Rd (w++r) q:=by
 induction h with
 | nil w p=>rw [List.append_nil];exact x
 | cons h1 h2 ih=>
  have:=ih hr.tail (x.next hr.head h1)
  rwa [List.append_assoc] at this
theorem uk {P:List Int} (hP:Bits P) (f:Fits P) (h16:16≤P.length):∀ k,k≤P.length→Way [] [] (bi (P.take k)) (P.take k)∧Rd (bi (P.take k)) (P.take k)
 | 0,_=>⟨.nil _ _,cS⟩
 | k+1,hk=>by
  obtain ⟨h,r⟩:=uk hP f h16 k (by omega)
  have e:P.take (k+1)=P.take k++[P[k]]:=List.take_succ_eq_append_getElem (by omega)
  have hbit:Bit P[k]:=hP _ (List.getElem_mem _)
  have nd:=gY (hP.take k)
  have hlen:(P.take k).length=k:=by simp;omega
  have hne:¬ (16≤(P.take k).length∧(P.take k).length=bh (P.take k)+15):=by
   rintro ⟨h1,h2⟩
   have ec:cnt (P.take k)=cnt P:=by
    rw [← yP h1,← yP h16,List.drop_take,List.take_take,show min 4 (k - 12)=4 by omega]
   have ea:bh (P.take k)=bh P:=by unfold bh;rw [ec]
   have:=f.len
   rw [ea] at h2
   omega
  have hin:P[k]∈ak (bi (P.take k)) (P.take k):=by
   unfold ak
   rw [nd]
   simp only [Bool.false_eq_true,if_false]
   refine (lc (hP.take k) hbit r.fit hne).mpr ?_
   rw [← e];exact qL hP f h16 (k+1)
  have h1:=h.snoc (b:=P[k]) (by simpa using hin)
  have r1:=r.next hbit hin
  have en:bz (bi (P.take k)) (P.take k) P[k]=P.take (k+1):=by unfold bz;rw [nd,e];rfl
  simp only [List.nil_append] at h1
  rw [en] at h1 r1
  have es:bi (P.take (k+1))=aX (bi (P.take k)) P[k]:=by rw [e,dM]
  rw [es]
  unfold aX
  by_cases hd:due (bi (P.take k)++[P[k]])=true
  ·rw [if_pos hd]
   have hin2:1 - P[k]∈ak (bi (P.take k)++[P[k]]) (P.take (k+1)):=by
    unfold ak;rw [if_pos hd];simp
   have hb2:Bit (1 - P[k]):=by rcases hbit with z | z <;> rw [z] <;> simp [Bit]
   have h2:=h1.snoc (b:=1 - P[k]) (by simpa using hin2)
   have r2:=r1.next hb2 hin2
   have en2:bz (bi (P.take k)++[P[k]]) (P.take (k+1)) (1 - P[k])=P.take (k+1):=by unfold bz;rw [if_pos hd]
   simp only [List.nil_append] at h2
   rw [en2] at h2 r2
   exact ⟨h2,r2⟩
  ·rw [if_neg hd]
   exact ⟨h1,r1⟩
theorem jD {name:Int} {row:List Int} (g:eE name row):dk (aG name row)=name∧je (aG name row)=row:=by
 have hc:=dm g
 constructor
 ·unfold dk aG body
  have:((([0]++ar name 11++ar (row.length:Int) 4++be row)++chk ([0]++ar name 11++ar (row.length:Int) 4++be row)).drop 1).take 11=ar name 11:=by
   simp only [List.append_assoc]
   rw [List.drop_append_of_le_length (by simp),List.drop_of_length_le (by simp),List.nil_append,List.take_append_of_le_length (by simp [aw]),List.take_of_length_le (by simp [aw])]
  rw [this]
  exact aW g.1.1 (by have:=g.1.2;omega)
 ·unfold je
  rw [hc]
  have hd:∀ (m:Nat),(aG name row).drop (16+m)=(be row++chk (body name row)).drop m:=fun m=>by
   have e:aG name row=([0]++ar name 11++ar (row.length:Int) 4)++(be row++chk (body name row)):=by
    unfold aG
    rw [← List.append_assoc]
    rfl
   rw [e,← List.drop_drop,List.drop_left' (by simp [aw])]
  have gen:∀ (r t:List Int),(∀ b∈r,0≤b∧b≤255)→(List.range r.length).map (fun j=>b5 (((be r++t).drop (8 * j)).take 8))=r:=by
   intro r t
   induction r with
   | nil=>intro _;rfl
   | cons b r ih=>
    intro hr
    rw [List.length_cons,List.range_succ_eq_map,List.map_cons,List.map_map]
    have e0:be (b :: r)++t=ar b 8++(be r++t):=by
     show (ar b 8++be r)++t=_
     rw [List.append_assoc]
    congr 1
    ·rw [e0,Nat.mul_zero,List.drop_zero,List.take_append_of_le_length (by simp [aw]),List.take_of_length_le (by simp [aw])]
     have:=hr b List.mem_cons_self
     exact aW this.1 (by omega)
    ·have:=ih fun c hc=>hr c (List.mem_cons_of_mem _ hc)
     rw [← this]
     rw [List.length_map,List.length_range]
     apply List.map_congr_left
     intro j _
     rw [this]
     show b5 (((be (b :: r)++t).drop (8 * (j+1))).take 8)=_
     rw [e0,show 8 * (j+1)=8+8 * j by omega,← List.drop_drop,List.drop_left' (by simp [aw])]
  rw [Int.toNat_natCast]
  have:=gen row (chk (body name row)) g.2.2
  rw [← this]
  rw [List.length_map,List.length_range]
  apply List.map_congr_left
  intro j _
  rw [this,hd]
theorem li {name:Int} {row:List Int} (g:eE name row):Way [] [] (bi (aG name row)) (aG name row)∧ak (bi (aG name row)) (aG name row)=[]∧Rd (bi (aG name row)) (aG name row):=by
 have hl:=b8 name row
 have hP:=eN name row
 obtain ⟨h,r⟩:=uk hP (ml g) (by omega) (aG name row).length (Nat.le_refl _)
 rw [List.take_of_length_le (Nat.le_refl _)] at h r
 refine ⟨h,r.fin.mpr ⟨gY hP,by omega,?_⟩,r⟩
 rw [lh g];omega
end BB
namespace BB
inductive Md where
 | free | frame | cry | dazed | rest
 deriving DecidableEq
abbrev Fr:=Int×List Int
structure Nd where
 st:Md
 ps:Nat
 ws:List Int
 pl:List Int
 sn:Option (List Int)
 qu:List Fr
 tk:List Fr
 fc:Nat
def Nd.new:Nd:=⟨.free,0,[],[],none,[],[],0⟩
def av (f:Fr):List Int:=bi (aG f.1 f.2)
namespace Nd
def Ba (d:Nd) (s:Md):Nd:={d with st:=s,ps:=0}
def passOne (d:Nd) (k:Nat) (s:Md):Nd:=if d.ps+1=k then {d with st:=s,ps:=0} else {d with ps:=d.ps+1}
def cryOut (d:Nd):Nd:={d with st := .cry,ps:=0,fc:=d.fc+1}
def enter (d:Nd) (sn:Option (List Int)):Nd:={d with st := .frame,ps:=0,ws:=[],pl:=[],sn:=sn}
def begin (d:Nd):Nd:=if d.st = .free then (match d.qu with | []=>d | f :: _=>d.enter (some (av f))) else d
def over (d:Nd):Bool:=decide (ak d.ws d.pl=[])
def due (d:Nd) (s:List Int):Int:=s.getD d.ws.length 0
def putFrame (d:Nd):Int:=if d.over then (if d.ps=1∧d.sn=none then 0 else 1) else (match d.sn with | none=>1 | some s=>d.due s)
def put (d:Nd):Int:=match d.st with
 | .cry=>0
 | .frame=>d.putFrame
 | _=>1
def hears (d:Nd) (b:Int):Bool:=match d.sn with
 | none=>false
 | some s => !decide (b=d.due s)
def atName (d:Nd):Bool := !BB.due d.ws && decide (1≤d.pl.length) && decide (d.pl.length < 12)
def giveWay (d:Nd) (b:Int):Nd:=if d.hears b && decide (b=0) && d.atName then {d with sn:=none} else d
def take (d:Nd) (b:Int):Nd:={d with ws:=d.ws++[b],pl:=bz d.ws d.pl b}
def hearStuffed (d:Nd) (b:Int):Nd:=if (d.giveWay b).hears b || !decide (b∈ak d.ws d.pl) then (d.giveWay b).cryOut else (d.giveWay b).take b
def wrong (d:Nd) (b:Int):Bool:=if d.ps=1 then decide (b=1) && d.sn.isSome else decide (b=0)
def dropName (n:Int) (q:List Fr):List Fr:=q.eraseIdx ((q.map (·.1)).idxOf n)
def endFrame (d:Nd):Nd:=match d.sn with
 | none=>{d with st := .rest,ps:=0,tk:=d.tk++[(dk d.pl,je d.pl)]}
 | some _=>{d with st := .rest,ps:=0,qu:=dropName (dk d.pl) d.qu}
def hearBehind (d:Nd) (b:Int):Nd:=if d.wrong b then d.cryOut else if d.ps+1=10 then ({d with ps:=d.ps+1}:Nd).endFrame else {d with ps:=d.ps+1}
def hearFrame (d:Nd) (b:Int):Nd:=if d.over then d.hearBehind b else d.hearStuffed b
def hearDazed (d:Nd) (b:Int):Nd:=if b=0 then {d with ps:=0} else d.passOne 8 .rest
def hearBetween (d:Nd) (b:Int):Nd:=if b=0 then (d.enter none).hearFrame b else if d.st = .rest then d.passOne 3 .free else d
def hear (d:Nd) (b:Int):Nd:=match d.st with
 | .frame=>d.hearFrame b
 | .cry=>d.passOne 6 .dazed
 | .dazed=>d.hearDazed b
 | _=>d.hearBetween b
def spot (n:Int):List Fr→Nat
 | []=>0
 | f :: q=>if f.1≤n then spot n q+1 else 0
def letWait (d:Nd) (f:Fr):Nd:={d with qu:=d.qu.take (spot f.1 d.qu)++f :: d.qu.drop (spot f.1 d.qu)}
end Nd
structure NdOk (d:Nd):Prop where
 rd:Rd d.ws d.pl
 qu:∀ f∈d.qu,eE f.1 f.2
 sn:∀ s,d.st = .frame→d.sn=some s→∃ f∈d.qu,s=av f∧d.ws <+: s
theorem NdOk.new:NdOk Nd.new:=⟨cS,fun f h=>by simp [Nd.new] at h,fun s h=>by simp [Nd.new] at h⟩
theorem Rd.uniq {w p q:List Int} (a:Rd w p) (b:Rd w q):p=q:=by
 have h:=a.lp.symm.trans b.lp
 exact (Prod.mk.inj h).1
theorem j7 {f:Fr} (g:eE f.1 f.2):Rd (av f) (aG f.1 f.2)∧ak (av f) (aG f.1 f.2)=[]:=by
 obtain ⟨_,b,c⟩:=li g
 exact ⟨c,b⟩
theorem NdOk.more {d:Nd} (ok:NdOk d) {s:List Int} (h1:d.st = .frame) (h2:d.sn=some s) (h3:d.over=false):d.ws.length < s.length:=by
 obtain ⟨f,hf,rfl,hp⟩:=ok.sn s h1 h2
 obtain ⟨r1,r2⟩:=j7 (ok.qu f hf)
 have hl:=hp.length_le
 rcases Nat.lt_or_ge d.ws.length (av f).length with z | z
 ·exact z
 ·have e:d.ws=av f:=hp.eq_of_length (by omega)
  have r3:=ok.rd
  rw [e] at r3
  have e2:=r3.uniq r1
  unfold Nd.over at h3
  rw [e,e2] at h3
  exact absurd r2 (of_decide_eq_false h3)
theorem qM {w p q:List Int} {b:Int}:∀ {r t:List Int},Way w p (r++b :: t) q→∃ p',Way w p r p'∧b∈ak (w++r) p':=by
 intro r
 induction r generalizing w p with
 | nil=>
  intro t h
  cases h with
  | cons h1 h2=>exact ⟨p,.nil _ _,by rw [List.append_nil];exact h1⟩
 | cons a r ih=>
  intro t h
  cases h with
  | cons h1 h2=>
   obtain ⟨p',a1,a2⟩:=ih h2
   exact ⟨p',.cons h1 a1,by simpa using a2⟩
theorem cI {f:Fr} (g:eE f.1 f.2) {w p:List Int} (r:Rd w p) {b:Int} (h:w++[b] <+: av f):b∈ak w p:=by
 obtain ⟨t,ht⟩:=h
 obtain ⟨a,_,_⟩:=li g
 have a':Way [] [] (w++b :: t) (aG f.1 f.2):=by
  have:w++b :: t=av f:=by rw [← ht];simp
  rw [this]
  exact a
 obtain ⟨p',w1,w2⟩:=qM a'
 have r2:=w1.rd r.bw cS
 rw [List.nil_append] at r2 w2
 rw [r.uniq r2]
 exact w2
theorem cT {w s:List Int} (h:w <+: s) (hl:w.length < s.length):w++[s.getD w.length 0] <+: s:=by
 obtain ⟨t,rfl⟩:=h
 cases t with
 | nil=>simp at hl
 | cons b t=>
  refine ⟨t,?_⟩
  have:(w++b :: t).getD w.length 0=b:=by simp [List.getD_eq_getElem?_getD]
  rw [this]
  simp
theorem NdOk.over_eq {d:Nd} (ok:NdOk d) {f:Fr} (hf:f∈d.qu) (hp:d.ws <+: av f) (h:d.over=true):d.ws=av f∧d.pl=aG f.1 f.2:=by
 have g:=ok.qu f hf
 have e:d.ws=av f:=by
  rcases Nat.lt_or_ge d.ws.length (av f).length with z | z
  ·have h2:=cI g ok.rd (cT hp z)
   unfold Nd.over at h
   rw [of_decide_eq_true h] at h2
   cases h2
  ·exact hp.eq_of_length (by have:=hp.length_le;omega)
 have r3:=ok.rd
 rw [e] at r3
 exact ⟨e,r3.uniq (j7 g).1⟩
theorem NdOk.ps {d:Nd} (ok:NdOk d) (k:Nat):NdOk {d with ps:=k}:=⟨ok.rd,ok.qu,ok.sn⟩
theorem NdOk.enter0 {d:Nd} (ok:NdOk d):NdOk (d.enter none):=⟨cS,ok.qu,fun _ _ z=>by simp [Nd.enter] at z⟩
theorem NdOk.begin {d:Nd} (ok:NdOk d):NdOk d.begin:=by
 unfold Nd.begin
 split
 ·split
  ·exact ok
  ·rename_i f q e
   refine ⟨cS,ok.qu,fun s _ z => ?_⟩
   have:s=av f:=(Option.some.inj z).symm
   subst this
   exact ⟨f,by show f∈d.qu;rw [e];exact List.mem_cons_self,rfl,List.nil_prefix⟩
 ·exact ok
theorem NdOk.passOne {d:Nd} (ok:NdOk d) (k:Nat) (s:Md) (h:s ≠ .frame):NdOk (d.passOne k s):=by
 unfold Nd.passOne
 split
 ·exact ⟨ok.rd,ok.qu,fun _ z=>absurd z h⟩
 ·exact ok.ps _
theorem NdOk.cryOut {d:Nd} (ok:NdOk d):NdOk d.cryOut:=⟨ok.rd,ok.qu,fun _ z=>by simp [Nd.cryOut] at z⟩
theorem NdOk.giveWay {d:Nd} (ok:NdOk d) (b:Int):NdOk (d.giveWay b):=by
 unfold Nd.giveWay
 split
 ·exact ⟨ok.rd,ok.qu,fun _ _ z=>by simp at z⟩
 ·exact ok
theorem cJ (d:Nd) (b:Int):(d.giveWay b).ws=d.ws∧(d.giveWay b).pl=d.pl∧(d.giveWay b).qu=d.qu∧(d.giveWay b).st=d.st∧(d.giveWay b).tk=d.tk∧(d.giveWay b).fc=d.fc∧(d.giveWay b).ps=d.ps:=by
 unfold Nd.giveWay
 split <;> exact ⟨rfl,rfl,rfl,rfl,rfl,rfl,rfl⟩
theorem NdOk.hearStuffed {d:Nd} (ok:NdOk d) {b:Int} (hb:Bit b) (hf:d.st = .frame) (ho:d.over=false):NdOk (d.hearStuffed b):=by
 unfold Nd.hearStuffed
 have ok':=ok.giveWay b
 obtain ⟨e1,e2,e3,e4,_⟩:=cJ d b
 split
 ·exact ok'.cryOut
 ·rename_i h
  have h':(d.giveWay b).hears b=false∧b∈ak d.ws d.pl:=by
   simp only [Bool.or_eq_true,Bool.not_eq_true',decide_eq_false_iff_not,not_or,Classical.not_not,Bool.not_eq_true] at h
   exact h
  refine ⟨?_,ok'.qu,fun s z1 z2 => ?_⟩
  ·show Rd ((d.giveWay b).ws++[b]) (bz (d.giveWay b).ws (d.giveWay b).pl b)
   rw [e1,e2]
   exact ok.rd.next hb h'.2
  ·have z2':(d.giveWay b).sn=some s:=z2
   obtain ⟨f,hf1,rfl,hp⟩:=ok'.sn s (by rw [e4];exact hf) z2'
   refine ⟨f,hf1,rfl,?_⟩
   have hd:b=(d.giveWay b).due (av f):=by
    have:=h'.1
    unfold Nd.hears at this
    rw [z2'] at this
    simpa using this
   have hl:(d.giveWay b).ws.length < (av f).length:=ok'.more (by rw [e4];exact hf) z2' (by unfold Nd.over;rw [e1,e2];exact ho)
   show (d.giveWay b).ws++[b] <+: av f
   have:=cT hp hl
   unfold Nd.due at hd
   rw [← hd] at this
   exact this
theorem lj {n:Int} {q:List Fr} {f:Fr} (h:f∈Nd.dropName n q):f∈q:=List.mem_of_mem_eraseIdx h
theorem NdOk.endFrame {d:Nd} (ok:NdOk d):NdOk d.endFrame:=by
 unfold Nd.endFrame
 split
 ·exact ⟨ok.rd,ok.qu,fun _ z=>by simp at z⟩
 ·exact ⟨ok.rd,fun f hf=>ok.qu f (lj hf),fun _ z=>by simp at z⟩
theorem NdOk.hearBehind {d:Nd} (ok:NdOk d) (b:Int):NdOk (d.hearBehind b):=by
 unfold Nd.hearBehind
 split
 ·exact ok.cryOut
 ·split
  ·exact (ok.ps _).endFrame
  ·exact ok.ps _
theorem NdOk.hearFrame {d:Nd} (ok:NdOk d) {b:Int} (hb:Bit b) (hf:d.st = .frame):NdOk (d.hearFrame b):=by
 unfold Nd.hearFrame
 split
 ·exact ok.hearBehind b
 ·rename_i h
  exact ok.hearStuffed hb hf (Bool.eq_false_iff.mpr h)
theorem NdOk.hear {d:Nd} (ok:NdOk d) {b:Int} (hb:Bit b):NdOk (d.hear b):=by
 unfold Nd.hear
 split
 ·rename_i h;exact ok.hearFrame hb h
 ·exact ok.passOne _ _ (by decide)
 ·unfold Nd.hearDazed
  split
  ·exact ok.ps 0
  ·exact ok.passOne _ _ (by decide)
 all_goals
  unfold Nd.hearBetween
  split
  ·exact ok.enter0.hearFrame hb rfl
  ·split
   ·exact ok.passOne _ _ (by decide)
   ·exact ok
theorem qN (n:Int):∀ q:List Fr,Nd.spot n q≤q.length
 | []=>Nat.le_refl _
 | f :: q=>by
  unfold Nd.spot
  split
  ·have:=qN n q
   rw [List.length_cons];omega
  ·exact Nat.zero_le _
theorem NdOk.letWait {d:Nd} (ok:NdOk d) {f:Fr} (g:eE f.1 f.2):NdOk (d.letWait f):=by
 have hm:∀ x,x∈d.qu→x∈(d.letWait f).qu:=fun x hx=>by
  unfold Nd.letWait
  rw [List.mem_append,List.mem_cons]
  rw [← List.take_append_drop (Nd.spot f.1 d.qu) d.qu] at hx
  rcases List.mem_append.mp hx with z | z
  ·exact .inl z
  ·exact .inr (.inr z)
 refine ⟨ok.rd,fun x hx => ?_,fun s h1 h2 => ?_⟩
 ·unfold Nd.letWait at hx
  rw [List.mem_append,List.mem_cons] at hx
  rcases hx with z | rfl | z
  ·exact ok.qu x (List.mem_of_mem_take z)
  ·exact g
  ·exact ok.qu x (List.mem_of_mem_drop z)
 ·obtain ⟨x,a,b,e⟩:=ok.sn s h1 h2
  exact ⟨x,hm x a,b,e⟩
end BB
namespace BB
theorem fU (f:Fr):Bits (av f):=gC (eN _ _)
theorem NdOk.put_bit {d:Nd} (ok:NdOk d):Bit d.put:=by
 unfold Nd.put
 split
 ·exact .inl rfl
 ·rename_i hst
  unfold Nd.putFrame
  split
  ·split
   ·exact .inl rfl
   ·exact .inr rfl
  ·split
   ·exact .inr rfl
   ·rename_i s hs
    obtain ⟨f,hf,rfl,hp⟩:=ok.sn s hst hs
    exact aM (fU f) _
 ·exact .inr rfl
def bf (ds:List Nd):Int:=if 0∈ds.map Nd.put then 0 else 1
def ao (ds:List Nd) (flip:Int):Int:=if flip=1 then 1 - bf (ds.map Nd.begin) else bf (ds.map Nd.begin)
def ap (ds:List Nd) (flip:Int):List Nd:=(ds.map Nd.begin).map fun d=>d.hear (ao ds flip)
def iO:List Nd→List Int→List Int
 | _,[]=>[]
 | ds,f :: fs=>ao ds f :: iO (ap ds f) fs
def bA:List Nd→List Int→List Nd
 | ds,[]=>ds
 | ds,f :: fs=>bA (ap ds f) fs
theorem mq (ds:List Nd):Bit (bf ds):=by
 unfold bf
 split
 ·exact .inl rfl
 ·exact .inr rfl
theorem eP (ds:List Nd) (flip:Int):Bit (ao ds flip):=by
 unfold ao
 have:=mq (ds.map Nd.begin)
 split
 ·rcases this with h | h <;> rw [h]
  ·exact .inr rfl
  ·exact .inl rfl
 ·exact this
def AllOk (ds:List Nd):Prop:=∀ d∈ds,NdOk d
theorem AllOk.step {ds:List Nd} (h:AllOk ds) (flip:Int):AllOk (ap ds flip):=by
 intro d hd
 unfold ap at hd
 rw [List.map_map] at hd
 obtain ⟨e,he,rfl⟩:=List.mem_map.mp hd
 exact (h e he).begin.hear (eP _ _)
theorem bM (ds:List Nd) (flip:Int):(ap ds flip).length=ds.length:=by simp [ap]
theorem mr (ds:List Nd) (fs:List Int) (f:Int):bA ds (fs++[f])=ap (bA ds fs) f:=by
 induction fs generalizing ds with
 | nil=>rfl
 | cons g fs ih=>exact ih (ap ds g)
theorem ll (ds:List Nd) (fs:List Int) (f:Int):iO ds (fs++[f])=iO ds fs++[ao (bA ds fs) f]:=by
 induction fs generalizing ds with
 | nil=>rfl
 | cons g fs ih=>exact congrArg _ (ih (ap ds g))
theorem dO (ds:List Nd) (fs:List Int):(bA ds fs).length=ds.length:=by
 induction fs generalizing ds with
 | nil=>rfl
 | cons g fs ih=>rw [show bA ds (g :: fs)=bA (ap ds g) fs from rfl,ih,bM]
theorem AllOk.run {ds:List Nd} (h:AllOk ds) (fs:List Int):AllOk (bA ds fs):=by
 induction fs generalizing ds with
 | nil=>exact h
 | cons g fs ih=>exact ih (h.step g)
theorem jE (d:Nd):d.begin.qu=d.qu∧d.begin.tk=d.tk:=by
 unfold Nd.begin
 split
 ·split <;> exact ⟨rfl,rfl⟩
 ·exact ⟨rfl,rfl⟩
theorem dn (d:Nd) (k:Nat) (s:Md):(d.passOne k s).qu=d.qu∧(d.passOne k s).tk=d.tk:=by
 unfold Nd.passOne
 split <;> exact ⟨rfl,rfl⟩
theorem mv (n:Int) (q:List Fr):(Nd.dropName n q).length≤q.length:=by
 unfold Nd.dropName
 exact List.length_eraseIdx_le _ _
theorem eF (d:Nd) (b:Int):(d.hearFrame b).qu.length≤d.qu.length∧(d.hearFrame b).tk.length≤d.tk.length+1:=by
 unfold Nd.hearFrame
 split
 ·unfold Nd.hearBehind
  split
  ·exact ⟨Nat.le_refl _,Nat.le_succ _⟩
  ·split
   ·unfold Nd.endFrame
    split
    ·exact ⟨Nat.le_refl _,by simp⟩
    ·exact ⟨mv _ _,Nat.le_succ _⟩
   ·exact ⟨Nat.le_refl _,Nat.le_succ _⟩
 ·unfold Nd.hearStuffed
  obtain ⟨_,_,e3,_,e5,_⟩:=cJ d b
  split
  ·show (d.giveWay b).qu.length≤_∧(d.giveWay b).tk.length≤_
   rw [e3,e5];exact ⟨Nat.le_refl _,Nat.le_succ _⟩
  ·show (d.giveWay b).qu.length≤_∧(d.giveWay b).tk.length≤_
   rw [e3,e5];exact ⟨Nat.le_refl _,Nat.le_succ _⟩
theorem qO (d:Nd) (b:Int):(d.hear b).qu.length≤d.qu.length∧(d.hear b).tk.length≤d.tk.length+1:=by
 unfold Nd.hear
 split
 ·exact eF d b
 ·obtain ⟨e1,e2⟩:=dn d 6 .dazed
  rw [e1,e2];exact ⟨Nat.le_refl _,Nat.le_succ _⟩
 ·unfold Nd.hearDazed
  split
  ·exact ⟨Nat.le_refl _,Nat.le_succ _⟩
  ·obtain ⟨e1,e2⟩:=dn d 8 .rest
   rw [e1,e2];exact ⟨Nat.le_refl _,Nat.le_succ _⟩
 all_goals
  unfold Nd.hearBetween
  split
  ·exact eF (d.enter none) b
  ·split
   ·obtain ⟨e1,e2⟩:=dn d 3 .free
    rw [e1,e2];exact ⟨Nat.le_refl _,Nat.le_succ _⟩
   ·exact ⟨Nat.le_refl _,Nat.le_succ _⟩
def Few (q t:Nat) (ds:List Nd):Prop:=∀ d∈ds,d.qu.length≤q∧d.tk.length≤t
theorem Few.step {q t:Nat} {ds:List Nd} (h:Few q t ds) (flip:Int):Few q (t+1) (ap ds flip):=by
 intro d hd
 unfold ap at hd
 rw [List.map_map] at hd
 obtain ⟨e,he,rfl⟩:=List.mem_map.mp hd
 obtain ⟨a,b⟩:=h e he
 obtain ⟨c1,c2⟩:=jE e
 obtain ⟨d1,d2⟩:=qO e.begin (ao ds flip)
 rw [c1] at d1
 rw [c2] at d2
 exact ⟨by show (e.begin.hear _).qu.length≤_;omega,by show (e.begin.hear _).tk.length≤_;omega⟩
theorem Few.run {q t:Nat} {ds:List Nd} (h:Few q t ds) (fs:List Int):Few q (t+fs.length) (bA ds fs):=by
 induction fs generalizing ds t with
 | nil=>exact h
 | cons g fs ih=>
  have:=ih (h.step g)
  rw [List.length_cons,show t+(fs.length+1)=t+1+fs.length by omega]
  exact this
theorem Few.mono {q q' t t':Nat} {ds:List Nd} (h:Few q t ds) (a:q≤q') (b:t≤t'):Few q' t' ds:=fun d hd=>⟨Nat.le_trans (h d hd).1 a,Nat.le_trans (h d hd).2 b⟩
end BB
namespace BB
theorem um:∀ (l:List Int) (s:List Int×Int×Int),s.1 <+: (l.foldl iN s).1
 | [],_=>List.prefix_refl _
 | b :: l,s=>by
  refine List.IsPrefix.trans ?_ (um l (iN s b))
  unfold iN
  split
  ·exact List.prefix_refl _
  ·exact List.prefix_append _ _
theorem yn (w t:List Int):(LP w).1 <+: (LP (w++t)).1:=by
 unfold LP
 rw [List.foldl_append]
 exact um t _
theorem Rd.pre {f:Fr} {w p:List Int} (g:eE f.1 f.2) (r:Rd w p) (h:w <+: av f):p <+: aG f.1 f.2:=by
 obtain ⟨t,ht⟩:=h
 have:=yn w t
 rw [ht,r.lp,(j7 g).1.lp] at this
 exact this
theorem gD {w s:List Int} {b:Int} (hs:Bits s) (h:w++[b] <+: s):Bit b:=by
 obtain ⟨t,rfl⟩:=h
 exact hs b (by simp)
theorem Rd.bit {f:Fr} {w p:List Int} {b:Int} (g:eE f.1 f.2) (r:Rd w p) (h:w++[b] <+: av f) (hd:due w=false):p++[b] <+: aG f.1 f.2:=by
 have hb:=gD (fU f) h
 have r2:=r.next hb (cI g r h)
 have:bz w p b=p++[b]:=by unfold bz;rw [hd];rfl
 rw [this] at r2
 exact r2.pre g h
theorem qP:∀ {a b:List Int} {m:Nat},Bits a→Bits b→a.length=b.length→b5 a < b5 b→a.take m=b.take m→a.getD m 0≤b.getD m 0
 | [],[],_,_,_,_,h,_=>absurd h (by decide)
 | [],_ :: _,_,_,_,h,_,_=>by simp at h
 | _ :: _,[],_,_,_,h,_,_=>by simp at h
 | x :: a,y :: b,m,ha,hb,hl,hlt,ht=>by
  have hl':a.length=b.length:=by simpa using hl
  rw [dL,dL,hl'] at hlt
  obtain ⟨a0,a1⟩:=j4 ha.tail
  obtain ⟨b0,b1⟩:=j4 hb.tail
  have hx:=ha.head
  have hy:=hb.head
  cases m with
  | zero=>
   show x≤y
   rcases hx with e | e <;> rcases hy with e' | e' <;> subst e <;> subst e'
   ·exact Int.le_refl _
   ·decide
   ·rw [Int.one_mul,Int.zero_mul] at hlt
    omega
   ·exact Int.le_refl _
  | succ m=>
   rw [List.take_succ_cons,List.take_succ_cons] at ht
   obtain ⟨e,h3⟩:=List.cons.inj ht
   subst e
   show a.getD m 0≤b.getD m 0
   exact qP ha.tail hb.tail hl' (by omega) h3
theorem tH (f:Fr):[0]++ar f.1 11 <+: aG f.1 f.2:=by
 unfold aG body
 simp only [List.append_assoc]
 exact ⟨_,by rw [List.append_assoc]⟩
theorem ik {p s:List Int} (h:p <+: s) {n:Nat} (hn:n≤p.length):p.take n=s.take n:=by
 obtain ⟨t,rfl⟩:=h
 rw [List.take_append_of_le_length hn]
theorem cK {f:Fr} {p:List Int} (h:p <+: aG f.1 f.2) {n:Nat} (h1:n+1≤p.length) (h2:n≤11):(p.take (n+1)).drop 1=(ar f.1 11).take n:=by
 have hb:=tH f
 rw [ik h h1,← ik hb (by rw [List.length_append,aw];simp;omega)]
 rfl
theorem qQ {f g:Fr} {p:List Int} (hf:eE f.1 f.2) (hg:eE g.1 g.2) (h1:p <+: aG f.1 f.2) (h2:p <+: aG g.1 g.2) (hl:12≤p.length):f.1=g.1:=by
 have a:=cK h1 (n:=11) hl (Nat.le_refl _)
 have b:=cK h2 (n:=11) hl (Nat.le_refl _)
 rw [a,List.take_of_length_le (by rw [aw];exact Nat.le_refl _),List.take_of_length_le (by rw [aw];exact Nat.le_refl _)] at b
 have c:=congrArg b5 b
 rw [aW hf.1.1 (by have:=hf.1.2;omega),aW hg.1.1 (by have:=hg.1.2;omega)] at c
 exact c
theorem arb {f g:Fr} {w p:List Int} {x y:Int} (hf:eE f.1 f.2) (hg:eE g.1 g.2) (lt:f.1 < g.1) (r:Rd w p) (h1:w++[x] <+: av f) (h2:w++[y] <+: av g) :
  x=y∨(x=0∧y=1∧due w=false∧1≤p.length∧p.length < 12):=by
 have hx:=gD (fU f) h1
 have hy:=gD (fU g) h2
 cases hd:due w with
 | true=>
  have a:=cI hf r h1
  have b:=cI hg r h2
  unfold ak at a b
  rw [hd,if_pos rfl,List.mem_singleton] at a b
  exact .inl (a.trans b.symm)
 | false=>
  have a:=r.bit hf h1 hd
  have b:=r.bit hg h2 hd
  have lx:(p++[x]).length=p.length+1:=by simp
  have ly:(p++[y]).length=p.length+1:=by simp
  have pa:p <+: aG f.1 f.2:=(List.prefix_append p [x]).trans a
  have pb:p <+: aG g.1 g.2:=(List.prefix_append p [y]).trans b
  by_cases h12:12≤p.length
  ·exact absurd (qQ hf hg pa pb h12) (by omega)
  ·by_cases h0:p.length=0
   ·have e:p=[]:=List.length_eq_zero_iff.mp h0
    subst e
    have c:=ik a (n:=1) (by simp)
    have d:=ik b (n:=1) (by simp)
    have zf:(aG f.1 f.2).take 1=[0]:=rfl
    have zg:(aG g.1 g.2).take 1=[0]:=rfl
    rw [zf] at c
    rw [zg] at d
    have c:[x]=[0]:=c
    have d:[y]=[0]:=d
    cases c
    cases d
    exact .inl rfl
   ·obtain ⟨n,hn⟩:∃ n,p.length=n+1:=⟨p.length - 1,by omega⟩
    have na:=cK a (n:=n+1) (by omega) (by omega)
    have nb:=cK b (n:=n+1) (by omega) (by omega)
    rw [List.take_of_length_le (by omega)] at na nb
    have pn:p=p.take (n+1):=by rw [List.take_of_length_le (by omega)]
    have ma:=cK pa (n:=n) (by omega) (by omega)
    have mb:=cK pb (n:=n) (by omega) (by omega)
    have key:=qP (m:=n) (bL f.1 11) (bL g.1 11) (by rw [aw,aw]) (by rw [aW hf.1.1 (by have:=hf.1.2;omega),aW hg.1.1 (by have:=hg.1.2;omega)];exact lt) (ma.symm.trans mb)
    have gx:(ar f.1 11).getD n 0=x:=by
     have:=congrArg (fun l=>l.getD n 0) na
     rw [show (p++[x]).drop 1=p.drop 1++[x] by rw [List.drop_append_of_le_length (by omega)]] at this
     have e1:(p.drop 1++[x]).getD n 0=x:=by
      have:(p.drop 1).length=n:=by rw [List.length_drop];omega
      rw [← this];exact bS
     rw [e1] at this
     have e2:((ar f.1 11).take (n+1)).getD n 0=(ar f.1 11).getD n 0:=by simp [List.getD_eq_getElem?_getD]
     exact e2.symm.trans this.symm
    have gy:(ar g.1 11).getD n 0=y:=by
     have:=congrArg (fun l=>l.getD n 0) nb
     rw [show (p++[y]).drop 1=p.drop 1++[y] by rw [List.drop_append_of_le_length (by omega)]] at this
     have e1:(p.drop 1++[y]).getD n 0=y:=by
      have:(p.drop 1).length=n:=by rw [List.length_drop];omega
      rw [← this];exact bS
     rw [e1] at this
     have e2:((ar g.1 11).take (n+1)).getD n 0=(ar g.1 11).getD n 0:=by simp [List.getD_eq_getElem?_getD]
     exact e2.symm.trans this.symm
    rw [gx,gy] at key
    rcases hx with e | e <;> rcases hy with e' | e'
    ·exact .inl (e.trans e'.symm)
    ·exact .inr ⟨e,e',rfl,by omega,by omega⟩
    ·omega
    ·exact .inl (e.trans e'.symm)
end BB
namespace BB
structure Kept (d e:Nd):Prop where
 qu:e.qu=d.qu
 tk:e.tk=d.tk
 fc:e.fc=d.fc
structure At1 (f:Fr) (own:Bool) (j:Nat) (d:Nd):Prop where
 st:d.st = .frame
 ws:d.ws=(av f).take j
 rd:Rd d.ws d.pl
 ps:d.ps=0
 mine:own=true→d.sn=some (av f)
 other:own=false→d.sn=none∨∃ g:Fr,d.sn=some (av g)∧eE g.1 g.2∧f.1 < g.1∧(av f).take j <+: av g
end BB
namespace BB
structure Bh1 (f:Fr) (own:Bool) (k:Nat) (d:Nd):Prop where
 st:d.st = .frame
 ws:d.ws=av f
 pl:d.pl=aG f.1 f.2
 ps:d.ps=k
 sn:d.sn=if own then some (av f) else none
theorem qR (f:Fr):31≤(aG f.1 f.2).length:=by
 unfold aG body
 simp only [List.length_append,aw,dj,List.length_cons,List.length_nil]
 omega
structure Rs1 (k:Nat) (d:Nd):Prop where
 st:d.st = .rest
 ps:d.ps=k
def qS (k:Nat):Int:=if k=1 then 0 else 1
theorem tI {f:Fr} (g:eE f.1 f.2):0 < (av f).length:=by
 rcases Nat.eq_zero_or_pos (av f).length with z | z
 ·have e:=List.length_eq_zero_iff.mp z
  have r:=(j7 g).1
  rw [e] at r
  have:=r.uniq cS
  have hl:=qR f
  rw [this] at hl
  simp at hl
 ·exact z
end BB
namespace BB
def nb (f:Fr) (n:Nat):Int:=if n < (av f).length then (av f).getD n 0 else if n < (av f).length+10 then qS (n - (av f).length) else 1
def Ag (f:Fr) (own:Bool) (n:Nat) (d:Nd):Prop:=
 if n≤(av f).length then At1 f own n d else if n < (av f).length+10 then Bh1 f own (n - (av f).length) d else Rs1 (n - (av f).length - 10) d
inductive Ph where
 | free
 | busy (w:Nat) (f:Fr) (n:Nat)
def Rel:Ph→List Nd→Prop
 | .free,ds=>∀ d∈ds,d.st = .free
 | .busy w f n,ds=>eE f.1 f.2∧w < ds.length∧n < (av f).length+13∧∀ (i:Nat) d,ds[i]? = some d→Ag f (decide (i=w)) n d
theorem aS {d:Nd} (h:d.st ≠ .free):d.begin=d:=by unfold Nd.begin;rw [if_neg h]
end BB
namespace BB
structure Snd where
 t:Nat
 at_:Nat
 f:Fr
 k:Nat
def ins (f:Fr) (q:List Fr):List Fr:=q.take (Nd.spot f.1 q)++f :: q.drop (Nd.spot f.1 q)
theorem nJ (d:Nd) (f:Fr):(d.letWait f).qu=ins f d.qu:=rfl
def qOf (a:Nat) (p:List Snd):List Fr:=p.foldl (fun q x=>if x.at_=a then ins x.f q else q) []
theorem tJ (a:Nat) (p:List Snd) (x:Snd):qOf a (p++[x])=if x.at_=a then ins x.f (qOf a p) else qOf a p:=by
 unfold qOf
 rw [List.foldl_append]
 rfl
theorem qT (f:Fr):ins f []=[f]:=rfl
theorem b6 (f g:Fr) (q:List Fr):ins f (g :: q)=if g.1≤f.1 then g :: ins f q else f :: g :: q:=by
 unfold ins
 show (g :: q).take (if g.1≤f.1 then Nd.spot f.1 q+1 else 0)++f :: (g :: q).drop (if g.1≤f.1 then Nd.spot f.1 q+1 else 0)=_
 split <;> rfl
theorem mem_ins {f g:Fr}:∀ {q:List Fr},g∈ins f q↔g=f∨g∈q
 | []=>by rw [qT];simp
 | h :: q=>by
  rw [b6]
  split
  ·rw [List.mem_cons,mem_ins,List.mem_cons]
   constructor
   ·rintro (a | a | a)
    ·exact .inr (.inl a)
    ·exact .inl a
    ·exact .inr (.inr a)
   ·rintro (a | a | a)
    ·exact .inr (.inl a)
    ·exact .inl a
    ·exact .inr (.inr a)
  ·rw [List.mem_cons]
theorem qU {f:Fr}:∀ {q:List Fr},q.Pairwise (fun a b=>a.1≤b.1)→(ins f q).Pairwise (fun a b=>a.1≤b.1)
 | [],_=>by rw [qT];exact List.pairwise_singleton _ _
 | h :: q,hp=>by
  rw [b6]
  obtain ⟨h1,h2⟩:=List.pairwise_cons.mp hp
  split
  ·rename_i c
   refine List.pairwise_cons.mpr ⟨fun g hg => ?_,qU h2⟩
   rcases mem_ins.mp hg with z | z
   ·rw [z];exact c
   ·exact h1 g z
  ·rename_i c
   refine List.pairwise_cons.mpr ⟨fun g hg => ?_,hp⟩
   rcases List.mem_cons.mp hg with z | z
   ·rw [z];omega
   ·have:=h1 g z;omega
theorem wa (a:Nat) (p:List Snd):(qOf a p).Pairwise (fun a b=>a.1≤b.1):=by
 unfold qOf
 have:∀ (p:List Snd) (q:List Fr),q.Pairwise (fun a b:Fr=>a.1≤b.1)→(p.foldl (fun q x=>if x.at_=a then ins x.f q else q) q).Pairwise (fun a b=>a.1≤b.1):=by
  intro p
  induction p with
  | nil=>intro q h;exact h
  | cons x p ih=>
   intro q h
   rw [List.foldl_cons]
   apply ih
   split
   ·exact qU h
   ·exact h
 exact this p [] List.Pairwise.nil
theorem eQ {a:Nat} {g:Fr} (p:List Snd):g∈qOf a p↔∃ x∈p,x.at_=a∧x.f=g:=by
 unfold qOf
 have:∀ (p:List Snd) (q:List Fr),g∈p.foldl (fun q x=>if x.at_=a then ins x.f q else q) q↔g∈q∨∃ x∈p,x.at_=a∧x.f=g:=by
  intro p
  induction p with
  | nil=>intro q;simp
  | cons x p ih=>
   intro q
   rw [List.foldl_cons,ih]
   constructor
   ·rintro (h | ⟨y,hy,e⟩)
    ·split at h
     ·rename_i c
      rcases mem_ins.mp h with z | z
      ·exact .inr ⟨x,List.mem_cons_self,c,z.symm⟩
      ·exact .inl z
     ·exact .inl h
    ·exact .inr ⟨y,List.mem_cons_of_mem _ hy,e⟩
   ·rintro (h | ⟨y,hy,e1,e2⟩)
    ·left
     split
     ·exact mem_ins.mpr (.inr h)
     ·exact h
    ·rcases List.mem_cons.mp hy with z | z
     ·left
      subst z
      rw [if_pos e1]
      exact mem_ins.mpr (.inl e2.symm)
     ·exact .inr ⟨y,z,e1,e2⟩
 rw [this p []]
 simp
def With (f:Fr) (q q':List Fr):Prop:=∃ u v,q=u++v∧q'=u++f :: v∧(∀ g∈u,g.1 < f.1)∧(∀ g∈v,f.1≤g.1)
theorem gE {y:Fr}:∀ {u v:List Fr},(∀ g∈v,y.1 < g.1)→ins y (u++v)=ins y u++v
 | [],[],_=>rfl
 | [],g :: v,h=>by
  rw [List.nil_append,b6,if_neg (by have:=h g List.mem_cons_self;omega)]
  rfl
 | g :: u,v,h=>by
  rw [List.cons_append,b6,b6]
  split
  ·rw [gE h];rfl
  ·rfl
theorem gF {y:Fr}:∀ {u v:List Fr},(∀ g∈u,g.1≤y.1)→ins y (u++v)=u++ins y v
 | [],_,_=>rfl
 | g :: u,v,h=>by
  rw [List.cons_append,b6,if_pos (h g List.mem_cons_self),gF fun k hk=>h k (List.mem_cons_of_mem _ hk)]
  rfl
theorem With.ins {f y:Fr} {q q':List Fr} (h:With f q q'):With f (ins y q) (ins y q'):=by
 obtain ⟨u,v,rfl,rfl,hu,hv⟩:=h
 by_cases c:y.1 < f.1
 ·refine ⟨BB.ins y u,v,gE fun g hg => ?_,gE fun g hg => ?_,fun g hg => ?_,hv⟩
  ·have:=hv g hg;omega
  ·rcases List.mem_cons.mp hg with z | z
   ·rw [z];exact c
   ·have:=hv g z;omega
  ·rcases mem_ins.mp hg with z | z
   ·rw [z];exact c
   ·exact hu g z
 ·refine ⟨u,BB.ins y v,gF fun g hg => ?_,?_,hu,fun g hg => ?_⟩
  ·have:=hu g hg;omega
  ·rw [gF fun g hg=>by have:=hu g hg;omega,b6,if_pos (by omega)]
  ·rcases mem_ins.mp hg with z | z
   ·rw [z];omega
   ·exact hv g z
theorem With.drop {f:Fr} {q q':List Fr} (h:With f q q'):Nd.dropName f.1 q'=q:=by
 obtain ⟨u,v,rfl,rfl,hu,hv⟩:=h
 unfold Nd.dropName
 have e:((u++f :: v).map (·.1)).idxOf f.1=u.length:=by
  have hm:f.1∉u.map (·.1):=fun z=>by
   obtain ⟨g,hg,e⟩:=List.mem_map.mp z
   have:=hu g hg
   omega
  rw [List.map_append,List.idxOf_append,if_neg hm,List.map_cons,List.idxOf_cons_self,List.length_map]
  omega
 rw [e,List.eraseIdx_append_of_length_le (Nat.le_refl _),Nat.sub_self]
 rfl
theorem tK {f:Fr} {q:List Fr} (ho:q.Pairwise (fun a b=>a.1≤b.1)) (hn:∀ g∈q,g.1≠f.1):With f q (ins f q):=by
 induction q with
 | nil=>exact ⟨[],[],rfl,rfl,fun g hg=>(by cases hg),fun g hg=>(by cases hg)⟩
 | cons h q ih=>
  obtain ⟨h1,h2⟩:=List.pairwise_cons.mp ho
  rw [b6]
  by_cases c:h.1≤f.1
  ·rw [if_pos c]
   obtain ⟨u,v,e1,e2,hu,hv⟩:=ih h2 fun g hg=>hn g (List.mem_cons_of_mem _ hg)
   refine ⟨h :: u,v,by rw [List.cons_append,← e1],by rw [List.cons_append,← e2],fun g hg => ?_,hv⟩
   rcases List.mem_cons.mp hg with z | z
   ·rw [z]
    have:=hn h List.mem_cons_self
    omega
   ·exact hu g z
  ·rw [if_neg c]
   refine ⟨[],h :: q,rfl,rfl,fun g hg=>(by cases hg),fun g hg => ?_⟩
   rcases List.mem_cons.mp hg with z | z
   ·rw [z];omega
   ·have:=h1 g z;omega
theorem j8 (a:Nat) (p r:List Snd):qOf a (p++r)=r.foldl (fun q x=>if x.at_=a then ins x.f q else q) (qOf a p):=by
 unfold qOf
 rw [List.foldl_append]
theorem tL {l r:List Snd} {x:Snd} (h:∀ y∈l,y.at_=x.at_→y.f.1≠x.f.1):With x.f (qOf x.at_ (l++r)) (qOf x.at_ (l++x :: r)):=by
 have key:∀ (r:List Snd) (q q':List Fr),With x.f q q'→With x.f (r.foldl (fun q y=>if y.at_=x.at_ then ins y.f q else q) q) (r.foldl (fun q y=>if y.at_=x.at_ then ins y.f q else q) q'):=by
  intro r
  induction r with
  | nil=>intro q q' w;exact w
  | cons y r ih=>
   intro q q' w
   rw [List.foldl_cons,List.foldl_cons]
   apply ih
   split
   ·exact w.ins
   ·exact w
 rw [j8,j8,List.foldl_cons,if_pos rfl]
 refine key r _ _ (tK (wa _ l) fun g hg => ?_)
 obtain ⟨y,hy,e1,e2⟩:=(eQ l).mp hg
 rw [← e2]
 exact h y hy e1
theorem wb {l r:List Snd} {x:Snd} (h:∀ y∈l,y.at_=x.at_→y.f.1≠x.f.1) (a:Nat):qOf a (l++r)=if x.at_=a then Nd.dropName x.f.1 (qOf a (l++x :: r)) else qOf a (l++x :: r):=by
 by_cases c:x.at_=a
 ·subst c
  rw [if_pos rfl]
  exact (tL h).drop.symm
 ·rw [if_neg c,j8,j8,List.foldl_cons,if_neg c]
end BB
namespace BB
def qV:List Snd→Option Snd
 | []=>none
 | x :: r=>match qV r with
  | none=>some x
  | some y=>if x.f.1≤y.f.1 then some x else some y
abbrev fl (f:Fr):Nat:=(av f).length
structure Mc where
 cur:Option (Snd×Nat)
 pend:List Snd
 done:List (Nat×Snd)
def Mc.new:Mc:=⟨none,[],[]⟩
def Mc.send (m:Mc) (x:Snd):Mc:={m with pend:=m.pend++[x]}
def Mc.bit (t:Nat) (m:Mc):Mc:=match m.cur with
 | none=>(match qV m.pend with
  | none=>m
  | some x=>{m with cur:=some (x,1)})
 | some (x,n)=>⟨if n+1=fl x.f+13 then none else some (x,n+1),if n+1=fl x.f+10 then m.pend.eraseP (fun y=>decide (y.k=x.k)) else m.pend,if n+1=fl x.f+10 then m.done++[(t+1,x)] else m.done⟩
def Mc.ph (m:Mc):Ph:=match m.cur with
 | none => .free
 | some (x,n) => .busy x.at_ x.f n
structure BM (ds:List Nd) (m:Mc):Prop where
 ph:Rel m.ph ds
 qu:∀ (i:Nat) d,ds[i]? = some d→d.qu=qOf i m.pend
 tk:∀ (i:Nat) d,ds[i]? = some d→d.tk=(m.done.filter fun e=>decide (e.2.at_≠i)).map (·.2.f)
 fc:∀ d∈ds,d.fc=0
 names:∀ x∈m.pend,∀ y∈m.pend,x.f.1=y.f.1→x.at_=y.at_
 at_:∀ x∈m.pend,x.at_ < ds.length
 ks:m.pend.Pairwise (fun a b=>a.k < b.k)
 cu:∀ x n,m.cur=some (x,n)→n < fl x.f+10→∃ l r,m.pend=l++x :: r∧∀ y∈l,y.f.1≠x.f.1
end BB
namespace BB
end BB
namespace BB
def atT (sent:List Snd) (t:Nat) (m:Mc):Mc:={m with pend:=m.pend++sent.filter (fun x=>decide (x.t=t))}
def go (sent:List Snd):Nat→Mc
 | 0=>Mc.new
 | t+1=>(atT sent t (go sent t)).bit t
def Ah (l:List Snd):Prop:=l.Pairwise fun a b=>a.t≤b.t
structure FreeAt (sent left:List Snd) (now:Nat) (found:List (Nat×Snd)):Prop where
 go_:go sent now=⟨none,left.filter (fun x=>decide (x.t < now)),found⟩
 times:Ah left
 ks:left.Pairwise fun a b=>a.k < b.k
 rest:∀ s,now≤s→sent.filter (fun x=>decide (x.t=s))=left.filter (fun x=>decide (x.t=s))
def out (l:List Snd) (x:Snd):List Snd:=l.eraseP fun y=>decide (y.k=x.k)
end BB
namespace BB
structure PlanInv (sent left:List Snd) (now:Nat) (found:List (Nat×Snd)):Prop where
 fr:FreeAt sent left now found
 hist:∀ T,T≤now→(go sent T).done=found.filter (fun e=>decide (e.1≤T))
 past:∀ e∈found,e.1≤now
 todo:∀ T,T≤now→∀ y∈(go sent T).pend,y∈left∨∃ e∈found,e.2=y∧T < e.1
end BB
namespace BB
structure BusAtT (ds:List Nd) (sent:List Snd) (t:Nat):Prop where
 bm:BM ds (atT sent t (go sent t))
 ok:AllOk ds
 past:∀ x∈sent,x.t≤t
end BB
namespace BB
theorem qW (f:Fr):∀ q:List Fr,(ins f q).length=q.length+1
 | []=>rfl
 | g :: q=>by
  rw [b6]
  split
  ·rw [List.length_cons,qW f q,List.length_cons]
  ·rfl
theorem wc (a:Nat) (p:List Snd):(qOf a p).length≤p.length:=by
 unfold qOf
 have:∀ (p:List Snd) (q:List Fr),(p.foldl (fun q x=>if x.at_=a then ins x.f q else q) q).length≤q.length+p.length:=by
  intro p
  induction p with
  | nil=>intro q;exact Nat.le_refl _
  | cons x p ih=>
   intro q
   rw [List.foldl_cons,List.length_cons]
   refine Nat.le_trans (ih _) ?_
   split
   ·rw [qW];omega
   ·omega
 have h:=this p []
 rw [List.length_nil] at h
 omega
end BB
namespace BB
def Ke (d c:Nd):Prop:=c.qu=d.qu∧c.tk=d.tk
theorem qX {ds:List Nd} {d:Nd} (hd:d∈ds) (h:d.put=0):bf ds=0:=by
 unfold bf
 rw [if_pos (List.mem_map.mpr ⟨d,hd,h⟩)]
theorem lm {ds:List Nd} (h:∀ d∈ds,d.put=1):bf ds=1:=by
 unfold bf
 rw [if_neg]
 intro z
 obtain ⟨d,hd,e⟩:=List.mem_map.mp z
 rw [h d hd] at e
 cases e
theorem fV {ds:List Nd} {flip:Int} {i:Nat} {d:Nd} (e:ds[i]? = some d):(ap ds flip)[i]? = some (d.begin.hear (ao ds flip)):=by
 unfold ap
 rw [List.map_map,List.getElem?_map,e]
 rfl
theorem bG {ds:List Nd} {flip:Int} {i:Nat} {c:Nd} (e:(ap ds flip)[i]? = some c):∃ d,ds[i]? = some d∧c=d.begin.hear (ao ds flip):=by
 have h:=(List.getElem?_eq_some_iff.mp e).1
 rw [bM] at h
 have e2:=fV (flip:=flip) (List.getElem?_eq_getElem h)
 rw [e2] at e
 exact ⟨_,List.getElem?_eq_getElem h,(Option.some.inj e).symm⟩
theorem aT {ds:List Nd} {flip:Int} {c:Nd} (hc:c∈ap ds flip):∃ d∈ds,c=d.begin.hear (ao ds flip):=by
 obtain ⟨i,e⟩:=List.mem_iff_getElem?.mp hc
 obtain ⟨d,e1,e2⟩:=bG e
 exact ⟨d,List.mem_of_getElem? e1,e2⟩
theorem cV {ds:List Nd} {flip:Int} {d:Nd} (hd:d∈ds):d.begin.hear (ao ds flip)∈ap ds flip:=by
 obtain ⟨i,e⟩:=List.mem_iff_getElem?.mp hd
 exact List.mem_of_getElem? (fV e)
theorem ba (ds:List Nd):ao ds 0=bf (ds.map Nd.begin):=by unfold ao;rw [if_neg (by decide)]
theorem cg (ds:List Nd):ao ds 1=1 - bf (ds.map Nd.begin):=by unfold ao;rw [if_pos rfl]
theorem fW {ds:List Nd} (h:∀ d∈ds,d.st ≠ .free):ds.map Nd.begin=ds:=by
 conv=>rhs;rw [← List.map_id ds]
 exact List.map_congr_left fun d hd=>aS (h d hd)
def Tail (b:Int) (n:Nat) (w:List Int):Prop:=n=0∨(w.getLast? = some b∧n≤run w)
theorem Tail.snoc {b:Int} {n:Nat} {w:List Int} (h:Tail b n w):Tail b (n+1) (w++[b]):=by
 refine .inr ⟨by simp,?_⟩
 rw [fQ]
 rcases h with h | ⟨h1,h2⟩
 ·split <;> omega
 ·rw [if_pos h1];omega
theorem Tail.le {b:Int} {n:Nat} {w p:List Int} (h:Tail b n w) (r:Rd w p):n≤5:=by
 have:=r.r5
 rcases h with h | ⟨_,h2⟩ <;> omega
theorem Tail.five {b:Int} {w p:List Int} (h:Tail b 5 w) (r:Rd w p):ak w p=[1 - b]:=by
 rcases h with h | ⟨h1,h2⟩
 ·cases h
 ·have hd:due w=true:=r.d5.mpr (by have:=r.r5;omega)
  unfold ak
  rw [if_pos hd]
  have:w.getLastD 0=b:=by rw [List.getLastD_eq_getLast?,h1];rfl
  rw [this]
theorem b9 (d:Nd) (b:Int):(d.hearStuffed b=(d.giveWay b).cryOut∧((d.giveWay b).hears b=true∨b∉ak d.ws d.pl))∨(d.hearStuffed b=(d.giveWay b).take b∧(d.giveWay b).hears b=false∧b∈ak d.ws d.pl):=by
 unfold Nd.hearStuffed
 cases h:(d.giveWay b).hears b with
 | true=>exact .inl ⟨by rw [Bool.true_or,if_pos rfl],.inl rfl⟩
 | false=>
  by_cases c:b∈ak d.ws d.pl
  ·exact .inr ⟨by rw [decide_eq_true c];rfl,rfl,c⟩
  ·exact .inl ⟨by rw [decide_eq_false c];rfl,.inr c⟩
theorem mw (d:Nd) (b:Int):Ke d ((d.giveWay b).take b)∧((d.giveWay b).take b).st=d.st∧((d.giveWay b).take b).ps=d.ps∧((d.giveWay b).take b).ws=d.ws++[b]∧((d.giveWay b).take b).pl=bz d.ws d.pl b∧((d.giveWay b).take b).sn=(d.giveWay b).sn:=by
 obtain ⟨e1,e2,e3,e4,e5,e6,e7⟩:=cJ d b
 refine ⟨⟨e3,e5⟩,e4,e7,?_,?_,rfl⟩
 ·show (d.giveWay b).ws++[b]=_
  rw [e1]
 ·show bz (d.giveWay b).ws (d.giveWay b).pl b=_
  rw [e1,e2]
theorem uo (d:Nd) (b:Int):Ke d (d.giveWay b).cryOut:=by
 obtain ⟨e1,e2,e3,e4,e5,e6,e7⟩:=cJ d b
 exact ⟨e3,e5⟩
theorem iP (d:Nd) (k:Nat) (s:Md):Ke d (d.passOne k s):=by
 unfold Nd.passOne
 split <;> exact ⟨rfl,rfl⟩
theorem tM (d:Nd):Ke d d.begin:=by
 unfold Nd.begin
 split
 ·split <;> exact ⟨rfl,rfl⟩
 ·exact ⟨rfl,rfl⟩
theorem Ke.trans {a b c:Nd} (h:Ke a b) (k:Ke b c):Ke a c:=⟨k.1.trans h.1,k.2.trans h.2⟩
theorem qY {f:Fr} (g:eE f.1 f.2):(av f).getD 0 0=0∧[0] <+: av f:=by
 have hp:=tI g
 have h:=cT (List.nil_prefix (l:=av f)) hp
 have hc:=cI g cS h
 have e:ak [] []=[0]:=by decide
 rw [e,List.mem_singleton] at hc
 have hc:(av f).getD 0 0=0:=hc
 refine ⟨hc,?_⟩
 have h:[]++[(av f).getD 0 0] <+: av f:=h
 rw [hc] at h
 exact h
def MN (z:Nat) (d:Nd):Prop:=
 (d.st = .cry∧d.ps < 6)∨(d.st = .dazed∧d.ps=0)∨(z≤5∧d.st = .frame∧d.ps=0∧d.over=false∧Tail 0 z d.ws)∨(z≤5∧d.st = .frame∧d.ps≠1∧d.over=true)∨(z=0∧d.st = .free)
theorem MN.frame0 {z:Nat} {d:Nd} (ok:NdOk d) (hf:d.st = .frame) (hp:d.ps=0) (ho:d.over=false) (ht:Tail 0 z d.ws):MN (z+1) (d.hear 0)∧Ke d (d.hear 0):=by
 have e:d.hear 0=d.hearStuffed 0:=by unfold Nd.hear Nd.hearFrame;rw [hf,ho];rfl
 rw [e]
 rcases b9 d 0 with ⟨e1,_⟩ | ⟨e1,_,hc⟩ <;> rw [e1]
 ·exact ⟨.inl ⟨rfl,show 0 < 6 by decide⟩,uo d 0⟩
 ·obtain ⟨k,a1,a2,a3,a4,_⟩:=mw d 0
  have h5:=ht.le ok.rd
  have hz:z+1≤5:=by
   rcases Nat.lt_or_ge z 5 with y | y
   ·omega
   ·have:z=5:=by omega
    subst this
    rw [ht.five ok.rd] at hc
    cases List.mem_singleton.mp hc
  refine ⟨?_,k⟩
  cases ho2:((d.giveWay 0).take 0).over with
  | true=>exact .inr (.inr (.inr (.inl ⟨hz,a1.trans hf,by rw [a2,hp];decide,ho2⟩)))
  | false=>exact .inr (.inr (.inl ⟨hz,a1.trans hf,a2.trans hp,ho2,by rw [a3];exact ht.snoc⟩))
theorem dq {d:Nd} {b:Int} (hf:d.st = .frame) (ho:d.over=true) (hw:d.wrong b=true):d.hear b=d.cryOut:=by
 unfold Nd.hear Nd.hearFrame Nd.hearBehind
 rw [hf,ho,hw]
 rfl
theorem MN.step {z:Nat} {d:Nd} (h:MN z d) (ok:NdOk d) (hz:z≤5):MN (z+1) (d.begin.hear 0)∧Ke d (d.begin.hear 0):=by
 rcases h with ⟨h1,h2⟩ | ⟨h1,h2⟩ | ⟨_,h1,h2,h3,h4⟩ | ⟨_,h1,h2,h3⟩ | ⟨rfl,h1⟩
 ·rw [aS (by rw [h1];decide)]
  have e:d.hear 0=d.passOne 6 .dazed:=by unfold Nd.hear;rw [h1]
  rw [e]
  refine ⟨?_,iP d _ _⟩
  unfold Nd.passOne
  split
  ·exact .inr (.inl ⟨rfl,rfl⟩)
  ·exact .inl ⟨h1,by show d.ps+1 < 6;omega⟩
 ·rw [aS (by rw [h1];decide)]
  have e1:d.hear 0=d.hearDazed 0:=by unfold Nd.hear;rw [h1]
  have e:d.hear 0={d with ps:=0}:=e1
  rw [e]
  exact ⟨.inr (.inl ⟨h1,rfl⟩),rfl,rfl⟩
 ·rw [aS (by rw [h1];decide)]
  exact MN.frame0 ok h1 h2 h3 h4
 ·rw [aS (by rw [h1];decide),dq h1 h3 (by unfold Nd.wrong;rw [if_neg h2];rfl)]
  exact ⟨.inl ⟨rfl,show 0 < 6 by decide⟩,rfl,rfl⟩
 ·have hov:∀ (x:Option (List Int)),(d.enter x).over=false:=fun x=>by
   unfold Nd.over
   exact decide_eq_false (by show ¬ ak [] []=[];decide)
  cases hq:d.qu with
  | nil=>
   have e0:d.begin=d:=by unfold Nd.begin;rw [if_pos h1,hq]
   have e1:d.hear 0=(d.enter none).hear 0:=by unfold Nd.hear Nd.hearBetween;rw [h1];rfl
   rw [e0,e1]
   obtain ⟨a,b⟩:=MN.frame0 (z:=0) (d:=d.enter none) ok.enter0 rfl rfl (hov _) (.inl rfl)
   exact ⟨a,b⟩
  | cons f r=>
   have e0:d.begin=d.enter (some (av f)):=by unfold Nd.begin;rw [if_pos h1,hq]
   have ok2:=ok.begin
   rw [e0] at ok2 ⊢
   obtain ⟨a,b⟩:=MN.frame0 (z:=0) ok2 rfl rfl (hov _) (.inl rfl)
   exact ⟨a,b⟩
end BB
namespace BB
inductive P2 where
 | quiet | rest (k:Nat) | fr (w p:List Int) | lone (w p:List Int) (n:Nat) | beh (w p:List Int) (k i:Nat) (f:Fr) | mess (z:Nat) | settle (n:Nat) | daz (k:Nat)
def InF (w p:List Int) (k:Nat) (d:Nd):Prop:=d.st = .frame∧d.ps=k∧d.ws=w∧d.pl=p
def Rel2:P2→List Nd→Prop
 | .quiet,ds=>∀ d∈ds,d.st = .free
 | .rest k,ds=>k < 3∧∀ d∈ds,d.st = .rest∧d.ps=k
 | .fr w p,ds=>(∀ d∈ds,InF w p 0 d)∧ak w p≠[]∧∃ d∈ds,d.sn≠none
 | .lone w p n,ds=>(∀ d∈ds,InF w p 0 d∧d.sn=none)∧Tail 1 n w∧p.length≤12+n
 | .beh w p k i f,ds=>k < 10∧(∀ d∈ds,InF w p k d)∧ak w p=[]∧(∃ d,ds[i]? = some d∧d.sn=some (av f)∧f∈d.qu)∧p=aG f.1 f.2∧∀ (j:Nat) d,ds[j]? = some d→j≠i→d.sn=none
 | .mess z,ds=>z≤5∧(∀ d∈ds,MN z d)∧∃ d∈ds,d.st = .cry∧d.ps=z
 | .settle n,ds=>∀ d∈ds,(d.st = .cry∧d.ps < 6∧6≤d.ps+n)∨(d.st = .dazed∧d.ps=0)
 | .daz k,ds=>k < 8∧∀ d∈ds,d.st = .dazed∧d.ps=k
def NU (ds:List Nd):Prop:=∀ (i j:Nat) (d e:Nd) (f g:Fr),ds[i]? = some d→ds[j]? = some e→f∈d.qu→g∈e.qu→f.1=g.1→i=j
def KeA (ds:List Nd) (flip:Int):Prop:=∀ d∈ds,Ke d (d.begin.hear (ao ds flip))
theorem NU.step {ds:List Nd} {flip:Int} (h:NU ds) (k:KeA ds flip):NU (ap ds flip):=fun i j d e f g ed ee hf hg hn=>by
 obtain ⟨d0,e1,rfl⟩:=bG ed
 obtain ⟨d1,e2,rfl⟩:=bG ee
 rw [(k d0 (List.mem_of_getElem? e1)).1] at hf
 rw [(k d1 (List.mem_of_getElem? e2)).1] at hg
 exact h i j d0 d1 f g e1 e2 hf hg hn
section
variable {ds:List Nd} {w p:List Int} {d:Nd}
theorem InF.busy {k:Nat} (h:InF w p k d):d.begin=d:=aS (by rw [h.1];decide)
theorem InF.over {k:Nat} (h:InF w p k d):d.over=decide (ak w p=[]):=by unfold Nd.over;rw [h.2.2.1,h.2.2.2]
theorem InF.stuffed {k:Nat} (h:InF w p k d) (ho:ak w p≠[]) (b:Int):d.begin.hear b=d.hearStuffed b:=by
 rw [h.busy]
 unfold Nd.hear Nd.hearFrame
 rw [h.1,h.over,decide_eq_false ho]
 rfl
theorem InF.put0 {k:Nat} (h:InF w p k d) (ho:ak w p≠[]):d.put=(match d.sn with | none=>1 | some s=>s.getD w.length 0):=by
 unfold Nd.put Nd.putFrame Nd.due
 rw [h.1,h.over,decide_eq_false ho,h.2.2.1]
 rfl
theorem InF.sender {k:Nat} (h:InF w p k d) (ok:NdOk d) (ho:ak w p≠[]) (hs:d.sn≠none):∃ f,f∈d.qu∧d.sn=some (av f)∧w++[d.put] <+: av f∧eE f.1 f.2:=by
 cases e:d.sn with
 | none=>exact absurd e hs
 | some s=>
  obtain ⟨f,hf,rfl,hp⟩:=ok.sn s h.1 e
  have hl:=ok.more h.1 e (by rw [h.over,decide_eq_false ho])
  rw [h.2.2.1] at hp hl
  refine ⟨f,hf,rfl,?_,ok.qu f hf⟩
  have:=cT hp hl
  rw [h.put0 ho,e]
  exact this
theorem InF.quiet {k:Nat} (h:InF w p k d) (ho:ak w p≠[]) (hs:d.sn=none):d.put=1:=by rw [h.put0 ho,hs]
theorem cL {k:Nat} (h:InF w p k d) (ho:ak w p≠[]) (b:Int):d.hears b=true↔d.sn≠none∧b≠d.put:=by
 rw [h.put0 ho]
 unfold Nd.hears Nd.due
 cases e:d.sn with
 | none=>simp
 | some s=>rw [h.2.2.1];simp
theorem fX {b:Int} (h:d.hears b=false):d.giveWay b=d:=by
 unfold Nd.giveWay
 rw [h]
 rfl
theorem ln (h:d.hears 0=true) (ha:d.atName=true):(d.giveWay 0).sn=none∧(d.giveWay 0).hears 0=false:=by
 unfold Nd.giveWay
 rw [h,ha,if_pos (by rfl)]
 exact ⟨rfl,rfl⟩
theorem fY {b:Int} (h:d.atName=false∨b≠0):d.giveWay b=d:=by
 unfold Nd.giveWay
 rcases h with h | h
 ·rw [h,Bool.and_false,if_neg (by decide)]
 ·rw [decide_eq_false h,Bool.and_false,Bool.false_and,if_neg (by decide)]
theorem InF.name {k:Nat} (h:InF w p k d):d.atName=(!due w && decide (1≤p.length) && decide (p.length < 12)):=by unfold Nd.atName;rw [h.2.2.1,h.2.2.2]
theorem InF.mn (h:InF w p 0 d) (ho:ak w p≠[]) (b:Int):MN 0 (d.hearStuffed b)∧Ke d (d.hearStuffed b):=by
 rcases b9 d b with ⟨e1,_⟩ | ⟨e1,_,hc⟩ <;> rw [e1]
 ·exact ⟨.inl ⟨rfl,show 0 < 6 by decide⟩,uo d b⟩
 ·obtain ⟨k,a1,a2,a3,a4,_⟩:=mw d b
  refine ⟨?_,k⟩
  cases ho2:((d.giveWay b).take b).over with
  | true=>exact .inr (.inr (.inr (.inl ⟨by decide,a1.trans h.1,by rw [a2,h.2.1];decide,ho2⟩)))
  | false=>exact .inr (.inr (.inl ⟨by decide,a1.trans h.1,a2.trans h.2.1,ho2,.inl rfl⟩))
theorem InF.takes {b:Int} (h:InF w p 0 d) (hh:(d.giveWay b).hears b=false) (hc:b∈ak w p):d.hearStuffed b=(d.giveWay b).take b∧InF (w++[b]) (bz w p b) 0 (d.hearStuffed b)∧Ke d (d.hearStuffed b)∧(d.hearStuffed b).sn=(d.giveWay b).sn:=by
 rw [← h.2.2.1,← h.2.2.2] at hc
 rcases b9 d b with ⟨e1,z | z⟩ | ⟨e1,_,_⟩
 ·rw [hh] at z;cases z
 ·exact absurd hc z
 ·obtain ⟨k,a1,a2,a3,a4,a5⟩:=mw d b
  rw [e1]
  exact ⟨rfl,⟨a1.trans h.1,a2.trans h.2.1,by rw [a3,h.2.2.1],by rw [a4,h.2.2.1,h.2.2.2]⟩,k,a5⟩
theorem qZ (hin:∀ d∈ds,InF w p 0 d) (ok:AllOk ds) (ho:ak w p≠[]):(bf ds=0∧∃ d∈ds,d.sn≠none∧d.put=0)∨(bf ds=1∧∀ d∈ds,d.put=1):=by
 by_cases c:0∈ds.map Nd.put
 ·left
  obtain ⟨d,hd,e⟩:=List.mem_map.mp c
  refine ⟨qX hd e,d,hd,fun z => ?_,e⟩
  rw [(hin d hd).quiet ho z] at e
  cases e
 ·right
  have h1:∀ d∈ds,d.put=1:=fun d hd=>by
   rcases (ok d hd).put_bit with z | z
   ·exact absurd (List.mem_map.mpr ⟨d,hd,z⟩) c
   ·exact z
  exact ⟨lm h1,h1⟩
theorem mx (hin:∀ d∈ds,InF w p 0 d):ds.map Nd.begin=ds:=fW fun d hd=>by rw [(hin d hd).1];decide
theorem jF {i j:Nat} {a b:Nd} (hin:∀ d∈ds,InF w p 0 d) (ok:AllOk ds) (nu:NU ds) (ho:ak w p=[]) (ea:ds[i]? = some a) (eb:ds[j]? = some b) (ha:a.sn≠none) (hb:b.sn≠none) :
  i=j∧∃ f,f∈a.qu∧a.sn=some (av f)∧p=aG f.1 f.2:=by
 have key:∀ (i:Nat) a,ds[i]? = some a→a.sn≠none→∃ f,f∈a.qu∧a.sn=some (av f)∧p=aG f.1 f.2∧eE f.1 f.2:=fun i a ea ha=>by
  have hm:=List.mem_of_getElem? ea
  have h:=hin a hm
  cases e:a.sn with
  | none=>exact absurd e ha
  | some s=>
   obtain ⟨f,hf,rfl,hp⟩:=(ok a hm).sn s h.1 e
   obtain ⟨_,e2⟩:=(ok a hm).over_eq hf hp (by rw [h.over,decide_eq_true ho])
   exact ⟨f,hf,rfl,h.2.2.2.symm.trans e2,(ok a hm).qu f hf⟩
 obtain ⟨f,f1,f2,f3,f4⟩:=key i a ea ha
 obtain ⟨g,g1,g2,g3,g4⟩:=key j b eb hb
 refine ⟨nu i j a b f g ea eb f1 g1 ?_,f,f1,f2,f3⟩
 refine qQ (p:=p) f4 g4 (by rw [f3];exact List.prefix_refl _) (by rw [g3];exact List.prefix_refl _) ?_
 rw [f3,b8]
 omega
theorem tN (h:Rel2 (.fr w p) ds) (ok:AllOk ds) (nu:NU ds):KeA ds 0∧((∃ b,Rel2 (.fr (w++[b]) (bz w p b)) (ap ds 0))∨∃ b i f,Rel2 (.beh (w++[b]) (bz w p b) 0 i f) (ap ds 0)):=by
 obtain ⟨hin,ho,d0,hd0,hs0⟩:=h
 have hbit:ao ds 0=bf ds:=by rw [ba,mx hin]
 obtain ⟨b,hb,d1,hd1,hs1,hp1,hall⟩:∃ b,bf ds=b∧∃ d1∈ds,d1.sn≠none∧d1.put=b∧∀ d∈ds,d.put≠b→b=0∧d.put=1:=by
  rcases qZ hin ok ho with ⟨e,d1,hd1,hs1,hp1⟩ | ⟨e,h1⟩
  ·refine ⟨0,e,d1,hd1,hs1,hp1,fun d hd hne=>⟨rfl,?_⟩⟩
   rcases (ok d hd).put_bit with z | z
   ·exact absurd z hne
   ·exact z
  ·exact ⟨1,e,d0,hd0,hs0,h1 d0 hd0,fun d hd hne=>absurd (h1 d hd) hne⟩
 rw [hb] at hbit
 obtain ⟨f1,m1,e1,pre1,g1⟩:=(hin d1 hd1).sender (ok d1 hd1) ho hs1
 rw [hp1] at pre1
 have hrd:Rd w p:=by have:=(ok d1 hd1).rd;rw [(hin d1 hd1).2.2.1,(hin d1 hd1).2.2.2] at this;exact this
 have hc:b∈ak w p:=cI g1 hrd pre1
 have noh:∀ d∈ds,(d.giveWay b).hears b=false:=fun d hd=>by
  cases hh:d.hears b with
  | false=>rw [fX hh,hh]
  | true=>
   obtain ⟨hs,hne⟩:=(cL (hin d hd) ho b).mp hh
   obtain ⟨rfl,hp⟩:=hall d hd (Ne.symm hne)
   obtain ⟨f,m,e,pre,g⟩:=(hin d hd).sender (ok d hd) ho hs
   rw [hp] at pre
   have hf:f1.1≠f.1:=fun z=>by
    obtain ⟨i,ei⟩:=List.mem_iff_getElem?.mp hd1
    obtain ⟨j,ej⟩:=List.mem_iff_getElem?.mp hd
    have:=nu i j d1 d f1 f ei ej m1 m z
    subst this
    rw [ei] at ej
    cases ej
    rw [hp1] at hp
    cases hp
   have ha:due w=false∧1≤p.length∧p.length < 12:=by
    rcases Int.lt_or_gt_of_ne hf with z | z
    ·rcases arb g1 g z hrd pre1 pre with y | ⟨_,_,y⟩
     ·cases y
     ·exact y
    ·rcases arb g g1 z hrd pre pre1 with y | ⟨y,_⟩
     ·cases y
     ·cases y
   exact (ln hh (by rw [(hin d hd).name,ha.1,decide_eq_true ha.2.1,decide_eq_true ha.2.2];rfl)).2
 have one:∀ d∈ds,InF (w++[b]) (bz w p b) 0 (d.begin.hear (ao ds 0))∧Ke d (d.begin.hear (ao ds 0))∧(d.begin.hear (ao ds 0)).sn=(d.giveWay b).sn:=fun d hd=>by
  rw [hbit,(hin d hd).stuffed ho]
  obtain ⟨_,a,k,s⟩:=(hin d hd).takes (noh d hd) hc
  exact ⟨a,k,s⟩
 have ke:KeA ds 0:=fun d hd=>(one d hd).2.1
 have hin':∀ c∈ap ds 0,InF (w++[b]) (bz w p b) 0 c:=fun c hcm=>by
  obtain ⟨d,hd,rfl⟩:=aT hcm
  exact (one d hd).1
 have sn1:(d1.begin.hear (ao ds 0)).sn≠none:=by
  rw [(one d1 hd1).2.2,fX (by cases hh:d1.hears b with | false=>rfl | true=>exact absurd hp1.symm ((cL (hin d1 hd1) ho b).mp hh).2)]
  exact hs1
 refine ⟨ke,?_⟩
 by_cases hov:ak (w++[b]) (bz w p b)=[]
 ·obtain ⟨i,ei⟩:=List.mem_iff_getElem?.mp hd1
  have ei':=fV (flip:=0) ei
  have ok':=ok.step 0
  have nu':=nu.step ke
  obtain ⟨_,f,a1,a2,a3⟩:=jF hin' ok' nu' hov ei' ei' sn1 sn1
  refine .inr ⟨b,i,f,by decide,hin',hov,⟨_,ei',a2,a1⟩,a3,fun j d ej hne => ?_⟩
  cases hs:d.sn with
  | none=>rfl
  | some s=>exact absurd (jF hin' ok' nu' hov ej ei' (by rw [hs];simp) sn1).1 hne
 ·exact .inl ⟨b,hin',hov,_,cV hd1,sn1⟩
theorem q9 (h:Rel2 (.fr w p) ds) (ok:AllOk ds):KeA ds 1∧(Rel2 (.mess 0) (ap ds 1)∨∃ w p,Rel2 (.lone w p 0) (ap ds 1)):=by
 obtain ⟨hin,ho,d0,hd0,hs0⟩:=h
 have hbit:ao ds 1=1 - bf ds:=by rw [cg,mx hin]
 have ke:KeA ds 1:=fun d hd=>by
  rw [(hin d hd).stuffed ho]
  exact ((hin d hd).mn ho _).2
 have all:∀ c∈ap ds 1,MN 0 c:=fun c hc=>by
  obtain ⟨d,hd,rfl⟩:=aT hc
  rw [(hin d hd).stuffed ho]
  exact ((hin d hd).mn ho _).1
 have cries:∀ d∈ds,∀ b,ao ds 1=b→((d.giveWay b).hears b=true∨b∉ak w p)→Rel2 (.mess 0) (ap ds 1):=fun d hd b eb hh=>by
  refine ⟨by decide,all,_,cV hd,?_⟩
  rw [(hin d hd).stuffed ho,eb]
  rcases b9 d b with ⟨e1,_⟩ | ⟨e1,e2,e3⟩
  ·rw [e1];exact ⟨rfl,rfl⟩
  ·rw [(hin d hd).2.2.1,(hin d hd).2.2.2] at e3
   rcases hh with z | z
   ·rw [e2] at z;cases z
   ·exact absurd e3 z
 refine ⟨ke,?_⟩
 rcases qZ hin ok ho with ⟨e,d1,hd1,hs1,hp1⟩ | ⟨e,h1⟩
 ·rw [e] at hbit
  refine .inl (cries d1 hd1 1 hbit (.inl ?_))
  rw [fY (.inr (by decide))]
  exact (cL (hin d1 hd1) ho 1).mpr ⟨hs1,by rw [hp1];decide⟩
 ·rw [e] at hbit
  have hbit:ao ds 1=0:=hbit
  have hh:∀ d∈ds,d.sn≠none→d.hears 0=true:=fun d hd hs=>(cL (hin d hd) ho 0).mpr ⟨hs,by rw [h1 d hd];decide⟩
  cases ha:(!due w && decide (1≤p.length) && decide (p.length < 12)) with
  | false=>
   refine .inl (cries d0 hd0 0 hbit (.inl ?_))
   rw [fY (.inl ((hin d0 hd0).name.trans ha))]
   exact hh d0 hd0 hs0
  | true=>
   by_cases hc:0∈ak w p
   ·refine .inr ⟨w++[0],bz w p 0,fun c hcm => ?_,.inl rfl,?_⟩
    ·obtain ⟨d,hd,rfl⟩:=aT hcm
     rw [(hin d hd).stuffed ho,hbit]
     have hg:(d.giveWay 0).sn=none∧(d.giveWay 0).hears 0=false:=by
      cases hs:d.sn with
      | none=>
       have:d.hears 0=false:=by unfold Nd.hears;rw [hs]
       rw [fX this]
       exact ⟨hs,this⟩
      | some s=>exact ln (hh d hd (by rw [hs];simp)) ((hin d hd).name.trans ha)
     obtain ⟨_,a,k,s⟩:=(hin d hd).takes hg.2 hc
     exact ⟨a,s.trans hg.1⟩
    ·simp only [Bool.and_eq_true,Bool.not_eq_true',decide_eq_true_eq] at ha
     unfold bz
     rw [ha.1.1,if_neg (by decide),List.length_append,List.length_singleton]
     omega
   ·exact .inl (cries d0 hd0 0 hbit (.inr hc))
end
end BB
namespace BB
section
variable {ds:List Nd} {w p:List Int} {d:Nd}
theorem tO {n:Nat} (r:Rd w p) (ht:Tail 1 n w) (hl:p.length≤12+n):ak w p≠[]:=fun z=>by
 obtain ⟨_,_,h3⟩:=r.fin.mp z
 have:=ht.le r
 have hc:16≤bh p:=by
  have h0:∀ k,0≤p.getD k 0:=fun k=>by
   rcases aM r.bp k with z | z <;> rw [z] <;> decide
  have:=h0 12
  have:=h0 13
  have:=h0 14
  have:=h0 15
  unfold bh cnt
  omega
 omega
theorem gG {n:Nat} (h:Rel2 (.lone w p n) ds) (ok:AllOk ds) (hne:ds≠[]):KeA ds 0∧n≤5∧((∃ w p,Rel2 (.lone w p (n+1)) (ap ds 0))∨Rel2 (.settle 6) (ap ds 0)):=by
 obtain ⟨hin,ht,hl⟩:=h
 obtain ⟨d0,hd0⟩:=List.exists_mem_of_ne_nil _ hne
 have hrd:Rd w p:=by have:=(ok d0 hd0).rd;rw [(hin d0 hd0).1.2.2.1,(hin d0 hd0).1.2.2.2] at this;exact this
 have ho:=tO hrd ht hl
 have hbit:ao ds 0=1:=by
  rw [ba,mx fun d hd=>(hin d hd).1]
  exact lm fun d hd=>(hin d hd).1.quiet ho (hin d hd).2
 have noh:∀ d∈ds,d.hears 1=false:=fun d hd=>by unfold Nd.hears;rw [(hin d hd).2]
 have ke:KeA ds 0:=fun d hd=>by
  rw [(hin d hd).1.stuffed ho]
  exact ((hin d hd).1.mn ho _).2
 refine ⟨ke,ht.le hrd,?_⟩
 by_cases hc:1∈ak w p
 ·refine .inl ⟨w++[1],bz w p 1,fun c hcm => ?_,ht.snoc,?_⟩
  ·obtain ⟨d,hd,rfl⟩:=aT hcm
   rw [(hin d hd).1.stuffed ho,hbit]
   obtain ⟨_,a,k,s⟩:=(hin d hd).1.takes (by rw [fX (noh d hd)];exact noh d hd) hc
   exact ⟨a,by rw [s,fX (noh d hd)];exact (hin d hd).2⟩
  ·unfold bz
   split
   ·omega
   ·rw [List.length_append,List.length_singleton];omega
 ·refine .inr fun c hcm => ?_
  obtain ⟨d,hd,rfl⟩:=aT hcm
  rw [(hin d hd).1.stuffed ho,hbit]
  rcases b9 d 1 with ⟨e1,_⟩ | ⟨_,_,e3⟩
  ·rw [e1]
   exact .inl ⟨rfl,show 0 < 6 by decide,show 6≤0+6 by decide⟩
  ·rw [(hin d hd).1.2.2.1,(hin d hd).1.2.2.2] at e3
   exact absurd e3 hc
theorem InF.behind {k:Nat} (h:InF w p k d) (ho:ak w p=[]) (b:Int):d.begin.hear b=d.hearBehind b:=by
 rw [h.busy]
 unfold Nd.hear Nd.hearFrame
 rw [h.1,h.over,decide_eq_true ho]
 rfl
theorem InF.putB {k:Nat} (h:InF w p k d) (ho:ak w p=[]):d.put=if k=1∧d.sn=none then 0 else 1:=by
 unfold Nd.put Nd.putFrame
 rw [h.1,h.over,decide_eq_true ho,h.2.1]
 rfl
theorem j9 {k i:Nat} {f:Fr} (h:Rel2 (.beh w p k i f) ds) (h2:2≤ds.length):bf (ds.map Nd.begin)=if k=1 then 0 else 1:=by
 obtain ⟨hk,hin,ho,⟨d,ed,hsn,hq⟩,hp,hot⟩:=h
 rw [fW fun d hd=>by rw [(hin d hd).1];decide]
 by_cases c:k=1
 ·rw [if_pos c]
  obtain ⟨j,hj,hne⟩:∃ j,j < ds.length∧j≠i:=by
   by_cases z:i=0
   ·exact ⟨1,by omega,by omega⟩
   ·exact ⟨0,by omega,by omega⟩
  have ej:=List.getElem?_eq_getElem hj
  refine qX (List.mem_of_getElem? ej) ?_
  rw [(hin _ (List.mem_of_getElem? ej)).putB ho,if_pos ⟨c,hot j _ ej hne⟩]
 ·rw [if_neg c]
  refine lm fun d hd => ?_
  rw [(hin d hd).putB ho,if_neg fun z=>c z.1]
theorem rf {k i:Nat} {f:Fr} (h:Rel2 (.beh w p k i f) ds) (h2:2≤ds.length) (hk:k < 9):KeA ds 0∧Rel2 (.beh w p (k+1) i f) (ap ds 0):=by
 have hbit:ao ds 0=if k=1 then 0 else 1:=by rw [ba];exact j9 h h2
 obtain ⟨_,hin,ho,⟨d0,ed,hsn,hq⟩,hp,hot⟩:=h
 have one:∀ d∈ds,d.begin.hear (ao ds 0)={d with ps:=d.ps+1}:=fun d hd=>by
  rw [(hin d hd).behind ho,hbit]
  unfold Nd.hearBehind Nd.wrong
  rw [(hin d hd).2.1]
  by_cases c:k=1
  ·rw [if_pos c,if_pos c,if_neg (by rw [show decide ((0:Int)=1)=false from rfl,Bool.false_and];decide),if_neg (by omega)]
  ·rw [if_neg c,if_neg c,if_neg (by decide),if_neg (by omega)]
 refine ⟨fun d hd=>by rw [one d hd];exact ⟨rfl,rfl⟩,by omega,fun c hc => ?_,ho,⟨_,fV ed,?_⟩,hp,fun j c ej hne => ?_⟩
 ·obtain ⟨d,hd,rfl⟩:=aT hc
  rw [one d hd]
  exact ⟨(hin d hd).1,by show d.ps+1=k+1;rw [(hin d hd).2.1],(hin d hd).2.2⟩
 ·rw [one d0 (List.mem_of_getElem? ed)]
  exact ⟨hsn,hq⟩
 ·obtain ⟨d,e,rfl⟩:=bG ej
  rw [one d (List.mem_of_getElem? e)]
  exact hot j d e hne
theorem tP {i:Nat} {f:Fr} (h:Rel2 (.beh w p 9 i f) ds) (ok:AllOk ds) (h2:2≤ds.length):Rel2 (.rest 0) (ap ds 0)∧∀ (j:Nat) d c,ds[j]? = some d→(ap ds 0)[j]? = some c→(j=i→c.qu=Nd.dropName f.1 d.qu∧c.tk=d.tk)∧(j≠i→c.qu=d.qu∧c.tk=d.tk++[f]):=by
 have hbit:ao ds 0=1:=by rw [ba];exact j9 h h2
 obtain ⟨_,hin,ho,⟨d0,ed,hsn,hq⟩,hp,hot⟩:=h
 have g:=(ok d0 (List.mem_of_getElem? ed)).qu f hq
 have one:∀ d∈ds,d.begin.hear (ao ds 0)=({d with ps:=d.ps+1}:Nd).endFrame:=fun d hd=>by
  rw [(hin d hd).behind ho,hbit]
  unfold Nd.hearBehind Nd.wrong
  rw [(hin d hd).2.1]
  rfl
 have hnm:dk p=f.1∧je p=f.2:=by rw [hp];exact jD g
 refine ⟨⟨by decide,fun c hc => ?_⟩,fun j d c ej ec => ?_⟩
 ·obtain ⟨d,hd,rfl⟩:=aT hc
  rw [one d hd]
  unfold Nd.endFrame
  dsimp only
  split <;> exact ⟨rfl,rfl⟩
 ·rw [fV ej] at ec
  cases ec
  have hd:=List.mem_of_getElem? ej
  rw [one d hd]
  refine ⟨fun z => ?_,fun z => ?_⟩
  ·subst z
   rw [ed] at ej
   cases ej
   unfold Nd.endFrame
   dsimp only
   rw [hsn]
   dsimp only
   rw [(hin d0 hd).2.2.2,hnm.1]
   exact ⟨rfl,rfl⟩
  ·unfold Nd.endFrame
   dsimp only
   rw [hot j d ej z]
   dsimp only
   rw [(hin d hd).2.2.2,hnm.1,hnm.2]
   exact ⟨rfl,rfl⟩
theorem oA {k i:Nat} {f:Fr} (h:Rel2 (.beh w p k i f) ds) (h2:2≤ds.length):KeA ds 1∧Rel2 (.mess 0) (ap ds 1):=by
 have hbit:ao ds 1=if k=1 then 1 else 0:=by
  rw [cg,j9 h h2]
  split <;> rfl
 obtain ⟨hk,hin,ho,⟨d0,ed,hsn,hq⟩,hp,hot⟩:=h
 have hd0:=List.mem_of_getElem? ed
 by_cases c:k=1
 ·rw [if_pos c] at hbit
  have cry:d0.begin.hear (ao ds 1)=d0.cryOut:=by
   rw [(hin d0 hd0).busy,hbit]
   exact dq (hin d0 hd0).1 (by rw [(hin d0 hd0).over,decide_eq_true ho]) (by unfold Nd.wrong;rw [(hin d0 hd0).2.1,if_pos c,hsn];rfl)
  have oth:∀ (j:Nat) d,ds[j]? = some d→j≠i→d.begin.hear (ao ds 1)={d with ps:=d.ps+1}:=fun j d ej hne=>by
   have hd:=List.mem_of_getElem? ej
   rw [(hin d hd).behind ho,hbit]
   unfold Nd.hearBehind Nd.wrong
   rw [(hin d hd).2.1,c,hot j d ej hne]
   rfl
  refine ⟨fun d hd => ?_,by decide,fun x hx => ?_,_,cV hd0,?_⟩
  ·obtain ⟨j,ej⟩:=List.mem_iff_getElem?.mp hd
   by_cases z:j=i
   ·subst z
    rw [ed] at ej
    cases ej
    rw [cry]
    exact ⟨rfl,rfl⟩
   ·rw [oth j d ej z]
    exact ⟨rfl,rfl⟩
  ·obtain ⟨j,ec⟩:=List.mem_iff_getElem?.mp hx
   obtain ⟨d,ej,rfl⟩:=bG ec
   by_cases z:j=i
   ·subst z
    rw [ed] at ej
    cases ej
    rw [cry]
    exact .inl ⟨rfl,show 0 < 6 by decide⟩
   ·rw [oth j d ej z]
    have h:=hin d (List.mem_of_getElem? ej)
    exact .inr (.inr (.inr (.inl ⟨by decide,h.1,by show d.ps+1≠1;rw [h.2.1,c];decide,by show d.over=true;rw [h.over,decide_eq_true ho]⟩)))
  ·rw [cry]
   exact ⟨rfl,rfl⟩
 ·rw [if_neg c] at hbit
  have cry:∀ d∈ds,d.begin.hear (ao ds 1)=d.cryOut:=fun d hd=>by
   rw [(hin d hd).busy,hbit]
   exact dq (hin d hd).1 (by rw [(hin d hd).over,decide_eq_true ho]) (by unfold Nd.wrong;rw [(hin d hd).2.1,if_neg c];rfl)
  refine ⟨fun d hd=>by rw [cry d hd];exact ⟨rfl,rfl⟩,by decide,fun x hx => ?_,_,cV hd0,by rw [cry d0 hd0];exact ⟨rfl,rfl⟩⟩
  obtain ⟨d,hd,rfl⟩:=aT hx
  rw [cry d hd]
  exact .inl ⟨rfl,show 0 < 6 by decide⟩
end
end BB
namespace BB
section
variable {ds:List Nd} {d:Nd}
theorem nK (d:Nd) (x:Option (List Int)):InF [] [] 0 (d.enter x)∧ak [] []≠[]:=⟨⟨rfl,rfl,rfl,rfl⟩,by decide⟩
theorem g5 (h:d.st = .rest∨d.st = .free):InF [0] [0] 0 (d.hear 0)∧(d.hear 0).sn=none∧Ke d (d.hear 0):=by
 have e:d.hear 0=(d.enter none).hearStuffed 0:=by
  rcases h with h | h
  ·unfold Nd.hear Nd.hearBetween;rw [h];rfl
  ·unfold Nd.hear Nd.hearBetween;rw [h];rfl
 rw [e]
 have hh:(d.enter none).hears 0=false:=rfl
 obtain ⟨_,a,k,s⟩:=(nK d none).1.takes (b:=0) (by rw [fX hh];exact hh) (by decide)
 exact ⟨a,by rw [s,fX hh];rfl,k⟩
theorem lq {k:Nat} (h:Rel2 (.rest k) ds):ds.map Nd.begin=ds:=fW fun d hd=>by rw [(h.2 d hd).1];decide
theorem fZ (h:d.st = .rest∨d.st = .free∨d.st = .dazed):d.put=1:=by
 unfold Nd.put
 rcases h with h | h | h <;> rw [h]
theorem oB {k:Nat} (h:Rel2 (.rest k) ds):KeA ds 0∧((k+1 < 3∧Rel2 (.rest (k+1)) (ap ds 0))∨(k+1=3∧Rel2 .quiet (ap ds 0))):=by
 have hbit:ao ds 0=1:=by
  rw [ba,lq h]
  exact lm fun d hd=>fZ (.inl (h.2 d hd).1)
 have one:∀ d∈ds,d.begin.hear (ao ds 0)=d.passOne 3 .free:=fun d hd=>by
  rw [aS (by rw [(h.2 d hd).1];decide),hbit]
  unfold Nd.hear Nd.hearBetween
  rw [(h.2 d hd).1]
  rfl
 refine ⟨fun d hd=>by rw [one d hd];exact iP _ _ _,?_⟩
 have hk:=h.1
 by_cases c:k+1=3
 ·refine .inr ⟨c,fun x hx => ?_⟩
  obtain ⟨d,hd,rfl⟩:=aT hx
  rw [one d hd]
  unfold Nd.passOne
  rw [(h.2 d hd).2,if_pos c]
 ·refine .inl ⟨by omega,by omega,fun x hx => ?_⟩
  obtain ⟨d,hd,rfl⟩:=aT hx
  rw [one d hd]
  unfold Nd.passOne
  rw [(h.2 d hd).2,if_neg c]
  exact ⟨(h.2 d hd).1,rfl⟩
theorem ls (b:Int) (hb:ao ds b=0) (h:∀ d∈ds,d.begin=d∧(d.st = .rest∨d.st = .free)):KeA ds b∧Rel2 (.lone [0] [0] 0) (ap ds b):=by
 have one:∀ d∈ds,InF [0] [0] 0 (d.begin.hear (ao ds b))∧(d.begin.hear (ao ds b)).sn=none∧Ke d (d.begin.hear (ao ds b)):=fun d hd=>by
  rw [(h d hd).1,hb]
  exact g5 (h d hd).2
 refine ⟨fun d hd=>(one d hd).2.2,fun x hx => ?_,.inl rfl,by decide⟩
 obtain ⟨d,hd,rfl⟩:=aT hx
 exact ⟨(one d hd).1,(one d hd).2.1⟩
theorem my {k:Nat} (h:Rel2 (.rest k) ds):KeA ds 1∧Rel2 (.lone [0] [0] 0) (ap ds 1):=by
 refine ls 1 ?_ fun d hd=>⟨aS (by rw [(h.2 d hd).1];decide),.inl (h.2 d hd).1⟩
 rw [cg,lq h,lm fun d hd=>fZ (.inl (h.2 d hd).1)]
 rfl
theorem dP (h:d.st = .free) (hq:d.qu=[]):d.begin=d:=by unfold Nd.begin;rw [if_pos h,hq]
theorem iQ {f:Fr} {r:List Fr} (h:d.st = .free) (ok:NdOk d) (hq:d.qu=f :: r):d.begin=d.enter (some (av f))∧d.begin.put=0∧InF [0] [0] 0 (d.begin.hear 0)∧(d.begin.hear 0).sn=some (av f)∧d.begin.hear 1=d.begin.cryOut:=by
 have e:d.begin=d.enter (some (av f)):=by unfold Nd.begin;rw [if_pos h,hq]
 obtain ⟨hin,ho⟩:=nK d (some (av f))
 have hh:=(qY (ok.qu f (by rw [hq];simp))).1
 have hp:(d.enter (some (av f))).put=0:=by rw [hin.put0 ho];exact hh
 rw [e]
 have h0:(d.enter (some (av f))).hears 0=false:=by
  cases z:(d.enter (some (av f))).hears 0 with
  | false=>rfl
  | true=>exact absurd hp.symm ((cL hin ho 0).mp z).2
 have st:∀ b,(d.enter (some (av f))).hear b=(d.enter (some (av f))).hearStuffed b:=fun b=>by
  have:=hin.stuffed ho b
  rw [hin.busy] at this
  exact this
 obtain ⟨_,a,k,s⟩:=hin.takes (b:=0) (by rw [fX h0];exact h0) (by decide)
 refine ⟨rfl,hp,by rw [st];exact a,by rw [st,s,fX h0];rfl,?_⟩
 rw [st]
 rcases b9 (d.enter (some (av f))) 1 with ⟨e1,_⟩ | ⟨_,e2,_⟩
 ·rw [e1,fY (.inr (by decide))]
 ·rw [fY (.inr (by decide))] at e2
  have:=(cL hin ho 1).mpr ⟨by show some (av f)≠none;simp,by rw [hp];decide⟩
  rw [this] at e2
  cases e2
theorem jG (h:Rel2 .quiet ds) (hq:∀ d∈ds,d.qu=[]):(KeA ds 0∧Rel2 .quiet (ap ds 0))∧KeA ds 1∧Rel2 (.lone [0] [0] 0) (ap ds 1):=by
 have hb:ds.map Nd.begin=ds:=by
  conv=>rhs;rw [← List.map_id ds]
  exact List.map_congr_left fun d hd=>dP (h d hd) (hq d hd)
 have hw:bf (ds.map Nd.begin)=1:=by rw [hb];exact lm fun d hd=>fZ (.inr (.inl (h d hd)))
 refine ⟨?_,ls 1 (by rw [cg,hw];rfl) fun d hd=>⟨dP (h d hd) (hq d hd),.inr (h d hd)⟩⟩
 have one:∀ d∈ds,d.begin.hear (ao ds 0)=d:=fun d hd=>by
  rw [dP (h d hd) (hq d hd),ba,hw]
  unfold Nd.hear Nd.hearBetween
  rw [h d hd]
  rfl
 refine ⟨fun d hd=>by rw [one d hd];exact ⟨rfl,rfl⟩,fun x hx => ?_⟩
 obtain ⟨d,hd,rfl⟩:=aT hx
 rw [one d hd]
 exact h d hd
theorem jH (h:Rel2 .quiet ds) (ok:AllOk ds) {d0:Nd} (hd0:d0∈ds) (hq:d0.qu≠[]):(KeA ds 0∧Rel2 (.fr [0] [0]) (ap ds 0))∧KeA ds 1∧Rel2 (.mess 0) (ap ds 1):=by
 obtain ⟨f0,r0,q0⟩:=List.exists_cons_of_ne_nil hq
 have hs0:=iQ (h d0 hd0) (ok d0 hd0) q0
 have hw:bf (ds.map Nd.begin)=0:=qX (List.mem_map.mpr ⟨d0,hd0,rfl⟩) hs0.2.1
 have b0:ao ds 0=0:=by rw [ba,hw]
 have b1:ao ds 1=1:=by rw [cg,hw];rfl
 have one:∀ d∈ds,InF [0] [0] 0 (d.begin.hear 0)∧Ke d (d.begin.hear 0)∧MN 0 (d.begin.hear 1)∧Ke d (d.begin.hear 1):=fun d hd=>by
  cases e:d.qu with
  | nil=>
   rw [dP (h d hd) e]
   obtain ⟨a,_,k⟩:=g5 (.inr (h d hd))
   have e1:d.hear 1=d:=by unfold Nd.hear Nd.hearBetween;rw [h d hd];rfl
   rw [e1]
   exact ⟨a,k,.inr (.inr (.inr (.inr ⟨rfl,h d hd⟩))),rfl,rfl⟩
  | cons f r=>
   obtain ⟨s1,s2,s3,s4,s5⟩:=iQ (h d hd) (ok d hd) e
   rw [s5]
   refine ⟨s3,?_,.inl ⟨rfl,show 0 < 6 by decide⟩,(tM d).trans ⟨rfl,rfl⟩⟩
   have:=(MN.step (z:=0) (.inr (.inr (.inr (.inr ⟨rfl,h d hd⟩)))) (ok d hd) (by decide)).2
   exact this
 refine ⟨⟨fun d hd=>by rw [b0];exact (one d hd).2.1,fun x hx => ?_,by decide,_,cV hd0,?_⟩,fun d hd=>by rw [b1];exact (one d hd).2.2.2,by decide,fun x hx => ?_,_,cV hd0,?_⟩
 ·obtain ⟨d,hd,rfl⟩:=aT hx
  rw [b0]
  exact (one d hd).1
 ·rw [b0,hs0.2.2.2.1]
  simp
 ·obtain ⟨d,hd,rfl⟩:=aT hx
  rw [b1]
  exact (one d hd).2.2.1
 ·rw [b1,hs0.2.2.2.2]
  exact ⟨rfl,rfl⟩
theorem lu (h:d.st = .cry):d.begin.put=0:=by
 rw [aS (by rw [h];decide)]
 unfold Nd.put
 rw [h]
theorem ka (h:d.st = .cry) (b:Int):d.begin.hear b=d.passOne 6 .dazed:=by
 rw [aS (by rw [h];decide)]
 unfold Nd.hear
 rw [h]
theorem oC {z:Nat} (h:Rel2 (.mess z) ds) (ok:AllOk ds):KeA ds 0∧((z < 5∧Rel2 (.mess (z+1)) (ap ds 0))∨(z=5∧Rel2 (.settle 6) (ap ds 0))):=by
 obtain ⟨hz,hall,d0,hd0,h0,p0⟩:=h
 have b0:ao ds 0=0:=by rw [ba];exact qX (List.mem_map.mpr ⟨d0,hd0,rfl⟩) (lu h0)
 have one:∀ d∈ds,MN (z+1) (d.begin.hear (ao ds 0))∧Ke d (d.begin.hear (ao ds 0)):=fun d hd=>by
  rw [b0]
  exact (hall d hd).step (ok d hd) hz
 refine ⟨fun d hd=>(one d hd).2,?_⟩
 rcases Nat.lt_or_ge z 5 with c | c
 ·refine .inl ⟨c,by omega,fun x hx => ?_,_,cV hd0,?_⟩
  ·obtain ⟨d,hd,rfl⟩:=aT hx
   exact (one d hd).1
  ·rw [ka h0]
   unfold Nd.passOne
   rw [p0,if_neg (by omega)]
   exact ⟨h0,rfl⟩
 ·have c:z=5:=by omega
  refine .inr ⟨c,fun x hx => ?_⟩
  obtain ⟨d,hd,rfl⟩:=aT hx
  subst c
  rcases (one d hd).1 with ⟨a,b⟩ | a | ⟨a,_⟩ | ⟨a,_⟩ | ⟨a,_⟩
  ·exact .inl ⟨a,b,by omega⟩
  ·exact .inr a
  ·omega
  ·omega
  ·cases a
theorem lv {n:Nat} (h:Rel2 (.settle n) ds):KeA ds 0∧((1≤n∧Rel2 (.settle (n - 1)) (ap ds 0))∨Rel2 (.daz 1) (ap ds 0)):=by
 have ke:∀ b,(b=0∨b=1)→∀ d∈ds,Ke d (d.begin.hear b):=fun b hb d hd=>by
  rcases h d hd with ⟨a,_⟩ | ⟨a,_⟩
  ·rw [ka a];exact iP _ _ _
  ·rw [aS (by rw [a];decide)]
   have e:d.hear b=d.hearDazed b:=by unfold Nd.hear;rw [a]
   rw [e]
   unfold Nd.hearDazed
   split
   ·exact ⟨rfl,rfl⟩
   ·exact iP _ _ _
 have kea:KeA ds 0:=fun d hd=>ke _ (eP ds 0) d hd
 refine ⟨kea,?_⟩
 by_cases c:∃ d∈ds,d.st = .cry
 ·obtain ⟨d0,hd0,h0⟩:=c
  have b0:ao ds 0=0:=by rw [ba];exact qX (List.mem_map.mpr ⟨d0,hd0,rfl⟩) (lu h0)
  have hn:1≤n:=by
   rcases h d0 hd0 with ⟨_,a,b⟩ | ⟨a,_⟩
   ·omega
   ·rw [h0] at a;cases a
  refine .inl ⟨hn,fun x hx => ?_⟩
  obtain ⟨d,hd,rfl⟩:=aT hx
  rcases h d hd with ⟨a,a1,a2⟩ | ⟨a,a1⟩
  ·rw [ka a]
   unfold Nd.passOne
   split
   ·exact .inr ⟨rfl,rfl⟩
   ·exact .inl ⟨a,by show d.ps+1 < 6;omega,by show 6≤d.ps+1+(n - 1);omega⟩
  ·rw [aS (by rw [a];decide),b0]
   have e:d.hear 0=d.hearDazed 0:=by unfold Nd.hear;rw [a]
   rw [e]
   exact .inr ⟨a,rfl⟩
 ·have all:∀ d∈ds,d.st = .dazed∧d.ps=0:=fun d hd=>by
   rcases h d hd with ⟨a,_⟩ | a
   ·exact absurd ⟨d,hd,a⟩ c
   ·exact a
  have b1:ao ds 0=1:=by
   rw [ba,fW fun d hd=>by rw [(all d hd).1];decide]
   exact lm fun d hd=>fZ (.inr (.inr (all d hd).1))
  refine .inr ⟨by decide,fun x hx => ?_⟩
  obtain ⟨d,hd,rfl⟩:=aT hx
  rw [aS (by rw [(all d hd).1];decide),b1]
  have e:d.hear 1=d.passOne 8 .rest:=by unfold Nd.hear Nd.hearDazed;rw [(all d hd).1];rfl
  rw [e]
  unfold Nd.passOne
  rw [(all d hd).2,if_neg (by decide)]
  exact ⟨(all d hd).1,rfl⟩
theorem rg {k:Nat} (h:Rel2 (.daz k) ds):KeA ds 0∧((k+1 < 8∧Rel2 (.daz (k+1)) (ap ds 0))∨(k+1=8∧Rel2 (.rest 0) (ap ds 0))):=by
 obtain ⟨hk,all⟩:=h
 have b1:ao ds 0=1:=by
  rw [ba,fW fun d hd=>by rw [(all d hd).1];decide]
  exact lm fun d hd=>fZ (.inr (.inr (all d hd).1))
 have one:∀ d∈ds,d.begin.hear (ao ds 0)=d.passOne 8 .rest:=fun d hd=>by
  rw [aS (by rw [(all d hd).1];decide),b1]
  unfold Nd.hear Nd.hearDazed
  rw [(all d hd).1]
  rfl
 refine ⟨fun d hd=>by rw [one d hd];exact iP _ _ _,?_⟩
 by_cases c:k+1=8
 ·refine .inr ⟨c,by decide,fun x hx => ?_⟩
  obtain ⟨d,hd,rfl⟩:=aT hx
  rw [one d hd]
  unfold Nd.passOne
  rw [(all d hd).2,if_pos c]
  exact ⟨rfl,rfl⟩
 ·refine .inl ⟨by omega,by omega,fun x hx => ?_⟩
  obtain ⟨d,hd,rfl⟩:=aT hx
  rw [one d hd]
  unfold Nd.passOne
  rw [(all d hd).2,if_neg c]
  exact ⟨(all d hd).1,rfl⟩
end
end BB
namespace BB
def CB:P2→Nat→Prop
 | .lone _ _ n,c=>c≤n
 | .mess z,c=>c≤z
 | .settle n,c=>c+n≤12
 | .daz k,c=>c≤12+k
 | _,_=>True
def Vm:P2→Nat→Nat
 | .quiet,n=>n * 110
 | .rest k,n=>n * 110+3 - k
 | .fr w _,n=>n * 110 - 1 - w.length
 | .lone _ _ i,n=>n * 110+23 - i
 | .beh _ _ k _ _,n=>n * 110 - 97 - k
 | .mess z,n=>n * 110+23 - z
 | .settle m,n=>n * 110+11+m
 | .daz k,n=>n * 110+11 - k
abbrev bB (l:List Snd):Prop:=l.Pairwise fun a b=>a.f.1≠b.f.1
theorem iR:∀ {l:List Snd},bB l→∀ x∈l,∀ y∈l,x.f.1=y.f.1→x=y
 | [],_,x,hx,_,_,_=>by cases hx
 | z :: l,h,x,hx,y,hy,e=>by
  obtain ⟨h1,h2⟩:=List.pairwise_cons.mp h
  rcases List.mem_cons.mp hx with a | a <;> rcases List.mem_cons.mp hy with b | b
  ·rw [a,b]
  ·subst a;exact absurd e (h1 y b)
  ·subst b;exact absurd e.symm (h1 x a)
  ·exact iR h2 x a y b e
structure Bq (ds:List Nd) (pend done:List Snd):Prop where
 ok:AllOk ds
 len:2≤ds.length
 qu:∀ (i:Nat) d,ds[i]? = some d→d.qu=qOf i pend
 tk:∀ (i:Nat) d,ds[i]? = some d→d.tk=(done.filter fun x=>decide (x.at_≠i)).map (·.f)
 names:bB (done++pend)
 at_:∀ x∈pend,x.at_ < ds.length
 row:∀ x∈pend,x.f.2.length≤2
section
variable {ds:List Nd} {pend done:List Snd} {flip:Int}
theorem Bq.nu (h:Bq ds pend done):NU ds:=fun i j d e f g ed ee hf hg hn=>by
 rw [h.qu i d ed] at hf
 rw [h.qu j e ee] at hg
 obtain ⟨x,hx,a1,a2⟩:=(eQ _).mp hf
 obtain ⟨y,hy,b1,b2⟩:=(eQ _).mp hg
 have:=iR (List.pairwise_append.mp h.names).2.1 x hx y hy (by rw [a2,b2];exact hn)
 rw [← a1,← b1,this]
theorem Bq.keep (h:Bq ds pend done) (k:KeA ds flip):Bq (ap ds flip) pend done:=by
 refine ⟨h.ok.step flip,by rw [bM];exact h.len,fun i c e => ?_,fun i c e => ?_,h.names,fun x hx=>by rw [bM];exact h.at_ x hx,h.row⟩
 ·obtain ⟨d,ed,rfl⟩:=bG e
  rw [(k d (List.mem_of_getElem? ed)).1]
  exact h.qu i d ed
 ·obtain ⟨d,ed,rfl⟩:=bG e
  rw [(k d (List.mem_of_getElem? ed)).2]
  exact h.tk i d ed
theorem Bq.last {w p:List Int} {i:Nat} {f:Fr} (h:Bq ds pend done) (r:Rel2 (.beh w p 9 i f) ds) :
  Rel2 (.rest 0) (ap ds 0)∧∃ pend' done',Bq (ap ds 0) pend' done'∧(done'++pend').Perm (done++pend)∧pend'.length+1=pend.length:=by
 obtain ⟨r0,key⟩:=tP r h.ok h.len
 obtain ⟨_,_,_,⟨d0,ed,_,hq⟩,_,_⟩:=r
 rw [h.qu i d0 ed] at hq
 obtain ⟨x,hx,a1,a2⟩:=(eQ _).mp hq
 obtain ⟨l,r,rfl⟩:=List.append_of_mem hx
 have hp:(done++[x]++(l++r)).Perm (done++(l++x :: r)):=by
  rw [List.append_assoc]
  refine List.Perm.append_left _ ?_
  exact (List.perm_middle (l₁:=l) (l₂:=r) (a:=x)).symm
 have hn:=(List.pairwise_append.mp h.names).2.1
 have out:=wb (l:=l) (r:=r) (x:=x) fun y hy _=>(List.pairwise_append.mp hn).2.2 y hy x List.mem_cons_self
 have sub:∀ y∈l++r,y∈l++x :: r:=fun y hy=>by
  rcases List.mem_append.mp hy with z | z
  ·exact List.mem_append.mpr (.inl z)
  ·exact List.mem_append.mpr (.inr (List.mem_cons_of_mem _ z))
 refine ⟨r0,l++r,done++[x],⟨h.ok.step 0,by rw [bM];exact h.len,fun j c e => ?_,fun j c e => ?_,?_,fun y hy=>by rw [bM];exact h.at_ y (sub y hy),fun y hy=>h.row y (sub y hy)⟩,hp,?_⟩
 ·obtain ⟨d,e1,rfl⟩:=bG e
  obtain ⟨k1,k2⟩:=key j d _ e1 e
  rw [out j]
  by_cases z:j=i
  ·rw [(k1 z).1,if_pos (a1.trans z.symm),h.qu j d e1,a2]
  ·rw [(k2 z).1,if_neg (fun y=>z (y.symm.trans a1)),h.qu j d e1]
 ·obtain ⟨d,e1,rfl⟩:=bG e
  obtain ⟨k1,k2⟩:=key j d _ e1 e
  rw [List.filter_append,List.map_append,← h.tk j d e1]
  by_cases z:j=i
  ·rw [(k1 z).2,List.filter_cons_of_neg (by simp [a1,z])]
   simp
  ·rw [(k2 z).2,List.filter_cons_of_pos (by simp [a1];exact fun y=>z y.symm),← a2]
   rfl
 ·exact (List.Perm.pairwise_iff (fun h=>Ne.symm h) hp).mpr h.names
 ·simp only [List.length_append,List.length_cons]
  omega
theorem Bq.some (h:Bq ds pend done) (hp:pend≠[]):∃ d∈ds,d.qu≠[]:=by
 obtain ⟨x,hx⟩:=List.exists_mem_of_ne_nil _ hp
 have e:=List.getElem?_eq_getElem (h.at_ x hx)
 refine ⟨_,List.mem_of_getElem? e,fun z => ?_⟩
 have hm:=(eQ pend).mpr ⟨x,hx,rfl,rfl⟩
 rw [← h.qu _ _ e,z] at hm
 cases hm
theorem Bq.none (h:Bq ds pend done) (hp:pend=[]):∀ d∈ds,d.qu=[]:=fun d hd=>by
 obtain ⟨i,e⟩:=List.mem_iff_getElem?.mp hd
 rw [h.qu i d e,hp]
 rfl
theorem Bq.long (h:Bq ds pend done) {d:Nd} {f:Fr} (hd:d∈ds) (hf:f∈d.qu):(av f).length≤94∧1≤pend.length:=by
 obtain ⟨i,e⟩:=List.mem_iff_getElem?.mp hd
 rw [h.qu i d e] at hf
 obtain ⟨x,hx,_,a2⟩:=(eQ _).mp hf
 have h1:=iM (aG f.1 f.2)
 rw [b8] at h1
 have h2:=h.row x hx
 rw [a2] at h2
 refine ⟨?_,List.length_pos_of_mem hx⟩
 unfold av
 omega
structure Goes (ds:List Nd) (pend done:List Snd) (ph:P2) (c:Nat) (flip:Int):Prop where
 ex:∃ ph' pend' done',Bq (ap ds flip) pend' done'∧Rel2 ph' (ap ds flip)∧CB ph' (if flip=1 then 0 else c+1)∧(done'++pend').Perm (done++pend)∧pend'.length≤pend.length∧(flip=0→Vm ph' pend'.length+1≤Vm ph pend.length∨(Vm ph pend.length=0∧Vm ph' pend'.length=0))
theorem Bq.clean {ph:P2} {c:Nat} (h:Bq ds pend done) (r:Rel2 ph ds) (cb:CB ph c):Goes ds pend done ph c 0:=by
 have fin:∀ {ph'},KeA ds 0→Rel2 ph' (ap ds 0)→CB ph' (c+1)→(Vm ph' pend.length+1≤Vm ph pend.length∨(Vm ph pend.length=0∧Vm ph' pend.length=0))→Goes ds pend done ph c 0:=fun {ph'} k r c v=>
  ⟨ph',pend,done,h.keep k,r,c,List.Perm.refl _,Nat.le_refl _,fun _=>v⟩
 have hne:ds≠[]:=fun z=>by have:=h.len;rw [z] at this;simp at this
 cases ph with
 | quiet=>
  by_cases hp:pend=[]
  ·obtain ⟨⟨k,r'⟩,_⟩:=jG r (h.none hp)
   exact fin k r' trivial (.inr (by rw [hp];exact ⟨rfl,rfl⟩))
  ·obtain ⟨d,hd,hq⟩:=h.some hp
   obtain ⟨⟨k,r'⟩,_⟩:=jH r h.ok hd hq
   have:=List.length_pos_iff.mpr hp
   exact fin k r' trivial (.inl (by show pend.length * 110 - 1 - 1+1≤pend.length * 110;omega))
 | rest k=>
  obtain ⟨ke,z⟩:=oB r
  rcases z with ⟨a,r'⟩ | ⟨a,r'⟩
  ·exact fin ke r' trivial (.inl (by show pend.length * 110+3 - (k+1)+1≤pend.length * 110+3 - k;omega))
  ·exact fin ke r' trivial (.inl (by show pend.length * 110+1≤pend.length * 110+3 - k;omega))
 | fr w p=>
  obtain ⟨ke,z⟩:=tN r h.ok h.nu
  obtain ⟨hin,ho,d0,hd0,hs0⟩:=r
  obtain ⟨f,hf,_,pre,_⟩:=(hin d0 hd0).sender (h.ok d0 hd0) ho hs0
  obtain ⟨l1,l2⟩:=h.long hd0 hf
  have l3:=pre.length_le
  rw [List.length_append,List.length_singleton] at l3
  rcases z with ⟨b,r'⟩ | ⟨b,i,g,r'⟩
  ·exact fin ke r' trivial (.inl (by show pend.length * 110 - 1 - (w++[b]).length+1≤pend.length * 110 - 1 - w.length;rw [List.length_append,List.length_singleton];omega))
  ·exact fin ke r' trivial (.inl (by show pend.length * 110 - 97 - 0+1≤pend.length * 110 - 1 - w.length;omega))
 | lone w p n=>
  obtain ⟨ke,n5,z⟩:=gG r h.ok hne
  have cb:c≤n:=cb
  rcases z with ⟨w',p',r'⟩ | r'
  ·exact fin ke r' (by show c+1≤n+1;omega) (.inl (by show pend.length * 110+23 - (n+1)+1≤pend.length * 110+23 - n;omega))
  ·exact fin ke r' (by show c+1+6≤12;omega) (.inl (by show pend.length * 110+11+6+1≤pend.length * 110+23 - n;omega))
 | beh w p k i f=>
  have hk:=r.1
  obtain ⟨_,_,_,⟨d0,ed,_,hq⟩,_,_⟩:=id r
  obtain ⟨_,l2⟩:=h.long (List.mem_of_getElem? ed) hq
  by_cases c9:k < 9
  ·obtain ⟨ke,r'⟩:=rf r h.len c9
   exact fin ke r' trivial (.inl (by show pend.length * 110 - 97 - (k+1)+1≤pend.length * 110 - 97 - k;omega))
  ·have e9:k=9:=by omega
   subst e9
   obtain ⟨r0,pend',done',b',pm,pl⟩:=h.last r
   exact ⟨.rest 0,pend',done',b',r0,trivial,pm,by omega,fun _ => .inl (by show pend'.length * 110+3 - 0+1≤pend.length * 110 - 97 - 9;omega)⟩
 | mess z=>
  have cb:c≤z:=cb
  obtain ⟨ke,y⟩:=oC r h.ok
  rcases y with ⟨a,r'⟩ | ⟨a,r'⟩
  ·exact fin ke r' (by show c+1≤z+1;omega) (.inl (by show pend.length * 110+23 - (z+1)+1≤pend.length * 110+23 - z;omega))
  ·exact fin ke r' (by show c+1+6≤12;omega) (.inl (by show pend.length * 110+11+6+1≤pend.length * 110+23 - z;omega))
 | settle n=>
  have cb:c+n≤12:=cb
  obtain ⟨ke,y⟩:=lv r
  rcases y with ⟨a,r'⟩ | r'
  ·exact fin ke r' (by show c+1+(n - 1)≤12;omega) (.inl (by show pend.length * 110+11+(n - 1)+1≤pend.length * 110+11+n;omega))
  ·exact fin ke r' (by show c+1≤12+1;omega) (.inl (by show pend.length * 110+11 - 1+1≤pend.length * 110+11+n;omega))
 | daz k=>
  have cb:c≤12+k:=cb
  obtain ⟨ke,y⟩:=rg r
  rcases y with ⟨a,r'⟩ | ⟨a,r'⟩
  ·exact fin ke r' (by show c+1≤12+(k+1);omega) (.inl (by show pend.length * 110+11 - (k+1)+1≤pend.length * 110+11 - k;omega))
  ·exact fin ke r' trivial (.inl (by show pend.length * 110+3 - 0+1≤pend.length * 110+11 - k;omega))
theorem Bq.turned {ph:P2} {c:Nat} (h:Bq ds pend done) (r:Rel2 ph ds) (cb:CB ph c) (hc:60≤c):Goes ds pend done ph c 1:=by
 have fin:∀ {ph'},KeA ds 1→Rel2 ph' (ap ds 1)→CB ph' 0→Goes ds pend done ph c 1:=fun {ph'} k r c=>
  ⟨ph',pend,done,h.keep k,r,c,List.Perm.refl _,Nat.le_refl _,fun z=>by cases z⟩
 have hne:ds≠[]:=fun z=>by have:=h.len;rw [z] at this;simp at this
 cases ph with
 | quiet=>
  by_cases hp:pend=[]
  ·obtain ⟨_,k,r'⟩:=jG r (h.none hp)
   exact fin k r' (Nat.zero_le _)
  ·obtain ⟨d,hd,hq⟩:=h.some hp
   obtain ⟨_,k,r'⟩:=jH r h.ok hd hq
   exact fin k r' (Nat.zero_le _)
 | rest k=>
  obtain ⟨ke,r'⟩:=my r
  exact fin ke r' (Nat.zero_le _)
 | fr w p=>
  obtain ⟨ke,z⟩:=q9 r h.ok
  rcases z with r' | ⟨w',p',r'⟩
  ·exact fin ke r' (Nat.zero_le _)
  ·exact fin ke r' (Nat.zero_le _)
 | lone w p n=>
  obtain ⟨_,n5,_⟩:=gG r h.ok hne
  have cb:c≤n:=cb
  omega
 | beh w p k i f=>
  obtain ⟨ke,r'⟩:=oA r h.len
  exact fin ke r' (Nat.zero_le _)
 | mess z=>
  have cb:c≤z:=cb
  have:=r.1
  omega
 | settle n=>
  have cb:c+n≤12:=cb
  omega
 | daz k=>
  have cb:c≤12+k:=cb
  have:=r.1
  omega
end
end BB
namespace BB
def Like (d c:Nd):Prop:=c.st=d.st∧c.ps=d.ps∧c.ws=d.ws∧c.pl=d.pl∧c.sn=d.sn∧∀ f∈d.qu,f∈c.qu
theorem Like.refl (d:Nd):Like d d:=⟨rfl,rfl,rfl,rfl,rfl,fun _ z=>z⟩
theorem lw (d:Nd) (f:Fr):Like d (d.letWait f):=⟨rfl,rfl,rfl,rfl,rfl,fun g hg=>by rw [nJ];exact mem_ins.mpr (.inr hg)⟩
theorem Like.over {d c:Nd} (h:Like d c):c.over=d.over:=by unfold Nd.over;rw [h.2.2.1,h.2.2.2.1]
theorem Like.mn {z:Nat} {d c:Nd} (h:Like d c) (m:MN z d):MN z c:=by
 unfold MN at m ⊢
 rw [h.1,h.2.1,h.over,h.2.2.1]
 exact m
theorem Like.inF {w p:List Int} {k:Nat} {d c:Nd} (h:Like d c) (m:InF w p k d):InF w p k c:=⟨h.1.trans m.1,h.2.1.trans m.2.1,h.2.2.1.trans m.2.2.1,h.2.2.2.1.trans m.2.2.2⟩
theorem Rel2.like {ph:P2} {ds es:List Nd} (r:Rel2 ph ds) (back:∀ (i:Nat) c,es[i]? = some c→∃ d,ds[i]? = some d∧Like d c) (forth:∀ (i:Nat) d,ds[i]? = some d→∃ c,es[i]? = some c∧Like d c):Rel2 ph es:=by
 have bm:∀ c∈es,∃ d∈ds,Like d c:=fun c hc=>by
  obtain ⟨i,e⟩:=List.mem_iff_getElem?.mp hc
  obtain ⟨d,e2,l⟩:=back i c e
  exact ⟨d,List.mem_of_getElem? e2,l⟩
 have fm:∀ d∈ds,∃ c∈es,Like d c:=fun d hd=>by
  obtain ⟨i,e⟩:=List.mem_iff_getElem?.mp hd
  obtain ⟨c,e2,l⟩:=forth i d e
  exact ⟨c,List.mem_of_getElem? e2,l⟩
 cases ph with
 | quiet=>exact fun c hc=>let ⟨d,hd,l⟩:=bm c hc;l.1.trans (r d hd)
 | rest k=>exact ⟨r.1,fun c hc=>let ⟨d,hd,l⟩:=bm c hc;⟨l.1.trans (r.2 d hd).1,l.2.1.trans (r.2 d hd).2⟩⟩
 | fr w p=>
  obtain ⟨a,b,d,hd,hs⟩:=r
  obtain ⟨c,hc,l⟩:=fm d hd
  exact ⟨fun c hc=>let ⟨d,hd,l⟩:=bm c hc;l.inF (a d hd),b,c,hc,by rw [l.2.2.2.2.1];exact hs⟩
 | lone w p n=>exact ⟨fun c hc=>let ⟨d,hd,l⟩:=bm c hc;⟨l.inF (r.1 d hd).1,l.2.2.2.2.1.trans (r.1 d hd).2⟩,r.2⟩
 | beh w p k i f=>
  obtain ⟨a,b,c,⟨d,ed,hs,hq⟩,hp,hot⟩:=r
  obtain ⟨x,ex,l⟩:=forth i d ed
  exact ⟨a,fun c hc=>let ⟨d,hd,l⟩:=bm c hc;l.inF (b d hd),c,⟨x,ex,l.2.2.2.2.1.trans hs,l.2.2.2.2.2 f hq⟩,hp,fun j y ey hne=>let ⟨d,ed,l⟩:=back j y ey;l.2.2.2.2.1.trans (hot j d ed hne)⟩
 | mess z=>
  obtain ⟨a,b,d,hd,h1,h2⟩:=r
  obtain ⟨c,hc,l⟩:=fm d hd
  exact ⟨a,fun c hc=>let ⟨d,hd,l⟩:=bm c hc;l.mn (b d hd),c,hc,l.1.trans h1,l.2.1.trans h2⟩
 | settle n=>
  intro c hc
  obtain ⟨d,hd,l⟩:=bm c hc
  rw [l.1,l.2.1]
  exact r d hd
 | daz k=>exact ⟨r.1,fun c hc=>let ⟨d,hd,l⟩:=bm c hc;⟨l.1.trans (r.2 d hd).1,l.2.1.trans (r.2 d hd).2⟩⟩
theorem wd {ph:P2} {c n:Nat} (cb:CB ph c):Vm ph n≤n * 110+23:=by
 cases ph with
 | quiet=>show n * 110≤_;omega
 | rest k=>show n * 110+3 - k≤_;omega
 | fr w p=>show n * 110 - 1 - w.length≤_;omega
 | lone w p i=>show n * 110+23 - i≤_;omega
 | beh w p k i f=>show n * 110 - 97 - k≤_;omega
 | mess z=>show n * 110+23 - z≤_;omega
 | settle m=>have cb:c+m≤12:=cb;show n * 110+11+m≤_;omega
 | daz k=>show n * 110+11 - k≤_;omega
structure Bus2 (ds:List Nd) (sent:List Snd) (c v:Nat):Prop where
 ex:∃ ph pend done,Bq ds pend done∧Rel2 ph ds∧CB ph c∧(done++pend).Perm sent∧Vm ph pend.length≤v
section
variable {ds:List Nd} {sent:List Snd} {c v:Nat}
theorem Bus2.new {m:Nat} (h:2≤m):Bus2 (List.replicate m Nd.new) [] 60 0:=by
 have hr:∀ d∈List.replicate m Nd.new,d=Nd.new:=fun d hd=>List.eq_of_mem_replicate hd
 refine ⟨.quiet,[],[],⟨fun d hd => ?_,by rw [List.length_replicate];exact h,fun i d e => ?_,fun i d e => ?_,List.Pairwise.nil,fun x hx=>(by cases hx),fun x hx=>(by cases hx)⟩,fun d hd => ?_,trivial,List.Perm.refl _,Nat.le_refl _⟩
 ·rw [hr d hd];exact NdOk.new
 ·rw [hr d (List.mem_of_getElem? e)];rfl
 ·rw [hr d (List.mem_of_getElem? e)];rfl
 ·rw [hr d hd];rfl
theorem Bus2.mono {v':Nat} (h:Bus2 ds sent c v) (hv:v≤v'):Bus2 ds sent c v':=let ⟨a,b,d,e,f,g,i,j⟩:=h.ex;⟨a,b,d,e,f,g,i,Nat.le_trans j hv⟩
theorem Bus2.top (h:Bus2 ds sent c v):Bus2 ds sent c (sent.length * 110+23):=by
 obtain ⟨ph,pend,done,b,r,cb,pm,_⟩:=h.ex
 refine ⟨ph,pend,done,b,r,cb,pm,Nat.le_trans (wd cb) ?_⟩
 have:=pm.length_eq
 rw [List.length_append] at this
 omega
theorem Bus2.clean (h:Bus2 ds sent c v):Bus2 (ap ds 0) sent (c+1) (v - 1):=by
 obtain ⟨ph,pend,done,b,r,cb,pm,hv⟩:=h.ex
 obtain ⟨ph',pend',done',b',r',cb',pm',_,v'⟩:=(b.clean r cb).ex
 refine ⟨ph',pend',done',b',r',cb',pm'.trans pm,?_⟩
 rcases v' rfl with z | ⟨z1,z2⟩
 ·omega
 ·omega
theorem Bus2.turned (h:Bus2 ds sent c v) (hc:60≤c):Bus2 (ap ds 1) sent 0 (sent.length * 110+23):=by
 obtain ⟨ph,pend,done,b,r,cb,pm,hv⟩:=h.ex
 obtain ⟨ph',pend',done',b',r',cb',pm',_,v'⟩:=(b.turned r cb hc).ex
 exact (⟨⟨ph',pend',done',b',r',cb',pm'.trans pm,Nat.le_refl _⟩⟩:Bus2 _ _ _ _).top
def Spd:Nat→List Int→Prop
 | _,[]=>True
 | c,f :: fl=>(f=0∧Spd (c+1) fl)∨(f=1∧60≤c∧Spd 0 fl)
def up:Nat→List Int→Nat
 | c,[]=>c
 | c,f :: fl=>up (if f=1 then 0 else c+1) fl
theorem Spd.app:∀ {c:Nat} {a b:List Int},Spd c (a++b)↔Spd c a∧Spd (up c a) b
 | c,[],b=>by show Spd c b↔True∧Spd c b;simp
 | c,f :: a,b=>by
  show ((f=0∧Spd (c+1) (a++b))∨(f=1∧60≤c∧Spd 0 (a++b)))↔((f=0∧Spd (c+1) a)∨(f=1∧60≤c∧Spd 0 a))∧Spd (up (if f=1 then 0 else c+1) a) b
  rw [Spd.app,Spd.app]
  constructor
  ·rintro (⟨e,h1,h2⟩ | ⟨e,h0,h1,h2⟩)
   ·subst e;exact ⟨.inl ⟨rfl,h1⟩,h2⟩
   ·subst e;exact ⟨.inr ⟨rfl,h0,h1⟩,h2⟩
  ·rintro ⟨⟨e,h1⟩ | ⟨e,h0,h1⟩,h2⟩
   ·subst e;exact .inl ⟨rfl,h1,h2⟩
   ·subst e;exact .inr ⟨rfl,h0,h1,h2⟩
theorem Spd.zeros:∀ (c n:Nat),Spd c (List.replicate n 0)∧up c (List.replicate n 0)=c+n
 | c,0=>⟨trivial,rfl⟩
 | c,n+1=>by
  obtain ⟨a,b⟩:=Spd.zeros (c+1) n
  rw [List.replicate_succ]
  refine ⟨.inl ⟨rfl,a⟩,?_⟩
  show up (c+1) _=_
  rw [b]
  omega
theorem Bus2.run:∀ {fl:List Int} {ds:List Nd} {c v:Nat},Bus2 ds sent c v→Spd c fl→∃ v',Bus2 (bA ds fl) sent (up c fl) v'
 | [],_,_,v,h,_=>⟨v,h⟩
 | f :: fl,ds,c,v,h,s=>by
  rcases s with ⟨e,s⟩ | ⟨e,h0,s⟩
  ·subst e
   exact Bus2.run (fl:=fl) h.clean s
  ·subst e
   exact Bus2.run (fl:=fl) (h.turned h0) s
theorem Bus2.zeros:∀ (n:Nat) {ds:List Nd} {c v:Nat},Bus2 ds sent c v→Bus2 (bA ds (List.replicate n 0)) sent (c+n) (v - n)
 | 0,_,_,_,h=>h
 | n+1,ds,c,v,h=>by
  have:=Bus2.zeros n h.clean
  rw [List.replicate_succ]
  show Bus2 (bA (ap ds 0) (List.replicate n 0)) sent (c+(n+1)) (v - (n+1))
  rw [show c+(n+1)=c+1+n by omega,show v - (n+1)=v - 1 - n by omega]
  exact this
theorem Bus2.send {x:Snd} {d:Nd} (h:Bus2 ds sent c v) (e:ds[x.at_]? = some d) (g:eE x.f.1 x.f.2) (hr:x.f.2.length≤2) (hn:∀ y∈sent,y.f.1≠x.f.1):Bus2 (ds.set x.at_ (d.letWait x.f)) (sent++[x]) c (sent.length * 110+133):=by
 obtain ⟨ph,pend,done,b,r,cb,pm,_⟩:=h.ex
 have hi:=(List.getElem?_eq_some_iff.mp e).1
 have get:∀ (i:Nat) (c:Nd),(ds.set x.at_ (d.letWait x.f))[i]? = some c→(i=x.at_∧c=d.letWait x.f)∨(i≠x.at_∧ds[i]? = some c):=fun i c he=>by
  by_cases z:x.at_=i
  ·subst z
   rw [List.getElem?_set_self hi] at he
   cases he
   exact .inl ⟨rfl,rfl⟩
  ·rw [List.getElem?_set_ne z] at he
   exact .inr ⟨fun y=>z y.symm,he⟩
 have pm2:(done++(pend++[x])).Perm (sent++[x]):=by rw [← List.append_assoc];exact List.Perm.append_right _ pm
 refine ⟨ph,pend++[x],done,⟨fun y hy => ?_,by rw [List.length_set];exact b.len,fun i y he => ?_,fun i y he => ?_,?_,fun y hy => ?_,fun y hy => ?_⟩,r.like (fun i y he => ?_) (fun i y he => ?_),cb,pm2,?_⟩
 ·rcases List.mem_or_eq_of_mem_set hy with z | z
  ·exact b.ok y z
  ·rw [z];exact (b.ok d (List.mem_of_getElem? e)).letWait g
 ·rw [tJ]
  rcases get i y he with ⟨rfl,rfl⟩ | ⟨z1,z⟩
  ·rw [if_pos rfl,nJ,b.qu _ d e]
  ·rw [if_neg (fun y=>z1 y.symm)];exact b.qu i y z
 ·rcases get i y he with ⟨rfl,rfl⟩ | ⟨_,z⟩
  ·exact b.tk _ d e
  ·exact b.tk i y z
 ·rw [← List.append_assoc]
  refine List.pairwise_append.mpr ⟨b.names,List.pairwise_singleton _ _,fun y hy z hz => ?_⟩
  rw [List.mem_singleton.mp hz]
  exact hn y (pm.mem_iff.mp hy)
 ·rw [List.length_set]
  rcases List.mem_append.mp hy with z | z
  ·exact b.at_ y z
  ·rw [List.mem_singleton.mp z];exact hi
 ·rcases List.mem_append.mp hy with z | z
  ·exact b.row y z
  ·rw [List.mem_singleton.mp z];exact hr
 ·rcases get i y he with ⟨rfl,rfl⟩ | ⟨_,z⟩
  ·exact ⟨d,e,lw d x.f⟩
  ·exact ⟨y,z,Like.refl y⟩
 ·by_cases z:i=x.at_
  ·subst z
   rw [e] at he
   cases he
   exact ⟨d.letWait x.f,List.getElem?_set_self hi,lw d x.f⟩
  ·exact ⟨y,by rw [List.getElem?_set_ne (fun y=>z y.symm)];exact he,Like.refl y⟩
 ·have h1:=wd (n:=(pend++[x]).length) cb
  have h2:=pm.length_eq
  rw [List.length_append] at h1 h2
  rw [List.length_append]
  have h3:[x].length=1:=rfl
  rw [h3] at h1 ⊢
  omega
theorem Bus2.calm (h:Bus2 ds sent c v) (hq:∀ d∈ds,d.qu=[]):Bus2 ds sent c 23:=by
 obtain ⟨ph,pend,done,b,r,cb,pm,_⟩:=h.ex
 have hp:pend=[]:=by
  by_cases z:pend=[]
  ·exact z
  ·obtain ⟨d,hd,hne⟩:=b.some z
   exact absurd (hq d hd) hne
 refine ⟨ph,pend,done,b,r,cb,pm,?_⟩
 have:=wd (n:=pend.length) cb
 rw [hp] at this ⊢
 have e:([]:List Snd).length=0:=rfl
 rw [e] at this ⊢
 omega
theorem Bus2.over (h:Bus2 ds sent c 0):(∀ d∈ds,d.st = .free∧d.qu=[])∧∃ done,done.Perm sent∧bB done∧∀ (i:Nat) d,ds[i]? = some d→d.tk=(done.filter fun x=>decide (x.at_≠i)).map (·.f):=by
 obtain ⟨ph,pend,done,b,r,cb,pm,hv⟩:=h.ex
 have key:pend=[]∧∀ d∈ds,d.st = .free:=by
  cases ph with
  | quiet=>
   have hv:pend.length * 110≤0:=hv
   exact ⟨List.length_eq_zero_iff.mp (by omega),r⟩
  | rest k=>have hv:pend.length * 110+3 - k≤0:=hv;have:=r.1;omega
  | fr w p=>
   have hv:pend.length * 110 - 1 - w.length≤0:=hv
   obtain ⟨hin,ho,d0,hd0,hs0⟩:=r
   obtain ⟨f,hf,_,pre,_⟩:=(hin d0 hd0).sender (b.ok d0 hd0) ho hs0
   obtain ⟨l1,l2⟩:=b.long hd0 hf
   have l3:=pre.length_le
   rw [List.length_append,List.length_singleton] at l3
   omega
  | lone w p i=>
   have hv:pend.length * 110+23 - i≤0:=hv
   have hne:ds≠[]:=fun z=>by have:=b.len;rw [z] at this;simp at this
   have:=(gG r b.ok hne).2.1
   omega
  | beh w p k i f=>
   have hv:pend.length * 110 - 97 - k≤0:=hv
   have:=r.1
   obtain ⟨_,_,_,⟨d0,ed,_,hq⟩,_,_⟩:=id r
   have:=(b.long (List.mem_of_getElem? ed) hq).2
   omega
  | mess z=>have hv:pend.length * 110+23 - z≤0:=hv;have:=r.1;omega
  | settle m=>have hv:pend.length * 110+11+m≤0:=hv;omega
  | daz k=>have hv:pend.length * 110+11 - k≤0:=hv;have:=r.1;omega
 obtain ⟨hp,hf⟩:=key
 subst hp
 rw [List.append_nil] at pm
 have hn:=b.names
 rw [List.append_nil] at hn
 exact ⟨fun d hd=>⟨hf d hd,b.none rfl d hd⟩,done,pm,hn,b.tk⟩
end
end BB
namespace BB
structure Fl (fl:List Int) (last:Int):Prop where
 ex:∃ a:List Int,fl=a++List.replicate (300 - a.length) 0∧a.length≤300∧Spd 60 a∧(a.length:Int)≤last+61∧(a.length:Int)≤last+1+(up 60 a:Nat)
theorem Fl.start:Fl (List.replicate 300 0) (-60):=⟨[],rfl,Nat.zero_le _,trivial,by decide,by decide⟩
theorem Fl.len {fl:List Int} {last:Int} (h:Fl fl last):fl.length=300:=by
 obtain ⟨a,rfl,h1,_⟩:=h.ex
 rw [List.length_append,List.length_replicate]
 omega
theorem Fl.skip {fl:List Int} {last last':Int} (h:Fl fl last) (hl:last≤last'):Fl fl last':=by
 obtain ⟨a,h0,h1,h2,h3,h4⟩:=h.ex
 exact ⟨a,h0,h1,h2,by omega,by omega⟩
theorem Fl.sp {fl:List Int} {last:Int} (h:Fl fl last):Spd 60 fl:=by
 obtain ⟨a,rfl,h1,h2,_⟩:=h.ex
 exact Spd.app.mpr ⟨h2,(Spd.zeros _ _).1⟩
theorem we (k n:Nat) (h:n < k):(List.replicate k (0:Int)).set n 1=List.replicate n 0++[1]++List.replicate (k - n - 1) 0:=by
 induction n generalizing k with
 | zero=>
  obtain ⟨k,rfl⟩:∃ j,k=j+1:=⟨k - 1,by omega⟩
  rw [List.replicate_succ]
  show 1 :: List.replicate k (0:Int)=_
  rw [show k+1 - 0 - 1=k by omega]
  rfl
 | succ n ih=>
  obtain ⟨k,rfl⟩:∃ j,k=j+1:=⟨k - 1,by omega⟩
  rw [List.replicate_succ]
  show 0 :: (List.replicate k (0:Int)).set n 1=_
  rw [ih k (by omega),show k+1 - (n+1) - 1=k - n - 1 by omega,List.replicate_succ]
  rfl
theorem Fl.set {fl:List Int} {last:Int} {n:Nat} (h:Fl fl last) (hl:last+61≤(n:Int)) (hn:n < 300):Fl (fl.set n 1) n:=by
 obtain ⟨a,rfl,h1,h2,h3,h4⟩:=h.ex
 have ha:a.length≤n:=by omega
 refine ⟨a++(List.replicate (n - a.length) 0++[1]),?_,?_,?_,?_,?_⟩
 ·rw [List.set_append_right _ _ ha,we _ _ (by omega)]
  simp only [List.length_append,List.length_replicate,List.length_singleton,List.append_assoc]
  rw [show 300 - a.length - (n - a.length) - 1=300 - (a.length+(n - a.length+1)) by omega]
 ·simp only [List.length_append,List.length_replicate,List.length_singleton];omega
 ·refine Spd.app.mpr ⟨h2,Spd.app.mpr ⟨(Spd.zeros _ _).1,?_⟩⟩
  rw [(Spd.zeros _ _).2]
  exact .inr ⟨rfl,by omega,trivial⟩
 ·simp only [List.length_append,List.length_replicate,List.length_singleton];omega
 ·simp only [List.length_append,List.length_replicate,List.length_singleton]
  omega
def nm (x:Snd):Int:=x.f.1
theorem uq {l:List Snd} (h:bB l) (p q:Snd→Bool):((l.filter p).map nm).filter (fun n=>decide (n∈(l.filter q).map nm))=(l.filter fun x=>p x && q x).map nm:=by
 rw [List.filter_map,List.filter_filter]
 congr 1
 refine List.filter_congr fun x hx => ?_
 show (decide (nm x∈(l.filter q).map nm) && p x)=(p x && q x)
 rw [Bool.and_comm]
 congr 1
 rw [Bool.eq_iff_iff,decide_eq_true_iff,List.mem_map]
 constructor
 ·rintro ⟨y,hy,e⟩
  obtain ⟨h1,h2⟩:=List.mem_filter.mp hy
  rw [← iR h y h1 x hx e]
  exact h2
 ·intro z
  exact ⟨x,List.mem_filter.mpr ⟨hx,z⟩,rfl⟩
theorem oE {l:List Snd} (h:bB l) (p q:Snd→Bool):((l.filter p).map nm).filter (fun n=>decide (n∈(l.filter q).map nm))=((l.filter q).map nm).filter (fun n=>decide (n∈(l.filter p).map nm)):=by
 rw [uq h,uq h]
 congr 1
 refine List.filter_congr fun x _=>Bool.and_comm _ _
theorem nL:∀ {a b:List Fr},a.Perm b→a.Pairwise (fun x y=>x.1 < y.1)→b.Pairwise (fun x y=>x.1 < y.1)→a=b
 | [],b,h,_,_=>by rw [List.nil_perm.mp h]
 | x :: a,[],h,_,_=>by cases List.perm_nil.mp h
 | x :: a,y :: b,h,ha,hb=>by
  obtain ⟨a1,a2⟩:=List.pairwise_cons.mp ha
  obtain ⟨b1,b2⟩:=List.pairwise_cons.mp hb
  have e:x=y:=by
   rcases List.mem_cons.mp (h.mem_iff.mp List.mem_cons_self) with z | z
   ·exact z
   ·rcases List.mem_cons.mp (h.mem_iff.mpr List.mem_cons_self) with w | w
    ·exact w.symm
    ·have:=b1 x z
     have:=a1 y w
     omega
  subst e
  rw [nL ((List.perm_cons x).mp h) a2 b2]
end BB
namespace BB
section
variable {ds:List Nd} {sent:List Snd} {c v:Nat}
theorem Bus2.ok (h:Bus2 ds sent c v):AllOk ds:=let ⟨_,_,_,b,_⟩:=h.ex;b.ok
theorem Bus2.few (h:Bus2 ds sent c v):Few sent.length sent.length ds:=fun d hd=>by
 obtain ⟨ph,pend,done,b,_,_,pm,_⟩:=h.ex
 obtain ⟨i,e⟩:=List.mem_iff_getElem?.mp hd
 have hl:=pm.length_eq
 rw [List.length_append] at hl
 rw [b.qu i d e,b.tk i d e,List.length_map]
 have h1:=wc i pend
 have h2:=List.length_filter_le (fun x:Snd=>decide (x.at_≠i)) done
 omega
theorem Bus2.noname {name:Int} (h:Bus2 ds sent c v) (hn:∀ y∈sent,y.f.1≠name):∀ d∈ds,name∉d.qu.map (·.1):=fun d hd z=>by
 obtain ⟨ph,pend,done,b,_,_,pm,_⟩:=h.ex
 obtain ⟨i,e⟩:=List.mem_iff_getElem?.mp hd
 rw [b.qu i d e] at z
 obtain ⟨g,hg,eg⟩:=List.mem_map.mp z
 obtain ⟨x,hx,_,e2⟩:=(eQ _).mp hg
 exact hn x (pm.mem_iff.mp (List.mem_append.mpr (.inr hx))) (by rw [e2];exact eg)
end
end BB
set_option maxHeartbeats 4000000
set_option maxRecDepth 100000
namespace BB
open PySem L2
def top (i:Nat):Stmt:=PySem.Challenge.pw_bitbus_k21_whole_just_once.main.body.getD i (.Pass ⟨0,0,0,0⟩)
structure Cs where
 E:Addr
 F:Addr
 N:Addr
 B:Addr
 R:Addr
 D:Addr
 U:Addr
structure Txt (K:PySem.W.Frag) (mg:Str→Option Value) (c:Cs):Prop where
 range:mg "range" = none
 len:mg "len" = none
 isI:mg "isinstance" = none
 any:mg "any" = none
 int:mg "int" = none
 bool:mg "bool" = none
 list:mg "list" = none
 min:mg "min" = none
 sorted:mg "sorted" = none
 valueError:mg "ValueError" = none
 c_HIGHEST_NAME:∃ t,mg "HIGHEST_NAME" = some (.int 2047 t)
 c_HIGHEST_BYTE:∃ t,mg "HIGHEST_BYTE" = some (.int 255 t)
 c_MOST_BYTES:∃ t,mg "MOST_BYTES" = some (.int 8 t)
 c_NAME_BITS:∃ t,mg "NAME_BITS" = some (.int 11 t)
 c_COUNT_BITS:∃ t,mg "COUNT_BITS" = some (.int 4 t)
 c_BYTE_BITS:∃ t,mg "BYTE_BITS" = some (.int 8 t)
 c_CHECK_BITS:∃ t,mg "CHECK_BITS" = some (.int 15 t)
 c_CHECK_TURNS:∃ t,mg "CHECK_TURNS" = some (.int 17817 t)
 c_CHECK_HIGHEST:∃ t,mg "CHECK_HIGHEST" = some (.int 32767 t)
 c_MOST_LIKE_BITS:∃ t,mg "MOST_LIKE_BITS" = some (.int 5 t)
 c_NAME_AT:∃ t,mg "NAME_AT" = some (.int 1 t)
 c_COUNT_AT:∃ t,mg "COUNT_AT" = some (.int 12 t)
 c_ROW_AT:∃ t,mg "ROW_AT" = some (.int 16 t)
 c_FREE:∃ t,mg "FREE" = some (.str "free" t)
 c_FRAME:∃ t,mg "FRAME" = some (.str "frame" t)
 c_CRY:∃ t,mg "CRY" = some (.str "cry" t)
 c_DAZED:∃ t,mg "DAZED" = some (.str "dazed" t)
 c_REST:∃ t,mg "REST" = some (.str "rest" t)
 c_CRIED_BITS:∃ t,mg "CRIED_BITS" = some (.int 6 t)
 c_DAZED_ONES:∃ t,mg "DAZED_ONES" = some (.int 8 t)
 c_REST_ONES:∃ t,mg "REST_ONES" = some (.int 3 t)
 c_ANSWER_AT:∃ t,mg "ANSWER_AT" = some (.int 1 t)
 c_BITS_BEHIND:∃ t,mg "BITS_BEHIND" = some (.int 10 t)
 c_MOST_NODES:∃ t,mg "MOST_NODES" = some (.int 8 t)
 m_BusError:mg "BusError" = some (.ref c.E)
 m_BadFrame:mg "BadFrame" = some (.ref c.F)
 m_NoNode:mg "NoNode" = some (.ref c.N)
 m_BadBits:mg "BadBits" = some (.ref c.B)
 m_Reading:mg "Reading" = some (.ref c.R)
 m_Node:mg "Node" = some (.ref c.D)
 m_Bus:mg "Bus" = some (.ref c.U)
 d_in_bits:DefAt K mg "in_bits" (top 20)
 d_number_of:DefAt K mg "number_of" (top 21)
 d_check_of:DefAt K mg "check_of" (top 22)
 d_refuse_bad_frame:DefAt K mg "refuse_bad_frame" (top 23)
 d_bits_of:DefAt K mg "bits_of" (top 24)
 d_is_one_due:DefAt K mg "is_one_due" (top 25)
 d_stuffed:DefAt K mg "stuffed" (top 26)
 d_head_choices:DefAt K mg "head_choices" (top 27)
 d_check_place:DefAt K mg "check_place" (top 28)
 d_plain_choices:DefAt K mg "plain_choices" (top 29)
 d_choices_behind:DefAt K mg "choices_behind" (top 30)
 d_parts_of:DefAt K mg "parts_of" (top 31)
 d_Reading___init__:InitAt K c.R "Reading.__init__" (ai (top 32) 0)
 d_Reading_take:MethAt K c.R "take" "Reading.take" (ai (top 32) 1)
 d_Reading_is_over:MethAt K c.R "is_over" "Reading.is_over" (ai (top 32) 2)
 d_Reading_is_at_name:MethAt K c.R "is_at_name" "Reading.is_at_name" (ai (top 32) 3)
 d_Node___init__:InitAt K c.D "Node.__init__" (ai (top 44) 0)
 d_Node_has_waiting:MethAt K c.D "has_waiting" "Node.has_waiting" (ai (top 44) 1)
 d_Node_let_wait:MethAt K c.D "let_wait" "Node.let_wait" (ai (top 44) 2)
 d_Node_begin_if_free:MethAt K c.D "begin_if_free" "Node.begin_if_free" (ai (top 44) 3)
 d_Node_put:MethAt K c.D "put" "Node.put" (ai (top 44) 4)
 d_Node_put_in_frame:MethAt K c.D "put_in_frame" "Node.put_in_frame" (ai (top 44) 5)
 d_Node_hear:MethAt K c.D "hear" "Node.hear" (ai (top 44) 6)
 d_Node_hear_in_frame:MethAt K c.D "hear_in_frame" "Node.hear_in_frame" (ai (top 44) 7)
 d_Node_hear_stuffed:MethAt K c.D "hear_stuffed" "Node.hear_stuffed" (ai (top 44) 8)
 d_Node_hears_another:MethAt K c.D "hears_another" "Node.hears_another" (ai (top 44) 9)
 d_Node_hear_behind:MethAt K c.D "hear_behind" "Node.hear_behind" (ai (top 44) 10)
 d_Node_is_wrong_behind:MethAt K c.D "is_wrong_behind" "Node.is_wrong_behind" (ai (top 44) 11)
 d_Node_hear_dazed:MethAt K c.D "hear_dazed" "Node.hear_dazed" (ai (top 44) 12)
 d_Node_hear_between:MethAt K c.D "hear_between" "Node.hear_between" (ai (top 44) 13)
 d_Node_enter_frame:MethAt K c.D "enter_frame" "Node.enter_frame" (ai (top 44) 14)
 d_Node_end_frame:MethAt K c.D "end_frame" "Node.end_frame" (ai (top 44) 15)
 d_Node_drop_first:MethAt K c.D "drop_first" "Node.drop_first" (ai (top 44) 16)
 d_Node_cry_out:MethAt K c.D "cry_out" "Node.cry_out" (ai (top 44) 17)
 d_Node_pass_one:MethAt K c.D "pass_one" "Node.pass_one" (ai (top 44) 18)
 d_Node_turn_to:MethAt K c.D "turn_to" "Node.turn_to" (ai (top 44) 19)
 d_copies_of:DefAt K mg "copies_of" (top 47)
 d_Bus___init__:InitAt K c.U "Bus.__init__" (ai (top 48) 0)
 d_Bus_node_at:MethAt K c.U "node_at" "Bus.node_at" (ai (top 48) 1)
 d_Bus_heard:MethAt K c.U "heard" "Bus.heard" (ai (top 48) 3)
 d_Bus_waits:MethAt K c.U "waits" "Bus.waits" (ai (top 48) 4)
 d_Bus_mode:MethAt K c.U "mode" "Bus.mode" (ai (top 48) 6)
 d_waits_elsewhere:DefAt K mg "waits_elsewhere" (top 49)
 d_send:DefAt K mg "send" (top 50)
 d_step:DefAt K mg "step" (top 51)
 d_run:DefAt K mg "run" (top 52)
 d__law_cell:DefAt K mg "_law_cell" (top 54)
 d__law_mix:DefAt K mg "_law_mix" (top 55)
 d__law_frame:DefAt K mg "_law_frame" (top 57)
 d__law_told:DefAt K mg "_law_told" (top 58)
 d_law:DefAt K mg "law" (top 59)
 k_Reading:Cls K c.R
 a_Reading_wire:NoAttr K c.R "wire"
 a_Reading_plain:NoAttr K c.R "plain"
 a_Reading_choices:NoAttr K c.R "choices"
 k_Node:Cls K c.D
 a_Node_state:NoAttr K c.D "state"
 a_Node_passed:NoAttr K c.D "passed"
 a_Node_reading:NoAttr K c.D "reading"
 a_Node_sending:NoAttr K c.D "sending"
 a_Node_queue:NoAttr K c.D "queue"
 a_Node_taken:NoAttr K c.D "taken"
 a_Node_fault_count:NoAttr K c.D "fault_count"
 k_Bus:Cls K c.U
 a_Bus_nodes:NoAttr K c.U "nodes"
 a_Bus_bits_past:NoAttr K c.U "bits_past"
 kib:PySem.W.kitOne K (.type "int") (.type "bool")=some false
 x_BadFrame:PySem.W.excIn K c.F [.type "ValueError",.type "Exception",.type "BaseException",.type "object"] "ValueError.__new__" = true
 r_BadFrame:PySem.W.mroIn K c.F (.ref c.E)=some true
 e_BadFrame:ExcC K c.F
 x_NoNode:PySem.W.excIn K c.N [.type "ValueError",.type "Exception",.type "BaseException",.type "object"] "ValueError.__new__" = true
 r_NoNode:PySem.W.mroIn K c.N (.ref c.E)=some true
 e_NoNode:ExcC K c.N
 i_BadFrame_BadFrame:PySem.W.kitOne K (.ref c.F) (.ref c.F)=some true
 i_BadFrame_NoNode:PySem.W.kitOne K (.ref c.F) (.ref c.N)=some false
 i_BadFrame_BadBits:PySem.W.kitOne K (.ref c.F) (.ref c.B)=some false
 i_BadFrame_V:PySem.W.kitOne K (.ref c.F) (.type "ValueError")=some true
 i_NoNode_BadFrame:PySem.W.kitOne K (.ref c.N) (.ref c.F)=some false
 i_NoNode_NoNode:PySem.W.kitOne K (.ref c.N) (.ref c.N)=some true
 i_NoNode_BadBits:PySem.W.kitOne K (.ref c.N) (.ref c.B)=some false
 i_NoNode_V:PySem.W.kitOne K (.ref c.N) (.type "ValueError")=some true
 i_F_BN:PySem.W.kitAny K (.ref c.F) [.ref c.B,.ref c.N]=some false
 t_BusError:PySem.W.typeIn K (.ref c.E)=some (.type "type")
 l_BusError:(PySem.W.clsIn K c.E).isSome=true
 b_BusError:PySem.W.mroIn K c.E (.type "BaseException")=some true
end BB
set_option maxHeartbeats 4000000
set_option maxRecDepth 100000
set_option linter.unusedVariables false
namespace BB
open PySem L2
local macro_rules | `(tactic| wtm_at "sA")=>`(tactic| first
 | ((with_reducible apply aC);(focus with_reducible assumption))
 | ((with_reducible apply aL);(focus wtm_at "hn"))
 | ((with_reducible apply Same.get);(focus with_reducible assumption)))
local macro_rules | `(tactic| wtm_at "sL")=>`(tactic| first
 | ((with_reducible apply SqL.new);(focus with_reducible assumption))
 | ((with_reducible apply Same.seq);(focus with_reducible assumption))
 | with_reducible apply At.sqL
 | with_reducible apply At.sqF)
local macro_rules | `(tactic| wtm_at "sT")=>`(tactic| first
 | ((with_reducible apply Same.tup);(focus with_reducible assumption))
 | with_reducible apply At.sqT)
local macro_rules | `(tactic| wtm_at "hA")=>`(tactic| first
 | with_reducible assumption
 | with_reducible exact af
 | (wtm_at "sA";wtm_at "hA"))
local macro_rules | `(tactic| wtm_at "hL")=>`(tactic| first
 | with_reducible assumption
 | ((with_reducible apply At.sqL);wtm_at "hA")
 | ((with_reducible apply At.sqF);wtm_at "hA")
 | (wtm_at "sL";wtm_at "hL"))
local macro_rules | `(tactic| wtm_at "hT")=>`(tactic| first
 | with_reducible assumption
 | ((with_reducible apply At.sqT);wtm_at "hA")
 | (wtm_at "sT";wtm_at "hT"))
local macro_rules | `(tactic| wtm_at "hg")=>`(tactic| first
 | ((with_reducible apply zS);wtm_at "hA")
 | ((with_reducible apply xV);wtm_at "hL")
 | ((with_reducible apply xW);wtm_at "hT"))
local macro_rules | `(tactic| wtm_at "hn")=>`(tactic| first
 | with_reducible assumption
 | ((with_reducible refine Ne.symm ?_);with_reducible assumption)
 | ((with_reducible apply zU);(focus with_reducible assumption))
 | ((with_reducible apply AT);(focus with_reducible assumption))
 | ((with_reducible apply Ne.symm);(with_reducible apply zU);(focus with_reducible assumption))
 | ((with_reducible apply Ne.symm);(with_reducible apply AT);(focus with_reducible assumption))
 | ((with_reducible apply Ne.symm);(with_reducible apply fne3);(focus with_reducible assumption))
 | ((with_reducible apply Ne.symm);(with_reducible apply fne4);(focus with_reducible assumption))
 | ((with_reducible refine pY (by with_reducible assumption) ?_);exact ⟨_,by wtm_at "hA"⟩)
 | ((with_reducible refine Ne.symm (pY (by with_reducible assumption) ?_));exact ⟨_,by wtm_at "hA"⟩))
local macro_rules | `(tactic| wtm_at "ni")=>`(tactic| first
 | with_reducible assumption
 | exact List.not_mem_nil
 | ((with_reducible refine aH ?_);wtm_at "hn")
 | ((with_reducible refine kR ?_ ?_ ?_) <;> wtm_at "hn"))
local macro_rules | `(tactic| wtm_at "hs")=>`(tactic| first
 | with_reducible assumption
 | with_reducible exact Same.refl _
 | ((with_reducible refine Same.new ?a ?b);(case b=>with_reducible assumption);(case a=>wtm_at "hs"))
 | ((with_reducible refine Same.upF ?a ?b);(case b=>wtm_at "hf");(case a=>wtm_at "hs"))
 | ((with_reducible refine Same.trans ?_ (by with_reducible assumption));wtm_at "hs"))
local macro_rules | `(tactic| wtm_at "hf")=>`(tactic| first
 | with_reducible assumption
 | ((with_reducible apply x8);(focus with_reducible assumption))
 | ((with_reducible apply ub);(focus with_reducible assumption))
 | ((with_reducible apply AS);(focus with_reducible assumption))
 | ((with_reducible apply BF);(focus with_reducible assumption))
 | ((with_reducible refine Same.fr (by with_reducible assumption) ?_);wtm_at "hf")
 | ((with_reducible refine Chg.fr (by with_reducible assumption) ?n ?m);(case n=>wtm_at "ni");(case m=>wtm_at "hf")))
local macro_rules | `(tactic| wtm_at "hc")=>`(tactic| first
 | with_reducible assumption
 | with_reducible exact Chg.refl _ _
 | ((with_reducible refine Chg.new ?a ?b);(case b=>with_reducible assumption);(case a=>wtm_at "hc"))
 | ((with_reducible refine Chg.upd ?a ?b);(case b=>simp);(case a=>wtm_at "hc"))
 | ((with_reducible refine Chg.trans ?_ (by with_reducible assumption));wtm_at "hc")
 | ((with_reducible refine Chg.trans ?_ (Same.chg (by with_reducible assumption)));wtm_at "hc"))
local macro_rules | `(tactic| wtm_at "ar")=>`(tactic| first
 | (show (0:Int) < _;decide)
 | (show (0:Int) < _;omega)
 | (show (0:Int)≤_;decide)
 | (show (0:Int)≤_;omega)
 | exact ⟨by decide,by decide⟩
 | exact ⟨by decide,by decide,by omega⟩
 | exact ⟨by omega,by omega⟩
 | exact .inl ⟨by decide,by decide⟩
 | exact .inr ⟨by decide,by decide⟩
 | exact .inl ⟨by omega,by omega⟩
 | exact .inr ⟨by omega,by omega⟩)
local macro_rules | `(tactic| wtm_at "w1")=>`(tactic| first
 | (with_reducible first
 | refine zo ?_
 | refine zq ?_
 | refine zt ?_
 | refine zw ?_
 | refine zy ?_
 | refine sK ?_
 | refine zc ?_
 | refine ze ?_
 | refine xl ?_
 | refine xm ?_
 | refine u7 ?_
 | refine xx ?_
 | refine xB ?_
 | refine zr ?_
 | refine zu ?_
 | refine zx ?_
 | refine zz ?_
 | refine xo ?_
 | refine u4 ?_
 | refine u8 ?_
 | refine zK ?_
 | refine zL ?_
 | refine zO ?_
 | refine zP ?_
 | refine u5 ?_
 | refine sL ?_
 | refine xp ?_
 | refine xq ?_
 | refine xr ?_
 | refine xt ?_
 | refine xn ?_
 | refine uZ ?_
 | refine vh ?_
 | refine zh ?_
 | refine zj ?_
 | refine uY ?_
 | refine za ?_
 | refine zb ?_)
 | ((with_reducible refine BE ?_);refine AN (by wtm_at "ar") ?_)
 | ((with_reducible refine xX ?_);refine vb (by wtm_at "hA") (by wtm_at "kf") (by wtm_at "kf") (by rfl) ?_)
 | ((with_reducible refine vA ?_);refine sR (by wtm_at "hA") (by rfl) ?_)
 | ((with_reducible refine vx ?_);refine sN (by wtm_at "hA") (by wtm_at "kf") (by wtm_at "kf") (by first | exact Nat.le_of_ble_eq_true rfl | simp [rdF,ndF,buF]) (by wtm_at "pf") ?_)
 | ((with_reducible refine vy ?_);refine vf (by wtm_at "hA") (by wtm_at "kf") (by wtm_at "kf") (by rfl) ?_)
 | ((with_reducible refine vz ?_);refine vg (by wtm_at "hA") (by first | exact Nat.le_of_ble_eq_true rfl | simp [rdF,ndF,buF]) (by wtm_at "pf") ?_)
 | ((with_reducible refine xZ ?_);refine xA (by wtm_at "hL") ?_)
 | ((with_reducible refine ua ?_);refine vi (by wtm_at "hL") ?_)
 | ((with_reducible refine ua ?_);refine wp_lenT (by wtm_at "hT") ?_)
 | ((with_reducible refine vB ?_);refine sS (by wtm_at "hL") ?_)
 | ((with_reducible refine xY ?_);refine xE (by wtm_at "hT") (by rfl) ?_)
 | ((with_reducible refine x3 ?_);refine vj (by wtm_at "hL") ?_)
 | ((with_reducible refine vJ ?_);refine vI (by wtm_at "hT") (by rfl) ?_)
 | (with_reducible first
 | refine zd ?_
 | refine BC ?_
 | refine xu ?_
 | refine zi ?_
 | refine xv ?_
 | refine u6 ?_
 | refine xw ?_
 | refine xy ?_
 | refine xz ?_
 | refine zk ?_
 | refine u3 ?_
 | refine vc ?_
 | refine vd ?_
 | refine va ?_
 | refine vo ?_
 | refine zn ?_
 | refine pS ?_
 | refine vp ?_
 | refine zM ?_
 | refine zN ?_
 | refine zQ ?_
 | refine vm ?_
 | refine vn ?_
 | refine sT ?_
 | refine sU ?_
 | refine xD ?_
 | refine x6 ?_
 | refine yh ?_
 | refine yi ?_
 | refine tf ?_
 | refine vK ?_
 | refine vL ?_
 | refine yj ?_
 | refine vO ?_
 | refine sh ?_
 | refine wv ?_
 | refine zV ?_
 | refine zW ?_
 | refine zA ?_
 | refine zC ?_
 | refine zE ?_
 | refine zG ?_
 | refine zI ?_
 | refine xG ?_
 | refine xI ?_
 | refine xK ?_
 | refine xM ?_
 | refine xO ?_
 | refine xQ ?_
 | refine zB ?_
 | refine zD ?_
 | refine zF ?_
 | refine zH ?_
 | refine zJ ?_
 | refine xH ?_
 | refine xJ ?_
 | refine xL ?_
 | refine xN ?_
 | refine xP ?_
 | refine xR ?_))
local macro_rules | `(tactic| wtm_at "wp")=>`(tactic| repeat wtm_at "w1")
local macro_rules | `(tactic| wtm_at "sm")=>`(tactic| first
 | exact small (by decide)
 | exact bo (by decide)
 | (simp only [List.length_map,List.length_append,List.length_cons,List.length_nil,aw,dj,fR,List.length_take,List.length_drop,List.length_replicate] at *;first | exact small (by omega) | exact bo (by omega)))
local macro_rules | `(tactic| wtm_at "kf")=>`(tactic| first | assumption | exact Txt.k_Reading (by assumption) | exact Txt.a_Reading_wire (by assumption) | exact Txt.a_Reading_plain (by assumption) | exact Txt.a_Reading_choices (by assumption) | exact Txt.k_Node (by assumption) | exact Txt.a_Node_state (by assumption) | exact Txt.a_Node_passed (by assumption) | exact Txt.a_Node_reading (by assumption) | exact Txt.a_Node_sending (by assumption) | exact Txt.a_Node_queue (by assumption) | exact Txt.a_Node_taken (by assumption) | exact Txt.a_Node_fault_count (by assumption) | exact Txt.k_Bus (by assumption) | exact Txt.a_Bus_nodes (by assumption) | exact Txt.a_Bus_bits_past (by assumption))
local macro_rules | `(tactic| wtm_at "pf")=>`(tactic| first | exact put_wire | exact put_plain | exact md | exact pU | exact oq | exact me | exact mf | exact put_queue | exact put_taken | exact iE | exact jW | rfl)
variable {P:Program} {w:World} {K:PySem.W.Frag} {mg:Str→Option Value} {base:Heap} {c:Cs}
theorem yo (c:Nat):Builtin.bitAnd ((c:Int) * 2 ^ (1:Int).toNat) 32767=((c * 2 % 32768:Nat):Int):=by
 have:=PySem.W.kbt_mask ((c:Int) * 2 ^ (1:Int).toNat) 15
 have e:(2:Int) ^ 15 - 1=32767:=by decide
 rw [e] at this
 rw [this]
 have e2:(c:Int) * 2 ^ (1:Int).toNat=((c * 2:Nat):Int):=by
  show (c:Int) * 2 ^ 1=_
  omega
 rw [e2]
 have e3:(2:Int) ^ 15=32768:=by decide
 rw [e3]
 omega
theorem yp:(List.replicate (5:Int).toNat [V.int 0]).flatten=([0,0,0,0,0]:List Int).map V.int:=by rfl
theorem yq:(List.replicate (5:Int).toNat [V.int 1]).flatten=([1,1,1,1,1]:List Int).map V.int:=by rfl
theorem lz {row:List Int} {i:Nat} {b:Int} (h:row[i]? = some b):be (row.take (i+1))=be (row.take i)++ar b 8:=by
 obtain ⟨hi,e⟩:=List.getElem?_eq_some_iff.mp h
 unfold be
 rw [List.take_succ_eq_append_getElem hi,List.flatMap_append,e]
 simp
theorem BW (w:List Int):jw (w.map V.int) (some (-5)) none=(hI w).map V.int:=by
 unfold jw hI
 rw [HT.sIx_none,List.length_map]
 have e:HT.sIx w.length 0 (some (-5))=w.length - 5:=by
  unfold HT.sIx
  simp
  omega
 rw [e,← List.map_drop,List.take_of_length_le (by rw [List.length_map,List.length_drop];omega)]
abbrev rh:Stmt:=(top 20)
abbrev oF (K:PySem.W.Frag) (c:Cs):Sp:=sp2 fun a b H Q _=>∃ (n:Int) (k:Nat),a = .int n∧b = .int k∧k≤100∧MkL H Q (ar n k)
theorem oG:FnScope ["number", "many"] ["number", "many"] (ag rh):=aU
theorem dQ (T:Txt K mg c):g9 P w K mg base CX0 1 "in_bits" ["number", "many"] (oF K c):=by
 refine T.d_in_bits.ok oG (fun _ _ _ _ _ _ us hl=>match us,hl with | [_,_],_=>rfl) gT (fun f cdv A outer s H vs Q E hr h => ?_)
 obtain ⟨v0,v1,rfl,h⟩:=h
 refine ⟨_,(ad (aF (cz ["number", "many"] [0,1] (bP rfl T.range (aa (pv 1) ac)) (fun fp s H=>(aB tW (aB tV (pv 0) (aB iq (aB iq (pv 1) ah) (pv 2))) ah))))),?_⟩
 try dsimp only [bt,Cx.nox,Cx.wish]
 refine aj (s2:=[some v0,some v1]) rfl ?_
 obtain ⟨n,k,rfl,rfl,hk,q⟩:=h
 wtm_at "wp"
 refine jX ?_
 wtm_at "wp"
 refine pV k (fun i => .int (n / 2 ^ (k - 1 - i) % 2)) (by omega) (by omega) (small (by omega)) (fun i H' R hi s1 hR => ?_) (fun D Hf s1 hD e=>q D Hf s1 hD ?_)
 ·show tOp _ _ _ [some (.int n),some (.int k),some (.int i)] _ _
  wtm_at "wp"
  have e1:((k:Int) - 1 - (i:Int)).toNat=k - 1 - i:=by omega
  rw [e1,PyProof.Rows.bitAnd_m1]
  exact hR H' (Same.refl _)
 ·rw [← jA,List.map_map]
  exact e
abbrev mz:Stmt:=(top 21)
abbrev lA (K:PySem.W.Frag) (c:Cs):Sp:=sp1 fun v H Q _=>∃ (a:Addr) (bs:List Int),v = .ref a∧SqL K H a (bs.map V.int)∧Q (.int (b5 bs)) H
theorem sc_number_of:FnScope ["bits", "number", "bit"] ["bits"] (ag mz):=aU
theorem du (T:Txt K mg c):g9 P w K mg base CX0 1 "number_of" ["bits"] (lA K c):=by
 refine T.d_number_of.ok sc_number_of (fun _ _ _ _ _ _ us hl=>match us,hl with | [_],_=>rfl) jU (fun f cdv A outer s H vs Q E hr h => ?_)
 obtain ⟨v0,rfl,h⟩:=h
 refine ⟨_,(ae (aN (i:=1) sc_number_of.nd rfl (.inl rfl) ah)
   (ae (cq PassesOwn.never rfl (aR (K:=K) (pv 0)) (bj (i:=2) sc_number_of.nd rfl (.inl rfl))
    (ad (aN (i:=1) sc_number_of.nd rfl (.inl rfl) (aB bC (aB eA (pv 1) ah) (pv 2)))))
   (ad (aF (pv 1))))),?_⟩
 try dsimp only [bt,Cx.nox,Cx.wish]
 refine aj (s2:=[some v0,none,none]) rfl ?_
 obtain ⟨a,bs,rfl,hS,q⟩:=h
 wtm_at "wp"
 refine cO ?_
 wtm_at "wp"
 refine bZ (fun i σ H2=>∃ v:Option V,σ=[some (.ref a),some (.int (b5 (bs.take i))),v]∧H2=H) hS ⟨none,rfl,rfl⟩ (fun i σ H2 _ ⟨_,_,e⟩=>e ▸ hS) ?_ ?_
 ·rintro i y σ H2 hi ⟨v,rfl,rfl⟩
  obtain ⟨b,hb,rfl⟩:=cA hi
  have hn:b5 (bs.take (i+1))=b5 (bs.take i) * 2+b:=iH (f:=fun n b=>n * 2+b) (a:=(0:Int)) hb
  wtm_at "wp"
  refine ⟨some (.int b),?_,rfl⟩
  rw [hn]
 ·rintro σ H2 ⟨v,rfl,rfl⟩
  rw [List.take_of_length_le (by rw [List.length_map];exact Nat.le_refl _)]
  wtm_at "wp"
  exact q
abbrev oH:Stmt:=(top 22)
abbrev mB (K:PySem.W.Frag) (c:Cs):Sp:=sp1 fun v H Q _=>∃ (a:Addr) (bs:List Int),v = .ref a∧SqL K H a (bs.map V.int)∧Bits bs∧bs.length≤500∧MkL H Q (chk bs)
theorem sc_check_of:FnScope ["bits", "check", "bit", "fallen"] ["bits"] (ag oH):=aU
theorem iS (T:Txt K mg c):g9 P w K mg base CX0 2 "check_of" ["bits"] (mB K c):=by
 refine T.d_check_of.ok sc_check_of (fun _ _ _ _ _ _ us hl=>match us,hl with | [_],_=>rfl) jU (fun f cdv A outer s H vs Q E hr h => ?_)
 obtain ⟨v0,rfl,h⟩:=h
 refine ⟨_,(ae (aN (i:=1) sc_check_of.nd rfl (.inl rfl) ah)
   (ae (cq PassesOwn.never rfl (aR (K:=K) (pv 0)) (bj (i:=2) sc_check_of.nd rfl (.inl rfl))
    (ae (aN (i:=3) sc_check_of.nd rfl (.inl rfl) (aB tV (pv 1) (aB iq (pgi T.c_CHECK_BITS) ah)))
    (ae (aN (i:=1) sc_check_of.nd rfl (.inl rfl) (aB tW (aB wO (pv 1) ah) (pgi T.c_CHECK_HIGHEST)))
    (ad (aZ (au nV (pv 3) (pv 2) (ax _))
     (ad (aN (i:=1) sc_check_of.nd rfl (.inl rfl) (aB wP (pv 1) (pgi T.c_CHECK_TURNS))))
     aD)))))
   (ad (aF (cv (dQ T) hr az (aa (pv 1) (aa (pgi T.c_CHECK_BITS) ac))))))),?_⟩
 try dsimp only [bt,Cx.nox,Cx.wish]
 refine aj (s2:=[some v0,none,none,none]) rfl ?_
 obtain ⟨a,bs,rfl,hS,hb,hl,q⟩:=h
 wtm_at "wp"
 refine cO ?_
 wtm_at "wp"
 refine bZ (fun i σ H2=>∃ (v u:Option V),σ=[some (.ref a),some (.int (((bs.take i).foldl eL 0:Nat):Int)),v,u]∧H2=H) hS
  ⟨none,none,rfl,rfl⟩ (fun i σ H2 _ ⟨_,_,_,e⟩=>e ▸ hS) ?_ ?_
 ·rintro i y σ H2 hi ⟨v,u,rfl,rfl⟩
  obtain ⟨b,hbi,rfl⟩:=cA hi
  have hc:(bs.take i).foldl eL 0 < 32768:=qE _ _ (by decide)
  have hn:=iH (f:=eL) (a:=0) hbi
  generalize (bs.take i).foldl eL 0=c at *
  have ef:(c:Int) / 2 ^ ((15:Int) - 1).toNat=((c / 16384:Nat):Int):=by
   show (c:Int) / 2 ^ 14=_
   omega
  have em:=yo c
  wtm_at "wp"
  rw [ef,em]
  refine dg (fun hne => ?_) (fun he => ?_)
  ·have e1:eL c b=(c * 2 % 32768) ^^^ 17817:=by unfold eL;rw [if_neg hne]
   wtm_at "wp"
   refine ⟨some (.int b),some (.int ((c / 16384:Nat):Int)),?_,rfl⟩
   rw [hn,e1,show Builtin.bitXor ((c * 2 % 32768:Nat):Int) 17817=_ from oh (c * 2 % 32768) 17817]
  ·have e1:eL c b=c * 2 % 32768:=by unfold eL;rw [if_pos he]
   wtm_at "wp"
   refine ⟨some (.int b),some (.int ((c / 16384:Nat):Int)),?_,rfl⟩
   rw [hn,e1]
 ·rintro σ H2 ⟨v,u,rfl,rfl⟩
  wtm_at "wp"
  refine ⟨_,15,rfl,rfl,by decide,?_⟩
  rw [List.take_of_length_le (by rw [List.length_map];exact Nat.le_refl _),vX]
  exact q
abbrev f7:Stmt:=(top 23)
abbrev eR (K:PySem.W.Frag) (c:Cs):Sp:=sp2 fun u v H Q E=>∃ (a:Addr) (name:Int) (row:List Int),u = .int name∧v = .ref a∧SqL K H a (row.map V.int)∧name.natAbs.log2 < 1920∧(∀ b∈row,b.natAbs.log2 < 1920) ∧
 (eE name row→Q .non H)∧(¬ eE name row→E (.ref c.F) none H)
theorem sc_refuse_bad_frame:FnScope ["name", "row", "byte"] ["name", "row"] (ag f7):=aU
theorem ci (T:Txt K mg c):g9 P w K mg base (CXe P w) 1 "refuse_bad_frame" ["name", "row"] (eR K c):=by
 refine T.d_refuse_bad_frame.okE sc_refuse_bad_frame (fun _ _ _ _ _ _ us hl=>match us,hl with | [_,_],_=>rfl) gT (fun f cdv A outer s H vs Q E hr h => ?_)
 obtain ⟨v0,v1,rfl,h⟩:=h
 refine ⟨_,(ae (aZ (PW.pt (km (au jL (pv 0) ah (ax _)) (ip (au nW (pv 0) (pgi T.c_HIGHEST_NAME) (ax _)))))
    (ad (fJ (E:=E) (fun pins σ H s h' e vs I hx hE=>fI I hx hE) PySem.F.excBase_ValueError T.x_BadFrame rfl rfl T.m_BadFrame (aa (iD (t9 (xh (pv 0) kP))) ac)))
    aD)
   (ae (aZ (au nW (aI (aJ (K:=K)) rfl T.len PySem.boot_len (aa (pv 1) ac)) (pgi T.c_MOST_BYTES) (ax _))
    (ad (fJ (E:=E) (fun pins σ H s h' e vs I hx hE=>fI I hx hE) PySem.F.excBase_ValueError T.x_BadFrame rfl rfl T.m_BadFrame (aa (iD (t9 (xh (pgi T.c_MOST_BYTES) (t9 kP)))) ac)))
    aD)
   (ad (cq PassesOwn.leaving rfl (aR (K:=K) (pv 1)) (bj (i:=2) sc_refuse_bad_frame.nd rfl (.inl rfl))
    (ad (aZ (PW.pt (km (au jL (pv 2) ah (ax _)) (ip (au nW (pv 2) (pgi T.c_HIGHEST_BYTE) (ax _)))))
     (ad (fJ (E:=E) (fun pins σ H s h' e vs I hx hE=>fI I hx hE) PySem.F.excBase_ValueError T.x_BadFrame rfl rfl T.m_BadFrame (aa (iD (xh (pv 2) (t9 kP))) ac)))
     aD)))))),?_⟩
 try dsimp only [bt,Cx.nox,Cx.wish]
 refine aj (s2:=[some v0,some v1,none]) rfl ?_
 obtain ⟨a,name,row,rfl,rfl,hS,hln,hlb,qg,qb⟩:=h
 have lr:(row.map V.int).length=row.length:=List.length_map _
 wtm_at "wp"
 refine aO (fun c1 => ?_) (fun n1 => ?_)
 ·wtm_at "wp"
  refine ⟨_,rfl,_,rfl,hln,fun y=>⟨(show 1≤100 by decide),qb fun g => ?_⟩⟩
  have:=g.1.1
  omega
 wtm_at "wp"
 refine aO (fun c2 => ?_) (fun n2 => ?_)
 ·refine ⟨_,rfl,_,rfl,hln,fun y=>⟨(show 1≤100 by decide),qb fun g => ?_⟩⟩
  have:=g.1.2
  omega
 wtm_at "wp"
 rw [lr]
 refine aO (fun c3 => ?_) (fun n3 => ?_)
 ·refine ⟨_,rfl,(show (8:Int).natAbs.log2 < 1920 by decide),fun y=>⟨(show 1≤100 by decide),qb fun g => ?_⟩⟩
  have:=g.2.1
  omega
 wtm_at "wp"
 refine cO ?_
 wtm_at "wp"
 refine bZ (fun i σ H2=>∃ v:Option V,σ=[some (.int name),some (.ref a),v]∧H2=H∧∀ b∈row.take i,0≤b∧b≤255) hS
  ⟨none,rfl,rfl,fun b hb=>by simp at hb⟩ (fun i σ H2 _ ⟨_,_,e,_⟩=>e ▸ hS) ?_ ?_
 ·rintro i y σ H2 hi ⟨v,rfl,rfl,hall⟩
  obtain ⟨b,hb,rfl⟩:=cA hi
  have hmem:b∈row:=List.mem_of_getElem? hb
  wtm_at "wp"
  refine aO (fun c4 => ?_) (fun n4 => ?_)
  ·wtm_at "wp"
   refine ⟨_,rfl,_,rfl,hlb b hmem,fun y=>⟨(show 1≤100 by decide),qb fun g => ?_⟩⟩
   have:=(g.2.2 b hmem).1
   omega
  wtm_at "wp"
  refine aO (fun c5 => ?_) (fun n5 => ?_)
  ·refine ⟨_,rfl,_,rfl,hlb b hmem,fun y=>⟨(show 1≤100 by decide),qb fun g => ?_⟩⟩
   have:=(g.2.2 b hmem).2
   omega
  wtm_at "wp"
  refine ⟨_,rfl,rfl,fun z hc => ?_⟩
  obtain ⟨hi',e⟩:=List.getElem?_eq_some_iff.mp hb
  rw [List.take_succ_eq_append_getElem hi'] at hc
  rcases List.mem_append.mp hc with hc | hc
  ·exact hall z hc
  ·rw [List.mem_singleton.mp hc,e]
   omega
 ·rintro σ H2 ⟨v,rfl,rfl,hall⟩
  rw [lr,List.take_of_length_le (Nat.le_refl _)] at hall
  exact qg ⟨by omega,by omega,hall⟩
abbrev rj:Stmt:=(top 24)
abbrev oI (K:PySem.W.Frag) (c:Cs):Sp:=sp2 fun u v H Q E=>∃ (a:Addr) (name:Int) (row:List Int),u = .int name∧v = .ref a∧SqL K H a (row.map V.int)∧name.natAbs.log2 < 1920∧(∀ b∈row,b.natAbs.log2 < 1920) ∧
 (eE name row→MkL H Q (aG name row))∧(¬ eE name row→E (.ref c.F) none H)
theorem sc_bits_of:FnScope ["name", "row", "bits", "byte"] ["name", "row"] (ag rj):=aU
theorem oJ (T:Txt K mg c):g9 P w K mg base (CXe P w) 3 "bits_of" ["name", "row"] (oI K c):=by
 refine T.d_bits_of.okE sc_bits_of (fun _ _ _ _ _ _ us hl=>match us,hl with | [_,_],_=>rfl) gT (fun f cdv A outer s H vs Q E hr h => ?_)
 obtain ⟨v0,v1,rfl,h⟩:=h
 refine ⟨_,(ae (ay (cv (ci T) hr (l8 (E:=E) (fun _ _ _ z=>z)) (aa (pv 0) (aa (pv 1) ac))))
   (ae (aN (i:=2) sc_bits_of.nd rfl (.inl rfl) (aB nc (aB nc (bn (aa ah ac)) (cv (dQ T) hr az (aa (pv 0) (aa (pgi T.c_NAME_BITS) ac)))) (cv (dQ T) hr az (aa (aI (aJ (K:=K)) rfl T.len PySem.boot_len (aa (pv 1) ac)) (aa (pgi T.c_COUNT_BITS) ac)))))
   (ae (cq PassesOwn.leaving rfl (aR (K:=K) (pv 1)) (bj (i:=3) sc_bits_of.nd rfl (.inl rfl))
    (ad (ay (cw (K:=K) PySem.F.plainAttrs_list PySem.F.slot_list_extend PySem.F.type_list_extend pC (pv 2) (aa (cv (dQ T) hr az (aa (pv 3) (aa (pgi T.c_BYTE_BITS) ac))) ac)))))
   (ad (aF (aB nc (pv 2) (cv (iS T) hr az (aa (pv 2) ac)))))))),?_⟩
 try dsimp only [bt,Cx.nox,Cx.wish]
 refine aj (s2:=[some v0,some v1,none,none]) rfl ?_
 obtain ⟨a,name,row,rfl,rfl,hS,hln,hlb,qg,qb⟩:=h
 have lr:(row.map V.int).length=row.length:=List.length_map _
 wtm_at "wp"
 refine ⟨a,name,row,rfl,rfl,hS,hln,hlb,fun g => ?_,qb⟩
 have qg':=qg g
 have r8:=g.2.1
 wtm_at "wp"
 refine ⟨small (show 1≤1000 by decide),fun p1 hp1 => ?_⟩
 have s1:Same H (upd H p1 (.lst [.int 0])):=aq hp1 _
 wtm_at "wp"
 refine ⟨name,11,rfl,rfl,by decide,fun p2 H2 s2 hp2 e2 => ?_⟩
 refine pR (by wtm_at "hg") (by wtm_at "hg") (by wtm_at "sm") (fun p3 hp3 => ?_)
 have s3:Same H (upd H2 p3 (.lst ([V.int 0]++(ar name 11).map V.int))):=Same.new (s1.trans s2) hp3
 wtm_at "wp"
 rw [lr]
 refine ⟨(row.length:Int),4,rfl,rfl,by decide,fun p4 H4 s4 hp4 e4 => ?_⟩
 refine pR (by wtm_at "hg") (by wtm_at "hg") (by wtm_at "sm") (fun b hb => ?_)
 have s34:=s3.trans s4
 have hbH:H b=none:=s34.free hb
 have s5:=bN (o := .lst (([V.int 0]++(ar name 11).map V.int)++(ar (row.length:Int) 4).map V.int)) s34 hbH
 have e5:([V.int 0]++(ar name 11).map V.int)++(ar (row.length:Int) 4).map V.int=([0]++ar name 11++ar (row.length:Int) 4++be (row.take 0)).map V.int:=by
  show _=([0]++ar name 11++ar (row.length:Int) 4++[]).map V.int
  rw [List.append_nil,List.map_append,List.map_append]
  rfl
 wtm_at "wp"
 refine cO ?_
 wtm_at "wp"
 refine bZ (xs:=row.map V.int)
  (fun i σ H6=>∃ v:Option V,σ=[some (.int name),some (.ref a),some (.ref b),v]∧Same H H6∧At H6 b (.lst (([0]++ar name 11++ar (row.length:Int) 4++be (row.take i)).map V.int))) (s5.seq hS)
  ⟨none,rfl,s5,by rw [← e5];exact af⟩ (fun i σ H6 _ ⟨_,_,s6,_⟩=>s6.seq hS) ?_ ?_
 ·rintro i y σ H6 hi ⟨v,rfl,s6,eb⟩
  obtain ⟨z,hz,rfl⟩:=cA hi
  have hil:i < row.length:=(List.getElem?_eq_some_iff.mp hz).1
  wtm_at "wp"
  refine ⟨z,8,rfl,rfl,by decide,fun p7 H7 s7 hp7 e7 => ?_⟩
  refine ⟨b,p7,_,_,rfl,rfl,s7.get eb,e7,?_,?_⟩
  ·rw [List.length_map,List.length_map,aw]
   have:([0]++ar name 11++ar (row.length:Int) 4++be (row.take i)).length≤16+8 * row.length:=by
    simp only [List.length_append,aw,eM,List.length_take,List.length_singleton]
    omega
   exact small (by omega)
  ·refine ⟨some (.int z),rfl,bN (s6.trans s7) hbH,?_⟩
   rw [← List.map_append,lz hz]
   simp only [List.append_assoc]
   exact af
 ·rintro σ H6 ⟨v,rfl,s6,eb⟩
  rw [lr,List.take_of_length_le (Nat.le_refl _)] at eb
  have eb':At H6 b (.lst ((body name row).map V.int)):=eb
  have bl:=fR name row
  wtm_at "wp"
  refine ⟨b,body name row,rfl,At.sqL eb',lb name row,by rw [bl];omega,fun p8 H8 s8 hp8 e8 => ?_⟩
  refine ⟨b,p8,_,_,rfl,rfl,s8.get eb',e8,?_,fun t ht => ?_⟩
  ·rw [List.length_map,List.length_map,bl,dj]
   exact small (by omega)
  ·have s68:=s6.trans s8
   have htH:H t=none:=s68.free ht
   refine qg' t _ (bN s68 htH) htH ?_
   rw [← List.map_append]
   exact af
abbrev lB:Stmt:=(top 25)
abbrev kc (K:PySem.W.Frag) (c:Cs):Sp:=sp1 fun v H Q _=>∃ (a:Addr) (bs:List Int),v = .ref a∧SqL K H a (bs.map V.int)∧bs.length≤900∧Bz H Q (due bs)
theorem kd:FnScope ["wire"] ["wire"] (ag lB):=aU
theorem b7 (T:Txt K mg c):g9 P w K mg base CX0 1 "is_one_due" ["wire"] (kc K c):=by
 refine T.d_is_one_due.ok kd (fun _ _ _ _ _ _ us hl=>match us,hl with | [_],_=>rfl) jU (fun f cdv A outer s H vs Q E hr h => ?_)
 obtain ⟨v0,rfl,h⟩:=h
 refine ⟨_,(ad (aF (cc (sY (K:=K) hr) (bY (b4 (K:=K)) (pv 0) (bW (uE o5 (pgi T.c_MOST_LIKE_BITS))) gu) (ce (aa (aB kJ (bn (aa ah ac)) (pgi T.c_MOST_LIKE_BITS)) (aa (aB kJ (bn (aa ah ac)) (pgi T.c_MOST_LIKE_BITS)) ac))) rfl))),?_⟩
 try dsimp only [bt,Cx.nox,Cx.wish]
 refine aj (s2:=[some v0]) rfl ?_
 obtain ⟨a,bs,rfl,hS,hl,q⟩:=h
 wtm_at "wp"
 refine fK hS (BW bs) (fun p hp => ?_)
 have s0:=aq hp (.lst ((hI bs).map V.int))
 wtm_at "wp"
 refine ⟨small (show 1≤1000 by decide),fun p1 hp1 => ?_⟩
 wtm_at "wp"
 refine kT af (by decide) (by decide) (small (show 1 * 5≤1000 by decide)) (fun p2 hp2 => ?_)
 rw [yp] at *
 wtm_at "wp"
 refine ⟨small (show 1≤1000 by decide),fun p3 hp3 => ?_⟩
 wtm_at "wp"
 refine kT af (by decide) (by decide) (small (show 1 * 5≤1000 by decide)) (fun p4 hp4 => ?_)
 rw [yq] at *
 wtm_at "wp"
 refine ⟨small (show 2≤1000 by decide),fun t ht => ?_⟩
 refine ⟨t,p2,p4,_,_,rfl,At.sqT af,by wtm_at "hn",nv (xs:=[0,0,0,0,0]) (ys:=hI bs) (by wtm_at "hg") (by wtm_at "hg"),nv (xs:=[1,1,1,1,1]) (ys:=hI bs) (by wtm_at "hg") (by wtm_at "hg"),?_⟩
 have ed:(decide (([0,0,0,0,0]:List Int)=hI bs) || decide (([1,1,1,1,1]:List Int)=hI bs))=due bs:=by
  unfold due
  rw [Bool.eq_iff_iff]
  simp only [Bool.or_eq_true,decide_eq_true_eq,beq_iff_eq]
  constructor
  ·rintro (z | z)
   ·exact .inl z.symm
   ·exact .inr z.symm
  ·rintro (z | z)
   ·exact .inl z.symm
   ·exact .inr z.symm
 rw [ed]
 exact q _ (by wtm_at "hs")
abbrev rk:Stmt:=(top 26)
abbrev oK (K:PySem.W.Frag) (c:Cs):Sp:=sp1 fun v H Q _=>∃ (a:Addr) (bs:List Int),v = .ref a∧SqL K H a (bs.map V.int)∧Bits bs∧bs.length≤400∧MkL H Q (bi bs)
theorem sc_stuffed:FnScope ["bits", "wire", "bit"] ["bits"] (ag rk):=aU
theorem oM (T:Txt K mg c):g9 P w K mg base CX0 2 "stuffed" ["bits"] (oK K c):=by
 refine T.d_stuffed.ok sc_stuffed (fun _ _ _ _ _ _ us hl=>match us,hl with | [_],_=>rfl) jU (fun f cdv A outer s H vs Q E hr h => ?_)
 obtain ⟨v0,rfl,h⟩:=h
 refine ⟨_,(ae (aN (i:=1) sc_stuffed.nd rfl (.inl rfl) (bn ac))
   (ae (cq PassesOwn.never rfl (aR (K:=K) (pv 0)) (bj (i:=2) sc_stuffed.nd rfl (.inl rfl))
    (ae (ay (cw (K:=K) PySem.F.plainAttrs_list PySem.F.slot_list_append PySem.F.type_list_append bD (pv 1) (aa (pv 2) ac)))
    (ad (aZ (cC (cv (b7 T) hr az (aa (pv 1) ac)))
     (ad (ay (cw (K:=K) PySem.F.plainAttrs_list PySem.F.slot_list_append PySem.F.type_list_append bD (pv 1) (aa (aB iq ah (pv 2)) ac))))
     aD))))
   (ad (aF (pv 1))))),?_⟩
 try dsimp only [bt,Cx.nox,Cx.wish]
 refine aj (s2:=[some v0,none,none]) rfl ?_
 obtain ⟨a,bs,rfl,hS,hb,hl,q⟩:=h
 wtm_at "wp"
 refine ⟨small (show 0≤1000 by decide),fun r hr0 => ?_⟩
 have s1:=aq hr0 (.lst [])
 wtm_at "wp"
 refine cO ?_
 wtm_at "wp"
 refine bZ (xs:=bs.map V.int) (fun i σ H2=>∃ v:Option V,σ=[some (.ref a),some (.ref r),v]∧Same H H2∧At H2 r (.lst ((bi (bs.take i)).map V.int))) (s1.seq hS)
  ⟨none,rfl,s1,af⟩ (fun i σ H2 _ ⟨_,_,s2,_⟩=>s2.seq hS) ?_ ?_
 ·rintro i y σ H2 hi ⟨v,rfl,s2,er⟩
  obtain ⟨b,hbi,rfl⟩:=cA hi
  have hil:i < bs.length:=(List.getElem?_eq_some_iff.mp hbi).1
  have hlen:(bi (bs.take i)).length≤800:=by
   have:=iM (bs.take i)
   rw [List.length_take] at this
   omega
  have hst:bi (bs.take (i+1))=aX (bi (bs.take i)) b:=iH (f:=aX) (a:=([]:List Int)) hbi
  wtm_at "wp"
  refine bE er (bo (by rw [List.length_map];omega)) ?_
  have er2:At (upd H2 r (.lst ((bi (bs.take i)).map V.int++[.int b]))) r (.lst ((bi (bs.take i)++[b]).map V.int)):=by rw [List.map_append];exact af
  have s3:=bN (o := .lst ((bi (bs.take i)).map V.int++[.int b])) s2 hr0
  wtm_at "wp"
  refine ⟨r,bi (bs.take i)++[b],rfl,At.sqL er2,by rw [List.length_append,List.length_singleton];omega,fun H4 s4 => ?_⟩
  have er4:=s4.get er2
  have s24:=s3.trans s4
  wtm_at "wp"
  refine AK (fun c => ?_) (fun c => ?_)
  ·wtm_at "wp"
   refine bE er4 (bo (by rw [List.length_map,List.length_append,List.length_singleton];omega)) ?_
   refine ⟨some (.int b),rfl,bN s24 hr0,?_⟩
   rw [hst]
   unfold aX
   rw [if_pos c,List.map_append (l₁:=bi (bs.take i)++[b])]
   exact af
  ·refine ⟨some (.int b),rfl,s24,?_⟩
   rw [hst]
   unfold aX
   rw [if_neg c]
   exact er4
 ·rintro σ H2 ⟨v,rfl,s2,er⟩
  rw [List.length_map,List.take_of_length_le (Nat.le_refl _)] at er
  wtm_at "wp"
  exact q r H2 s2 hr0 er
theorem ur {p:List Int} (h:Bits p):cnt p≤15:=by
 unfold cnt
 rcases aM h 12 with a | a <;> rcases aM h 13 with b | b <;> rcases aM h 14 with c | c <;> rcases aM h 15 with d | d <;> omega
theorem oN (p:List Int) (a b:Nat):(p.take b).drop a=(p.drop a).take (b - a):=List.drop_take
theorem Ai (p:List Int) (a b:Nat):jw (p.map V.int) (some (a:Int)) (some (b:Int))=((p.drop a).take (b - a)).map V.int:=by
 rw [vv,← List.map_take,← List.map_drop,oN]
theorem yr (p:List Int) (b:Nat):jw (p.map V.int) none (some (b:Int))=(p.take b).map V.int:=by rw [pW,List.map_take]
theorem rl {l:List Int} (h:l≠[]):atI (l.map V.int) (-1)=some (.int (l.getLastD 0)):=by
 rcases dN l with rfl | ⟨m,b,rfl⟩
 ·exact absurd rfl h
 ·rw [List.map_append,fT]
  exact sd _ _
theorem yt {w:List Int} (h:due w=true):w≠[]:=by
 rintro rfl
 exact absurd h (by decide)
abbrev jf:Stmt:=(top 27)
abbrev iT (K:PySem.W.Frag) (c:Cs):Sp:=sp1 fun v H Q _=>∃ (a:Addr) (p:List Int),v = .ref a∧SqL K H a (p.map V.int)∧p.length < 16∧MkT H Q (cH p)
theorem iU:FnScope ["plain"] ["plain"] (ag jf):=aU
theorem iV (T:Txt K mg c):g9 P w K mg base CX0 1 "head_choices" ["plain"] (iT K c):=by
 refine T.d_head_choices.ok iU (fun _ _ _ _ _ _ us hl=>match us,hl with | [_],_=>rfl) jU (fun f cdv A outer s H vs Q E hr h => ?_)
 obtain ⟨v0,rfl,h⟩:=h
 refine ⟨_,(ae (aZ (au cG (aI (aJ (K:=K)) rfl T.len PySem.boot_len (aa (pv 0) ac)) ah (ax _))
    (ad (aF (ce (aa ah ac))))
    aD)
   (ae (aZ (PW.pt (jp (au nW (aI (aJ (K:=K)) rfl T.len PySem.boot_len (aa (pv 0) ac)) (pgi T.c_COUNT_AT) (ax _)) (io (au cG (bR (br (K:=K)) (pv 0) (pgi T.c_COUNT_AT) (fun _ _=>rfl)) ah (ax _)))))
    (ad (aF (ce (aa ah ac))))
    aD)
   (ad (aF (ce (aa ah (aa ah ac))))))),?_⟩
 try dsimp only [bt,Cx.nox,Cx.wish]
 refine aj (s2:=[some v0]) rfl ?_
 obtain ⟨a,p,rfl,hS,hl,q⟩:=h
 wtm_at "wp"
 rw [List.length_map]
 refine aO (fun c1 => ?_) (fun c1 => ?_)
 ·wtm_at "wp"
  refine ⟨small (show 1≤1000 by decide),fun t ht => ?_⟩
  wtm_at "wp"
  refine q t _ (by wtm_at "hs") ht ?_
  rw [show cH p=[0] by unfold cH;rw [if_pos (by omega)]]
  exact af
 wtm_at "wp"
 rw [List.length_map]
 have n1:¬ p.length=0:=by omega
 refine aO (fun c2 => ?_) (fun c2 => ?_)
 ·wtm_at "wp"
  refine cr hS (show atI (p.map V.int) ((12:Nat):Int)=_ from iG (by omega)) ?_
  wtm_at "wp"
  refine aO (fun c3 => ?_) (fun c3 => ?_)
  ·wtm_at "wp"
   refine ⟨small (show 1≤1000 by decide),fun t ht => ?_⟩
   wtm_at "wp"
   refine q t _ (by wtm_at "hs") ht ?_
   rw [show cH p=[0] by unfold cH;rw [if_neg n1,if_pos ⟨by omega,c3⟩]]
   exact af
  ·wtm_at "wp"
   refine ⟨small (show 2≤1000 by decide),fun t ht => ?_⟩
   wtm_at "wp"
   refine q t _ (by wtm_at "hs") ht ?_
   rw [show cH p=[0,1] by unfold cH;rw [if_neg n1,if_neg (fun z=>c3 z.2)]]
   exact af
 ·wtm_at "wp"
  refine ⟨small (show 2≤1000 by decide),fun t ht => ?_⟩
  wtm_at "wp"
  refine q t _ (by wtm_at "hs") ht ?_
  rw [show cH p=[0,1] by unfold cH;rw [if_neg n1,if_neg (fun z=>c2 (by omega))]]
  exact af
abbrev kf:Stmt:=(top 28)
abbrev jg (K:PySem.W.Frag) (c:Cs):Sp:=sp1 fun v H Q _=>∃ (a:Addr) (p:List Int),v = .ref a∧SqL K H a (p.map V.int)∧16≤p.length∧By H Q (16+8 * cnt p)
theorem jh:FnScope ["plain"] ["plain"] (ag kf):=aU
theorem eH (T:Txt K mg c):g9 P w K mg base CX0 2 "check_place" ["plain"] (jg K c):=by
 refine T.d_check_place.ok jh (fun _ _ _ _ _ _ us hl=>match us,hl with | [_],_=>rfl) jU (fun f cdv A outer s H vs Q E hr h => ?_)
 obtain ⟨v0,rfl,h⟩:=h
 refine ⟨_,(ad (aF (aB bC (pgi T.c_ROW_AT) (aB eA (pgi T.c_BYTE_BITS) (cv (du T) hr az (aa (bY (b4 (K:=K)) (pv 0) (bW (pgi T.c_COUNT_AT)) (bW (pgi T.c_ROW_AT))) ac)))))),?_⟩
 try dsimp only [bt,Cx.nox,Cx.wish]
 refine aj (s2:=[some v0]) rfl ?_
 obtain ⟨a,p,rfl,hS,hl,q⟩:=h
 wtm_at "wp"
 refine fK hS (Ai p 12 16) (fun t ht => ?_)
 wtm_at "wp"
 refine ⟨t,(p.drop 12).take 4,rfl,At.sqL af,?_⟩
 rw [yP hl]
 wtm_at "wp"
 exact q _ (by wtm_at "hs")
abbrev iW:Stmt:=(top 29)
abbrev hJ (K:PySem.W.Frag) (c:Cs):Sp:=sp1 fun v H Q _=>∃ (a:Addr) (p:List Int),v = .ref a∧SqL K H a (p.map V.int)∧Bits p∧(16≤p.length→p.length≤bh p+15)∧p.length≤200∧MkT H Q (bv p)
theorem sc_plain_choices:FnScope ["plain", "check_at"] ["plain"] (ag iW):=aU
theorem hU (T:Txt K mg c):g9 P w K mg base CX0 3 "plain_choices" ["plain"] (hJ K c):=by
 refine T.d_plain_choices.ok sc_plain_choices (fun _ _ _ _ _ _ us hl=>match us,hl with | [_],_=>rfl) jU (fun f cdv A outer s H vs Q E hr h => ?_)
 obtain ⟨v0,rfl,h⟩:=h
 refine ⟨_,(ae (aZ (au jL (aI (aJ (K:=K)) rfl T.len PySem.boot_len (aa (pv 0) ac)) (pgi T.c_ROW_AT) (ax _))
    (ad (aF (cv (iV T) hr az (aa (pv 0) ac))))
    aD)
   (ae (aN (i:=1) sc_plain_choices.nd rfl (.inl rfl) (cv (eH T) hr az (aa (pv 0) ac)))
   (ae (aZ (au jL (aI (aJ (K:=K)) rfl T.len PySem.boot_len (aa (pv 0) ac)) (pv 1) (ax _))
    (ad (aF (ce (aa ah (aa ah ac)))))
    aD)
   (ae (aZ (au cG (aI (aJ (K:=K)) rfl T.len PySem.boot_len (aa (pv 0) ac)) (aB bC (pv 1) (pgi T.c_CHECK_BITS)) (ax _))
    (ad (aF (ce ac)))
    aD)
   (ad (aF (ce (aa (bR (br (K:=K)) (cv (iS T) hr az (aa (bY (b4 (K:=K)) (pv 0) gu (bW (pv 1))) ac)) (aB iq (aI (aJ (K:=K)) rfl T.len PySem.boot_len (aa (pv 0) ac)) (pv 1)) (fun _ _=>rfl)) ac)))))))),?_⟩
 try dsimp only [bt,Cx.nox,Cx.wish]
 refine aj (s2:=[some v0,none]) rfl ?_
 obtain ⟨a,p,rfl,hS,hb,hk,hl,q⟩:=h
 have c0:=qJ hb
 have c15:=ur hb
 have ek:((bh p:Nat):Int)=16+8 * cnt p:=by unfold bh;omega
 wtm_at "wp"
 rw [List.length_map]
 refine aO (fun c1 => ?_) (fun c1 => ?_)
 ·wtm_at "wp"
  refine ⟨a,p,rfl,hS,by omega,?_⟩
  rw [show bv p=cH p by unfold bv;rw [if_pos (by omega)]] at q
  exact q
 have n1:¬ p.length < 16:=by omega
 have hk':=hk (by omega)
 wtm_at "wp"
 refine ⟨a,p,rfl,hS,by omega,fun H1 s1 => ?_⟩
 rw [← ek]
 wtm_at "wp"
 rw [List.length_map]
 refine aO (fun c2 => ?_) (fun c2 => ?_)
 ·wtm_at "wp"
  refine ⟨small (show 2≤1000 by decide),fun t ht => ?_⟩
  wtm_at "wp"
  refine q t _ (by wtm_at "hs") (by wtm_at "hf") ?_
  rw [show bv p=[0,1] by unfold bv;rw [if_neg n1,if_pos (by omega)]]
  exact af
 have n2:¬ p.length < bh p:=by omega
 wtm_at "wp"
 rw [List.length_map]
 refine aO (fun c3 => ?_) (fun c3 => ?_)
 ·wtm_at "wp"
  refine ⟨small (show 0≤1000 by decide),fun t ht => ?_⟩
  wtm_at "wp"
  refine q t _ (by wtm_at "hs") (by wtm_at "hf") ?_
  rw [show bv p=[] by unfold bv;rw [if_neg n1,if_neg n2,if_pos (by omega)]]
  exact af
 ·wtm_at "wp"
  refine fK (by wtm_at "hg") (yr p (bh p)) (fun t ht => ?_)
  wtm_at "wp"
  refine ⟨t,p.take (bh p),rfl,At.sqL af,hb.take _,by rw [List.length_take];omega,fun r H2 s2 hr2 e2 => ?_⟩
  wtm_at "wp"
  rw [List.length_map]
  have hlt:p.length - bh p < (chk (p.take (bh p))).length:=by rw [dj];omega
  refine cr (by wtm_at "hg") (show atI _ ((p.length:Int) - (bh p:Int))=_ by rw [show (p.length:Int) - (bh p:Int)=((p.length - bh p:Nat):Int) by omega];exact iG hlt) ?_
  wtm_at "wp"
  refine ⟨small (show 1≤1000 by decide),fun u hu => ?_⟩
  wtm_at "wp"
  have s12:Same H H2:=s1.trans ((aq ht _).trans s2)
  refine q u _ (Same.new s12 hu) (s12.fr hu) ?_
  rw [show bv p=[(chk (p.take (bh p))).getD (p.length - bh p) 0] by unfold bv;rw [if_neg n1,if_neg n2,if_neg (by omega)]]
  exact af
abbrev hV:Stmt:=(top 30)
abbrev gH (K:PySem.W.Frag) (c:Cs):Sp:=sp2 fun u v H Q _=>∃ (a b:Addr) (ws p:List Int),u = .ref a∧v = .ref b∧SqL K H a (ws.map V.int)∧SqL K H b (p.map V.int)∧Bits p∧(16≤p.length→p.length≤bh p+15)∧p.length≤200∧ws.length≤900∧MkT H Q (ak ws p)
theorem gI:FnScope ["wire", "plain"] ["wire", "plain"] (ag hV):=aU
theorem cM (T:Txt K mg c):g9 P w K mg base CX0 4 "choices_behind" ["wire", "plain"] (gH K c):=by
 refine T.d_choices_behind.ok gI (fun _ _ _ _ _ _ us hl=>match us,hl with | [_,_],_=>rfl) gT (fun f cdv A outer s H vs Q E hr h => ?_)
 obtain ⟨v0,v1,rfl,h⟩:=h
 refine ⟨_,(ae (aZ (cC (cv (b7 T) hr az (aa (pv 0) ac)))
    (ad (aF (ce (aa (aB iq ah (bR (br (K:=K)) (pv 0) (uE o5 ah) (fun _ _=>rfl))) ac))))
    aD)
   (ad (aF (cv (hU T) hr az (aa (pv 1) ac))))),?_⟩
 try dsimp only [bt,Cx.nox,Cx.wish]
 refine aj (s2:=[some v0,some v1]) rfl ?_
 obtain ⟨a,b,ws,p,rfl,rfl,hA,hB,hb,hk,hl,hw,q⟩:=h
 wtm_at "wp"
 refine ⟨a,ws,rfl,hA,hw,fun H1 s1 => ?_⟩
 wtm_at "wp"
 refine AK (fun c1 => ?_) (fun c1 => ?_)
 ·wtm_at "wp"
  refine cr (by wtm_at "hg") (rl (yt c1)) ?_
  wtm_at "wp"
  refine ⟨small (show 1≤1000 by decide),fun t ht => ?_⟩
  wtm_at "wp"
  refine q t _ (by wtm_at "hs") (by wtm_at "hf") ?_
  rw [show ak ws p=[1 - ws.getLastD 0] by unfold ak;rw [if_pos c1]]
  exact af
 ·wtm_at "wp"
  refine ⟨b,p,rfl,by wtm_at "hg",hb,hk,hl,fun t H2 s2 ht e2 => ?_⟩
  refine q t _ (s1.trans s2) (by wtm_at "hf") ?_
  rw [show ak ws p=bv p by unfold ak;rw [if_neg c1]]
  exact e2
abbrev oO:Stmt:=(top 31)
abbrev mC (K:PySem.W.Frag) (c:Cs):Sp:=sp1 fun v H Q _=>∃ (a:Addr) (p:List Int),v = .ref a∧SqL K H a (p.map V.int)∧16≤p.length∧Bits p∧(∀ t r o H',Same H H'→aK H t→aK H r→At H' t (.tup [.int (dk p),.ref r])→At H' r (.frz o (.lst ((je p).map V.int)))→Q (.ref t) H')
theorem sc_parts_of:FnScope ["plain", "name", "row"] ["plain"] (ag oO):=aU
theorem mD (T:Txt K mg c):g9 P w K mg base CX0 3 "parts_of" ["plain"] (mC K c):=by
 refine T.d_parts_of.ok sc_parts_of (fun _ _ _ _ _ _ us hl=>match us,hl with | [_],_=>rfl) jU (fun f cdv A outer s H vs Q E hr h => ?_)
 obtain ⟨v0,rfl,h⟩:=h
 refine ⟨_,(ae (aN (i:=1) sc_parts_of.nd rfl (by first | exact Or.inl rfl | exact Or.inr rfl) (cv (du T) hr az (aa (bY (b4 (K:=K)) (pv 0) (bW (pgi T.c_NAME_AT)) (bW (pgi T.c_COUNT_AT))) ac)))
   (ae (qd (i:=2) (fv:=["plain"]) (js:=[0]) sc_parts_of.nd rfl (by first | exact Or.inl rfl | exact Or.inr rfl) (pZ rfl T.range (aa (pgi T.c_ROW_AT) (aa (cv (eH T) hr az (aa (pv 0) ac)) (aa (pgi T.c_BYTE_BITS) ac))))  (fun fp s H=>(cv (du T) hr az (aa (bY (b4 (K:=K)) (pv 0) (bW (pv 1)) (bW (aB bC (pv 1) (pgi T.c_BYTE_BITS)))) ac))))
   (ad (aF (ce (aa (pv 1) (aa (nw (pv 2)) ac))))))),?_⟩
 try dsimp only [bt,Cx.nox,Cx.wish]
 refine aj (s2:=[some v0,none,none]) rfl ?_
 obtain ⟨a,p,rfl,hS,hl,hb,q⟩:=h
 have c0:=qJ hb
 have c15:=ur hb
 wtm_at "wp"
 refine fK hS (Ai p 1 12) (fun t ht => ?_)
 wtm_at "wp"
 refine ⟨t,(p.drop 1).take 11,rfl,At.sqL af,?_⟩
 wtm_at "wp"
 refine sW ?_
 wtm_at "wp"
 refine ⟨a,p,rfl,by wtm_at "hg",hl,fun H1 s1 => ?_⟩
 wtm_at "wp"
 have s01:Same H H1:=(aq ht _).trans s1
 refine p9 (cnt p).toNat (fun j => .int (b5 ((p.drop (16+8 * j)).take 8))) (by decide) (by omega) (by omega) (fun k H' R hk s2 hR => ?_) (fun D Hf s2 hD e => ?_)
 ·show pi _ _ _ _ [some (.ref a),some (.int (16+(k:Nat) * 8))] _ _
  wtm_at "wp"
  refine fK (s2.seq (s01.seq hS)) (show jw (p.map V.int) _ _=((p.drop (16+8 * k)).take 8).map V.int by
   rw [show (16:Int)+(k:Nat) * 8=((16+8 * k:Nat):Int) by omega,show ((16+8 * k:Nat):Int)+8=((16+8 * k+8:Nat):Int) by omega,Ai]
   congr 2
   omega) (fun u hu => ?_)
  wtm_at "wp"
  exact ⟨u,_,rfl,At.sqL af,hR _ (aq hu _)⟩
 have eD:At Hf D (.lst ((je p).map V.int)):=by
  unfold je
  rw [List.map_map]
  exact e
 have s02:Same H Hf:=s01.trans s2
 have hDH:aK H D:=s01.fr hD
 wtm_at "wp"
 refine jZ eD (fun o => ?_)
 wtm_at "wp"
 refine ⟨small (show 2≤1000 by decide),fun u hu => ?_⟩
 wtm_at "wp"
 have s3:Same H (upd Hf D (.frz o (.lst ((je p).map V.int)))):=s02.upF hDH
 exact q u D o _ (s3.new hu) (s3.fr hu) hDH af (aC hu af)
structure RdAt (c:Cs) (H:Hp) (r w p:Addr) (ws ps:List Int):Prop where
 ob:∃ dx ch,At H r (.ins c.R dx (rdF (.ref w) (.ref p) (.ref ch)))∧At H ch (.tup ((ak ws ps).map V.int))
 wr:At H w (.lst (ws.map V.int))
 pl:At H p (.lst (ps.map V.int))
 ne:w≠p
theorem Chg.made {x dx:Addr} {H H':Hp} {o o':HO} (hx:aK H x) (hd:aK H dx) (h:Chg [x] (upd (upd H dx o) x o') H'):Same H H':=fun b u e=>by
 refine h b u (aH (aE e hx)) ?_
 exact aL (aE e hx) (aL (aE e hd) e)
theorem Rd.plen {w p:List Int} (r:Rd w p):p.length≤95:=by
 have h1:=r.fit.len
 have h2:=r.fit.h8
 unfold bh at h1
 omega
theorem Rd.wlen {w p:List Int} (r:Rd w p):w.length≤190:=by
 have h1:=r.plen
 have h2:=iM p
 rw [r.st] at h2
 split at h2
 ·rw [List.length_append] at h2
  omega
 ·omega
theorem rm {K:PySem.W.Frag} {H:Hp} {a b:Addr} {xs:List V} (ha:SqT K H a xs) (hb:SqT K H b []):RcK K H 8 (.ref a) (.ref b) (xs.isEmpty):=fun X e=>by
 subst e
 have:=pJ (X:=X) (H:=H) (n:=7) (e:=fun _=>true) ha hb (fun j x y _ h=>by simp at h)
 have e:((List.range (min xs.length ([]:List V).length)).all (fun _=>true) && xs.length == ([]:List V).length)=xs.isEmpty:=by
  cases xs <;> simp
 rw [e] at this
 exact this
theorem rp (l:List Int):(l.map V.int).isEmpty=decide (l=[]):=by cases l <;> simp
abbrev f9:Stmt:=(ai (top 32) 0)
abbrev eT (K:PySem.W.Frag) (c:Cs):Sp:=sp1 fun v H Q _=>∃ x dx,v = .ref x∧At H x (.ins c.R dx [])∧(∀ H' w p,Chg [x] H H'→aK H w→aK H p→RdAt c H' x w p [] []→Q .non H')
theorem eU:FnScope ["self"] ["self"] (ag f9):=aU
theorem cj (T:Txt K mg c):ww P w K mg base CX0 5 c.R ["self"] (eT K c):=by
 refine T.d_Reading___init__.ok eU (fun _ _ _ _ _ _ us hl=>match us,hl with | [_],_=>rfl) jU (fun f cdv A outer s H vs Q E hr h => ?_)
 obtain ⟨v0,rfl,h⟩:=h
 refine ⟨_,(ae (bd (K:=K) (pv 0) (bn ac))
   (ae (bd (K:=K) (pv 0) (bn ac))
   (ad (bd (K:=K) (pv 0) (cv (cM T) hr az (aa (bn ac) (aa (bn ac) ac))))))),?_⟩
 try dsimp only [bt,Cx.nox,Cx.wish]
 refine aj (s2:=[some v0]) rfl ?_
 obtain ⟨x,dx,rfl,ex,q⟩:=h
 wtm_at "wp"
 refine ⟨small (show 0≤1000 by decide),fun w hw => ?_⟩
 have nxw:x≠w:=by wtm_at "hn"
 wtm_at "wp"
 refine ⟨small (show 0≤1000 by decide),fun p hp => ?_⟩
 have nxp:x≠p:=aA hp af
 have nwp:w≠p:=aA hp (by wtm_at "hg")
 wtm_at "wp"
 refine ⟨small (show 0≤1000 by decide),fun y1 hy1 => ?_⟩
 have nx1:x≠y1:=aA hy1 af
 have np1:p≠y1:=aA hy1 (by wtm_at "hg")
 have nw1:w≠y1:=aA hy1 (by wtm_at "hg")
 wtm_at "wp"
 refine ⟨small (show 0≤1000 by decide),fun y2 hy2 => ?_⟩
 have nx2:x≠y2:=aA hy2 (by wtm_at "hg")
 have np2:p≠y2:=aA hy2 (by wtm_at "hg")
 have nw2:w≠y2:=aA hy2 (by wtm_at "hg")
 wtm_at "wp"
 refine ⟨y1,y2,[],[],rfl,rfl,by show SqL K _ _ [];wtm_at "hg",by show SqL K _ _ [];wtm_at "hg",Bits.nil,fun z=>by simp at z,by decide,by decide,fun ch H1 s1 hc ec => ?_⟩
 have nxc:x≠ch:=aA hc (by wtm_at "hg")
 wtm_at "wp"
 have hpH:aK H p:=by wtm_at "hf"
 refine q _ w p ?_ hw hpH ⟨⟨dx,ch,af,by wtm_at "hg"⟩,by show At _ w (.lst []);wtm_at "hg",by show At _ p (.lst []);wtm_at "hg",nwp⟩
 wtm_at "hc"
abbrev ji:Stmt:=(ai (top 32) 1)
abbrev iX (K:PySem.W.Frag) (c:Cs):Sp:=sp2 fun u v H Q _=>∃ (r w p:Addr) (ws ps:List Int) (b:Int),u = .ref r∧v = .int b∧RdAt c H r w p ws ps∧Rd ws ps∧Bit b∧b∈ak ws ps∧(∀ H',Chg [r,w,p] H H'→RdAt c H' r w p (ws++[b]) (bz ws ps b)→Q .non H')
theorem iY:FnScope ["self", "bit"] ["self", "bit"] (ag ji):=aU
theorem iZ (T:Txt K mg c):fk P w K mg base CX0 5 c.R "take" ["self", "bit"] (iX K c):=by
 refine T.d_Reading_take.ok iY (fun _ _ _ _ _ _ us hl=>match us,hl with | [_,_],_=>rfl) gT (fun f cdv A outer s H vs Q E hr h => ?_)
 obtain ⟨v0,v1,rfl,h⟩:=h
 refine ⟨_,(ae (aZ (tS (cC (cv (b7 T) hr az (aa (am (K:=K) (pv 0)) ac))))
    (ad (ay (cw (K:=K) PySem.F.plainAttrs_list PySem.F.slot_list_append PySem.F.type_list_append bD (am (K:=K) (pv 0)) (aa (pv 1) ac))))
    aD)
   (ae (ay (cw (K:=K) PySem.F.plainAttrs_list PySem.F.slot_list_append PySem.F.type_list_append bD (am (K:=K) (pv 0)) (aa (pv 1) ac)))
   (ad (bd (K:=K) (pv 0) (cv (cM T) hr az (aa (am (K:=K) (pv 0)) (aa (am (K:=K) (pv 0)) ac))))))),?_⟩
 try dsimp only [bt,Cx.nox,Cx.wish]
 refine aj (s2:=[some v0,some v1]) rfl ?_
 obtain ⟨r,w,p,ws,ps,b,rfl,rfl,⟨⟨dx,ch,er,ec⟩,ew,ep,nwp⟩,rd,hb,hc,q⟩:=h
 have nrw:r≠w:=er.ne ew (by intro z;cases z)
 have nrp:r≠p:=er.ne ep (by intro z;cases z)
 have ncw:ch≠w:=ec.ne ew (by intro z;cases z)
 have ncp:ch≠p:=ec.ne ep (by intro z;cases z)
 have ncr:ch≠r:=ec.ne er (by intro z;cases z)
 have rn:=rd.next hb hc
 have l1:=rd.wlen
 have l2:=rd.plen
 have l3:=rn.wlen
 have l4:=rn.plen
 have l5:=rn.fit.len
 have fin:∀ H1 H2,Chg [r,w,p] H H1→At H1 r (.ins c.R dx (rdF (.ref w) (.ref p) (.ref ch)))→At H1 w (.lst (ws.map V.int++[.int b]))→At H1 p (.lst ((bz ws ps b).map V.int)) →
   ∀ c2,Same H1 H2→aK H1 c2→At H2 c2 (.tup ((ak (ws++[b]) (bz ws ps b)).map V.int))→Q .non (upd H2 r (.ins c.R dx (rdF (.ref w) (.ref p) (.ref c2)))):=fun H1 H2 k1 e1 e2 e3 c2 s2 f2 e4=>by
  have nc2:c2≠r:=Ne.symm (aA f2 e1)
  refine q _ ((k1.trans s2.chg).upd (by simp)) ⟨⟨dx,c2,af,by wtm_at "hg"⟩,?_,by wtm_at "hg",nwp⟩
  rw [List.map_append]
  exact aL (Ne.symm nrw) (s2.get e2)
 wtm_at "wp"
 refine ⟨w,ws,rfl,by wtm_at "hg",by omega,fun H1 s1 => ?_⟩
 wtm_at "wp"
 cases hd:due ws with
 | true=>
  have en:bz ws ps b=ps:=by unfold bz;rw [if_pos hd]
  rw [en] at fin
  wtm_at "wp"
  refine bE (s1.get ew) (bo (by rw [List.length_map];omega)) ?_
  wtm_at "wp"
  refine ⟨w,p,ws++[b],ps,rfl,rfl,?_,by wtm_at "hg",rd.bp,fun _=>rd.fit.len,by omega,by omega,fun c2 H2 s2 f2 e2 => ?_⟩
  ·rw [List.map_append];exact At.sqL af
  wtm_at "wp"
  exact fin _ _ ((Same.chg s1).upd (by simp)) (by wtm_at "hg") af (by wtm_at "hg") c2 s2 f2 e2
 | false=>
  have en:bz ws ps b=ps++[b]:=by unfold bz;rw [if_neg (by rw [hd];decide)]
  rw [en] at fin l4 l5
  wtm_at "wp"
  refine bE (s1.get ep) (bo (by rw [List.length_map];omega)) ?_
  wtm_at "wp"
  refine bE (aL nwp (s1.get ew)) (bo (by rw [List.length_map];omega)) ?_
  wtm_at "wp"
  refine ⟨w,p,ws++[b],ps++[b],rfl,rfl,?_,?_,?_,?_,by omega,by rw [List.length_append,List.length_singleton];omega,fun c2 H2 s2 f2 e2 => ?_⟩
  ·rw [List.map_append];exact At.sqL af
  ·rw [List.map_append];exact At.sqL (aL (Ne.symm nwp) af)
  ·rw [← en];exact rn.bp
  ·intro _
   rw [← en]
   rw [← en] at l5
   exact rn.fit.len
  wtm_at "wp"
  refine fin _ _ (((Same.chg s1).upd (by simp)).upd (by simp)) (by wtm_at "hg") af ?_ c2 s2 f2 e2
  rw [List.map_append];exact aL (Ne.symm nwp) af
abbrev gJ:Stmt:=(ai (top 32) 2)
abbrev gb (K:PySem.W.Frag) (c:Cs):Sp:=sp1 fun u H Q _=>∃ (r w p:Addr) (ws ps:List Int),u = .ref r∧RdAt c H r w p ws ps∧(∀ H',Same H H'→Q (.bl (decide (ak ws ps=[]))) H')
theorem gc:FnScope ["self"] ["self"] (ag gJ):=aU
theorem cx (T:Txt K mg c):fk P w K mg base CX0 1 c.R "is_over" ["self"] (gb K c):=by
 refine T.d_Reading_is_over.ok gc (fun _ _ _ _ _ _ us hl=>match us,hl with | [_],_=>rfl) jU (fun f cdv A outer s H vs Q E hr h => ?_)
 obtain ⟨v0,rfl,h⟩:=h
 refine ⟨_,(ad (aF (cc (vE (K:=K) hr) (am (K:=K) (pv 0)) (ce ac) (ax _)))),?_⟩
 try dsimp only [bt,Cx.nox,Cx.wish]
 refine aj (s2:=[some v0]) rfl ?_
 obtain ⟨r,w,p,ws,ps,rfl,⟨⟨dx,ch,er,ec⟩,ew,ep,nwp⟩,q⟩:=h
 wtm_at "wp"
 refine ⟨small (show 0≤1000 by decide),fun t ht => ?_⟩
 refine ⟨_,rm (xs:=(ak ws ps).map V.int) (by wtm_at "hg") (by wtm_at "hg"),?_⟩
 rw [rp]
 wtm_at "wp"
 exact q _ (aq ht _)
abbrev dS:Stmt:=(ai (top 32) 3)
abbrev dv (K:PySem.W.Frag) (c:Cs):Sp:=sp1 fun u H Q _=>∃ (r w p:Addr) (ws ps:List Int),u = .ref r∧RdAt c H r w p ws ps∧Rd ws ps∧(∀ H',Same H H'→Q (.bl (!due ws && decide (1≤ps.length) && decide (ps.length < 12))) H')
theorem dw:FnScope ["self"] ["self"] (ag dS):=aU
theorem dy (T:Txt K mg c):fk P w K mg base CX0 2 c.R "is_at_name" ["self"] (dv K c):=by
 refine T.d_Reading_is_at_name.ok dw (fun _ _ _ _ _ _ us hl=>match us,hl with | [_],_=>rfl) jU (fun f cdv A outer s H vs Q E hr h => ?_)
 obtain ⟨v0,rfl,h⟩:=h
 refine ⟨_,(ae (aZ (cC (cv (b7 T) hr az (aa (am (K:=K) (pv 0)) ac)))
    (ad (aF lV))
    aD)
   (ad (aF (oX (cc wQ (aI (aJ (K:=K)) rfl T.len PySem.boot_len (aa (am (K:=K) (pv 0)) ac)) (pgi T.c_NAME_AT) (ax _)) (oW (cc jL (aI (aJ (K:=K)) rfl T.len PySem.boot_len (aa (am (K:=K) (pv 0)) ac)) (pgi T.c_COUNT_AT) (ax _))))))),?_⟩
 try dsimp only [bt,Cx.nox,Cx.wish]
 refine aj (s2:=[some v0]) rfl ?_
 obtain ⟨r,w,p,ws,ps,rfl,⟨⟨dx,ch,er,ec⟩,ew,ep,nwp⟩,rd,q⟩:=h
 have l1:=rd.wlen
 wtm_at "wp"
 refine ⟨w,ws,rfl,by wtm_at "hg",by omega,fun H1 s1 => ?_⟩
 wtm_at "wp"
 cases hd:due ws with
 | true=>
  rw [hd] at q
  wtm_at "wp"
  exact q _ s1
 | false=>
  rw [hd] at q
  wtm_at "wp"
  rw [List.length_map]
  refine aO (fun c1 => ?_) (fun c1 => ?_)
  ·wtm_at "wp"
   rw [List.length_map]
   have:=q _ s1
   rw [show decide (1≤ps.length)=true from decide_eq_true (by omega)] at this
   rw [show decide ((ps.length:Int) < 12)=decide (ps.length < 12) from decide_eq_decide.mpr ⟨fun z=>by omega,fun z=>by omega⟩]
   exact this
  ·have:=q _ s1
   rw [show decide (1≤ps.length)=false from decide_eq_false (by omega)] at this
   exact this
def Md.str:Md→Str
 | .free => "free"
 | .frame => "frame"
 | .cry => "cry"
 | .dazed => "dazed"
 | .rest => "rest"
theorem md_inj {a b:Md}:(a.str=b.str)↔a=b:=by
 cases a <;> cases b <;> simp [Md.str] <;> decide
def Im:HO→Prop
 | .tup _=>True
 | .frz _ _=>True
 | _=>False
structure Kp (S:List Addr) (H H':Hp):Prop where
 ot:∀ b o,b∉S→H b=some o→H' b=some o
 im:∀ b o,Im o→H b=some o→H' b=some o
theorem Kp.refl (S:List Addr) (H:Hp):Kp S H H:=⟨fun _ _ _ h=>h,fun _ _ _ h=>h⟩
theorem Kp.trans {S:List Addr} {H H1 H2:Hp} (a:Kp S H H1) (b:Kp S H1 H2):Kp S H H2:=⟨fun x o n h=>b.ot x o n (a.ot x o n h),fun x o n h=>b.im x o n (a.im x o n h)⟩
theorem Kp.mono {S S':List Addr} {H H':Hp} (a:Kp S H H') (h:∀ x∈S,x∈S'):Kp S' H H':=⟨fun x o n e=>a.ot x o (fun z=>n (h x z)) e,a.im⟩
theorem Same.kp {S:List Addr} {H H':Hp} (s:Same H H'):Kp S H H':=⟨fun x o _ h=>s x o h,fun x o _ h=>s x o h⟩
theorem Kp.upd {S:List Addr} {H H':Hp} {p:Addr} {o x:HO} (s:Kp S H H') (hp:p∈S) (e:At H' p x) (hx:¬ Im x):Kp S H (upd H' p o):=by
 refine ⟨fun b u n h=>aL (fun z=>n (z ▸ hp)) (s.ot b u n h),fun b u i h => ?_⟩
 have h':=s.im b u i h
 refine aL (fun z => ?_) h'
 subst z
 rw [e] at h'
 cases h'
 exact hx i
theorem Kp.new {S:List Addr} {H H':Hp} {p:Addr} {o:HO} (s:Kp S H H') (hp:aK H' p):Kp S H (L2.upd H' p o):=⟨fun b u n h=>aC hp (s.ot b u n h),fun b u i h=>aC hp (s.im b u i h)⟩
theorem Kp.get {S:List Addr} {H H':Hp} {a:Addr} {o:HO} (s:Kp S H H') (n:a∉S) (h:At H a o):At H' a o:=s.ot a o n h
theorem Kp.tup {S:List Addr} {H H':Hp} {a:Addr} {xs:List V} (s:Kp S H H') (h:At H a (.tup xs)):At H' a (.tup xs):=s.im a _ trivial h
theorem Kp.frz {S:List Addr} {H H':Hp} {a:Addr} {o:Obj} {u:HO} (s:Kp S H H') (h:At H a (.frz o u)):At H' a (.frz o u):=s.im a _ trivial h
theorem Kp.fr {S:List Addr} {H H':Hp} {p:Addr} (s:Kp S H H') (n:p∉S) (h:aK H' p):aK H p:=by
 cases q:H p with
 | none=>exact q
 | some o=>
  have:=s.ot p o n q
  rw [h] at this
  cases this
theorem Chg.kp {n:Addr} {H H':Hp} {x:HO} {S:List Addr} (s:Chg [n] H H') (hn:n∈S) (e:At H n x) (hx:¬ Im x):Kp S H H':=
 ⟨fun b o h q=>s b o (aH fun z=>h (z ▸ hn)) q,fun b o i q=>s b o (aH fun z=>by subst z;rw [e] at q;cases q;exact hx i) q⟩
def FrAt (H:Hp) (v:V) (f:Fr):Prop:=∃ t r o,v = .ref t∧At H t (.tup [.int f.1,.ref r])∧At H r (.frz o (.lst (f.2.map V.int)))
def Frs (H:Hp):List V→List Fr→Prop:=Paired (FrAt H)
theorem FrAt.kp {S:List Addr} {H H':Hp} {v:V} {f:Fr} (h:FrAt H v f) (s:Kp S H H'):FrAt H' v f:=by
 obtain ⟨t,r,o,e,a,b⟩:=h
 exact ⟨t,r,o,e,s.tup a,s.frz b⟩
theorem Frs.kp {S:List Addr} {H H':Hp} {vs:List V} {fs:List Fr} (h:Frs H vs fs) (s:Kp S H H'):Frs H' vs fs:=Paired.mapP h fun _ _ z=>z.kp s
theorem Frs.len {H:Hp} {vs:List V} {fs:List Fr} (h:Frs H vs fs):vs.length=fs.length:=Paired.length h
theorem jI {α β:Type} {R:α→β→Prop}:∀ {a b:List α} {c d:List β},Paired R a c→Paired R b d→Paired R (a++b) (c++d)
 | _,_,_,_,.nil,h=>h
 | _,_,_,_,.cons r t,h => .cons r (jI t h)
theorem rq {α β:Type} {R:α→β→Prop}:∀ {a:List α} {c:List β} (k:Nat),Paired R a c→Paired R (a.take k) (c.take k)
 | _,_,0,_ => .nil
 | _,_,_+1,.nil => .nil
 | _,_,k+1,.cons r t => .cons r (rq k t)
theorem rs {α β:Type} {R:α→β→Prop}:∀ {a:List α} {c:List β} (k:Nat),Paired R a c→Paired R (a.drop k) (c.drop k)
 | _,_,0,h=>h
 | _,_,_+1,.nil => .nil
 | _,_,k+1,.cons _ t=>rs k t
theorem nM {α β:Type} {R:α→β→Prop}:∀ {a:List α} {c:List β} (k:Nat),Paired R a c→Paired R (a.eraseIdx k) (c.eraseIdx k)
 | _,_,_,.nil => .nil
 | _,_,0,.cons _ t=>t
 | _,_,k+1,.cons r t => .cons r (nM k t)
theorem ge {α β:Type} {R:α→β→Prop}:∀ {a:List α} {c:List β} {k:Nat} {x:α},Paired R a c→a[k]? = some x→∃ y,c[k]? = some y∧R x y
 | _,_,_,_,.nil,h=>by simp at h
 | _,_,0,_,.cons r _,h=>by
  simp at h
  subst h
  exact ⟨_,rfl,r⟩
 | _,_,k+1,_,.cons _ t,h=>by
  obtain ⟨y,h1,h2⟩:=ge (k:=k) t (by simpa using h)
  exact ⟨y,by simpa using h1,h2⟩
theorem rA {α β:Type} {R:α→β→Prop}:∀ {a:List α} {c:List β} {k:Nat} {y:β},Paired R a c→c[k]? = some y→∃ x,a[k]? = some x∧R x y
 | _,_,_,_,.nil,h=>by simp at h
 | _,_,0,_,.cons r _,h=>by
  simp at h
  subst h
  exact ⟨_,rfl,r⟩
 | _,_,k+1,_,.cons _ t,h=>by
  obtain ⟨y,h1,h2⟩:=rA (k:=k) t (by simpa using h)
  exact ⟨y,by simpa using h1,h2⟩
structure NA where
 r:Addr
 w:Addr
 p:Addr
 q:Addr
 t:Addr
def fpN (n:Addr) (A:NA):List Addr:=[n,A.r,A.w,A.p,A.q,A.t]
def SnAt (H:Hp) (v:V):Option (List Int)→Prop
 | none=>v = .non
 | some s=>∃ a o,v = .ref a∧At H a (.frz o (.lst (s.map V.int)))
theorem SnAt.kp {S:List Addr} {H H':Hp} {v:V} {sn:Option (List Int)} (h:SnAt H v sn) (s:Kp S H H'):SnAt H' v sn:=by
 cases sn with
 | none=>exact h
 | some l=>
  obtain ⟨a,o,e,b⟩:=h
  exact ⟨a,o,e,s.frz b⟩
structure NdAt (c:Cs) (H:Hp) (n:Addr) (A:NA) (d:Nd):Prop where
 ob:∃ dx sv,At H n (.ins c.D dx (ndF (.str d.st.str) (.int (d.ps:Nat)) (.ref A.r) sv (.ref A.q) (.ref A.t) (.int (d.fc:Nat))))∧SnAt H sv d.sn
 rd:RdAt c H A.r A.w A.p d.ws d.pl
 qu:∃ vs,At H A.q (.lst vs)∧Frs H vs d.qu
 tk:∃ vs,At H A.t (.lst vs)∧Frs H vs d.tk
 nd:(fpN n A).Nodup
theorem RdAt.kp {c:Cs} {S:List Addr} {H H':Hp} {r w p:Addr} {ws ps:List Int} (h:RdAt c H r w p ws ps) (s:Kp S H H') (hr:r∉S) (hw:w∉S) (hp:p∉S):RdAt c H' r w p ws ps:=by
 obtain ⟨⟨dx,ch,a,b⟩,d,e,f⟩:=h
 exact ⟨⟨dx,ch,s.get hr a,s.tup b⟩,s.get hw d,s.get hp e,f⟩
theorem NdAt.kp {c:Cs} {S:List Addr} {H H':Hp} {n:Addr} {A:NA} {d:Nd} (h:NdAt c H n A d) (s:Kp S H H') (hd:∀ x∈fpN n A,x∉S):NdAt c H' n A d:=by
 obtain ⟨⟨dx,sv,a,b⟩,r,⟨q,e,f⟩,⟨t,i,j⟩,k⟩:=h
 have m:∀ x∈fpN n A,x∉S:=hd
 simp only [fpN,List.mem_cons,List.not_mem_nil,or_false,forall_eq_or_imp,forall_eq] at m
 obtain ⟨m1,m2,m3,m4,m5,m6⟩:=m
 exact ⟨⟨dx,sv,s.get m1 a,b.kp s⟩,r.kp s m2 m3 m4,⟨q,s.get m5 e,f.kp s⟩,⟨t,s.get m6 i,j.kp s⟩,k⟩
theorem NdAt.same {c:Cs} {H H':Hp} {n:Addr} {A:NA} {d:Nd} (h:NdAt c H n A d) (s:Same H H'):NdAt c H' n A d:=h.kp (S:=[]) (Same.kp s) (fun _ _ z=>by cases z)
theorem NdAt.re {c:Cs} {H H':Hp} {n:Addr} {A:NA} {d:Nd} (h:NdAt c H n A d) (s:Chg [n] H H') {d':Nd} {dx:Addr} {sv:V} (e:At H' n (.ins c.D dx (ndF (.str d'.st.str) (.int (d'.ps:Nat)) (.ref A.r) sv (.ref A.q) (.ref A.t) (.int (d'.fc:Nat)))))
  (es:SnAt H' sv d'.sn) (e1:d'.ws=d.ws) (e2:d'.pl=d.pl) (e3:d'.qu=d.qu) (e4:d'.tk=d.tk):NdAt c H' n A d':=by
 obtain ⟨⟨dx0,sv0,a,b⟩,r,⟨q,f,g⟩,⟨t,i,j⟩,k⟩:=h
 have kk:Kp [n] H H':=Chg.kp s (by simp) a (fun z=>z)
 have nd:=k
 simp only [fpN,List.nodup_cons,List.mem_cons,List.not_mem_nil,or_false,not_or] at nd
 obtain ⟨⟨n1,n2,n3,n4,n5⟩,_⟩:=nd
 refine ⟨⟨dx,sv,e,es⟩,?_,⟨q,kk.get (aH (Ne.symm n4)) f,by rw [e3];exact g.kp kk⟩,⟨t,kk.get (aH (Ne.symm n5)) i,by rw [e4];exact j.kp kk⟩,k⟩
 rw [e1,e2]
 exact r.kp kk (aH (Ne.symm n1)) (aH (Ne.symm n2)) (aH (Ne.symm n3))
def Post (c:Cs) (H:Hp) (n:Addr) (A:NA) (d':Nd) (Q:VK):Prop:=∀ H' A',Kp (fpN n A) H H'→NdAt c H' n A' d'→(∀ x∈fpN n A',x∈fpN n A∨aK H x)→Q .non H'
theorem bT {n:Int} (h0 : -1≤n) (h1:n≤1000000):n.natAbs.log2 < 1920:=by
 have h:n.natAbs < 2 ^ 20:=by
  have:(2:Nat) ^ 20=1048576:=by decide
  omega
 have:n.natAbs.log2 < 20:=by
  rcases Nat.eq_zero_or_pos n.natAbs with z | z
  ·rw [z];decide
  ·exact (Nat.log2_lt (by omega)).mpr h
 omega
theorem gK {n:Nat} (h:n≤5000):n < sizeLine:=Nat.lt_of_le_of_lt h (by decide +kernel)
def yu (H:Hp):V→V
 | .ref t=>match H t with
  | some (.tup (x :: _))=>x
  | _ => .non
 | _ => .non
theorem mE {H:Hp} {v:V} {f:Fr} (h:FrAt H v f):yu H v = .int f.1:=by
 obtain ⟨t,r,o,rfl,a,b⟩:=h
 have a':H t=some (.tup [.int f.1,.ref r]):=a
 simp only [yu,a']
theorem mF {H:Hp}:∀ {vs:List V} {fs:List Fr},Frs H vs fs→vs.map (yu H)=(fs.map (·.1)).map V.int
 | _,_,.nil=>rfl
 | _,_,.cons r t=>by
  rw [List.map_cons,List.map_cons,List.map_cons,mE r]
  exact congrArg _ (mF t)
theorem rB {n:Int}:∀ {q:List Fr} {k:Nat},k≤q.length→(∀ i f,i < k→q[i]? = some f→f.1≤n)→k≤Nd.spot n q
 | _,0,_,_=>Nat.zero_le _
 | [],k+1,h,_=>by simp at h
 | f :: q,k+1,h,a=>by
  unfold Nd.spot
  rw [if_pos (a 0 f (by omega) rfl)]
  have:=rB (q:=q) (k:=k) (by simpa using h) (fun i g hi hg=>a (i+1) g (by omega) (by simpa using hg))
  omega
theorem mG {n:Int}:∀ {q:List Fr} {k:Nat} {f:Fr},k < Nd.spot n q→q[k]? = some f→f.1≤n
 | [],_,_,h,_=>by simp [Nd.spot] at h
 | g :: q,k,f,h,e=>by
  unfold Nd.spot at h
  split at h
  ·rename_i hg
   cases k with
   | zero=>simp at e;subst e;exact hg
   | succ k=>exact mG (q:=q) (k:=k) (by omega) (by simpa using e)
  ·omega
abbrev jj:Stmt:=(ai (top 44) 19)
abbrev i0 (K:PySem.W.Frag) (c:Cs):Sp:=sp2 fun u v H Q _=>∃ (n dx:Addr) (st ps rd sn qu tk fc:V) (s:Str),u = .ref n∧v = .str s∧At H n (.ins c.D dx (ndF st ps rd sn qu tk fc))∧(∀ H',Chg [n] H H'→At H' n (.ins c.D dx (ndF (.str s) (.int 0) rd sn qu tk fc))→Q .non H')
theorem i3:FnScope ["self", "state"] ["self", "state"] (ag jj):=aU
theorem bH (T:Txt K mg c):fk P w K mg base CX0 1 c.D "turn_to" ["self", "state"] (i0 K c):=by
 refine T.d_Node_turn_to.ok i3 (fun _ _ _ _ _ _ us hl=>match us,hl with | [_,_],_=>rfl) gT (fun f cdv A outer s H vs Q E hr h => ?_)
 obtain ⟨v0,v1,rfl,h⟩:=h
 refine ⟨_,(ae (bd (K:=K) (pv 0) (pv 1))
   (ad (bd (K:=K) (pv 0) ah))),?_⟩
 try dsimp only [bt,Cx.nox,Cx.wish]
 refine aj (s2:=[some v0,some v1]) rfl ?_
 obtain ⟨n,dx,st,ps,rd,sn,qu,tk,fc,s,rfl,rfl,e,q⟩:=h
 wtm_at "wp"
 exact q _ (by wtm_at "hc") af
abbrev i4:Stmt:=(ai (top 44) 18)
abbrev hW (K:PySem.W.Frag) (c:Cs):Sp:=sp3 fun u v w H Q _=>∃ (n dx:Addr) (st rd sn qu tk fc:V) (p m:Nat) (s:Str),u = .ref n∧v = .int (m:Nat)∧w = .str s∧At H n (.ins c.D dx (ndF st (.int (p:Nat)) rd sn qu tk fc)) ∧
 (∀ H',Chg [n] H H'→(p+1=m→At H' n (.ins c.D dx (ndF (.str s) (.int 0) rd sn qu tk fc)))→(¬ p+1=m→At H' n (.ins c.D dx (ndF st (.int ((p+1:Nat):Int)) rd sn qu tk fc)))→Q .non H')
theorem hZ:FnScope ["self", "many", "state"] ["self", "many", "state"] (ag i4):=aU
theorem bX (T:Txt K mg c):fk P w K mg base CX0 2 c.D "pass_one" ["self", "many", "state"] (hW K c):=by
 refine T.d_Node_pass_one.ok hZ (fun _ _ _ _ _ _ us hl=>match us,hl with | [_,_,_],_=>rfl) yN (fun f cdv A outer s H vs Q E hr h => ?_)
 obtain ⟨v0,v1,v2,rfl,h⟩:=h
 refine ⟨_,(ae (dJ (K:=K) (pv 0) ah mZ)
   (ad (aZ (au cG (am (K:=K) (pv 0)) (pv 1) (ax _))
    (ad (ay (eJ T.k_Node (bH T) hr az (pv 0) (aa (pv 2) ac))))
    aD))),?_⟩
 try dsimp only [bt,Cx.nox,Cx.wish]
 refine aj (s2:=[some v0,some v1,some v2]) rfl ?_
 obtain ⟨n,dx,st,rd,sn,qu,tk,fc,p,m,s,rfl,rfl,rfl,e,q⟩:=h
 wtm_at "wp"
 refine aO (fun c1 => ?_) (fun c1 => ?_)
 ·wtm_at "wp"
  refine ⟨n,dx,_,_,_,_,_,_,_,s,rfl,rfl,af,fun H1 k1 e1 => ?_⟩
  exact q _ (((Chg.refl [n] H).upd (by simp)).trans k1) (fun _=>e1) (fun z=>absurd (by omega) z)
 ·wtm_at "wp"
  refine q _ (by wtm_at "hc") (fun z=>absurd (by omega) c1) (fun _ => ?_)
  rw [show ((p+1:Nat):Int)=(p:Int)+1 by omega]
  exact af
abbrev jk:Stmt:=(ai (top 44) 17)
abbrev dz (K:PySem.W.Frag) (c:Cs):Sp:=sp1 fun u H Q _=>∃ (n dx:Addr) (st ps rd sn qu tk:V) (f:Nat),u = .ref n∧At H n (.ins c.D dx (ndF st ps rd sn qu tk (.int (f:Nat))))∧(∀ H',Chg [n] H H'→At H' n (.ins c.D dx (ndF (.str Md.cry.str) (.int 0) rd sn qu tk (.int ((f+1:Nat):Int))))→Q .non H')
theorem i5:FnScope ["self"] ["self"] (ag jk):=aU
theorem dA (T:Txt K mg c):fk P w K mg base CX0 2 c.D "cry_out" ["self"] (dz K c):=by
 refine T.d_Node_cry_out.ok i5 (fun _ _ _ _ _ _ us hl=>match us,hl with | [_],_=>rfl) jU (fun f cdv A outer s H vs Q E hr h => ?_)
 obtain ⟨v0,rfl,h⟩:=h
 refine ⟨_,(ae (dJ (K:=K) (pv 0) ah mZ)
   (ad (ay (eJ T.k_Node (bH T) hr az (pv 0) (aa (pgs T.c_CRY) ac))))),?_⟩
 try dsimp only [bt,Cx.nox,Cx.wish]
 refine aj (s2:=[some v0]) rfl ?_
 obtain ⟨n,dx,st,ps,rd,sn,qu,tk,f,rfl,e,q⟩:=h
 wtm_at "wp"
 refine ⟨n,dx,_,_,_,_,_,_,_,_,rfl,rfl,af,fun H1 k1 e1 => ?_⟩
 refine q _ (((Chg.refl [n] H).upd (by simp)).trans k1) ?_
 rw [show ((f+1:Nat):Int)=(f:Int)+1 by omega]
 exact e1
abbrev gf:Stmt:=(ai (top 44) 1)
abbrev eV (K:PySem.W.Frag) (c:Cs):Sp:=sp2 fun u v H Q _=>∃ (n:Addr) (A:NA) (d:Nd) (name:Int),u = .ref n∧v = .int name∧NdAt c H n A d∧d.qu.length≤900∧(∀ H',Same H H'→Q (.bl (decide (name∈d.qu.map (·.1)))) H')
theorem eW:FnScope ["self", "name"] ["self", "name"] (ag gf):=aU
theorem eX (T:Txt K mg c):fk P w K mg base CX0 1 c.D "has_waiting" ["self", "name"] (eV K c):=by
 refine T.d_Node_has_waiting.ok eW (fun _ _ _ _ _ _ us hl=>match us,hl with | [_,_],_=>rfl) gT (fun f cdv A outer s H vs Q E hr h => ?_)
 obtain ⟨v0,v1,rfl,h⟩:=h
 refine ⟨_,(ad (aF (cc (gz (K:=K)) (pv 1) (cz [] [] (aR (K:=K) (am (K:=K) (pv 0))) (fun fp s H=>(bR (bK (K:=K)) (pv 0) ah (fun _ _=>rfl)))) (by with_unfolding_all rfl)))),?_⟩
 try dsimp only [bt,Cx.nox,Cx.wish]
 refine aj (s2:=[some v0,some v1]) rfl ?_
 obtain ⟨n,A,d,name,rfl,rfl,⟨⟨dx,sv,eo,es⟩,ro,⟨qs,eq,fq⟩,⟨ts,et,ft⟩,nd⟩,hl,q⟩:=h
 have ql:=fq.len
 wtm_at "wp"
 refine bF ?_
 wtm_at "wp"
 refine fM (yu H) (At.sqL eq) (small (by omega)) (fun i x H' R hx s1 hR => ?_) (fun D Hf s1 fD eD => ?_)
 ·obtain ⟨f,hf,t,r,o,rfl,a,b⟩:=ge fq hx
  show tOp _ _ _ [some (.ref t)] _ _
  wtm_at "wp"
  have:=hR H' (Same.refl _)
  rw [mE ⟨t,r,o,rfl,a,b⟩] at this
  exact this
 rw [mF fq] at eD
 have eD':At Hf D (.lst ((d.qu.map (·.1)).map V.int)):=eD
 refine ya (l:=d.qu.map (·.1)) (.inl (At.sqL eD')) ?_
 wtm_at "wp"
 exact q _ s1
abbrev i6:Stmt:=(ai (top 44) 2)
abbrev ia (K:PySem.W.Frag) (c:Cs):Sp:=sp3 fun u v w H Q _=>∃ (n a:Addr) (A:NA) (d:Nd) (name:Int) (row:List Int),u = .ref n∧v = .int name∧w = .ref a∧NdAt c H n A d∧SqL K H a (row.map V.int)∧d.qu.length≤900∧Post c H n A (d.letWait (name,row)) Q
theorem sc_Node_let_wait:FnScope ["self", "name", "row", "at"] ["self", "name", "row"] (ag i6):=aU
theorem ib (T:Txt K mg c):fk P w K mg base CX0 1 c.D "let_wait" ["self", "name", "row"] (ia K c):=by
 refine T.d_Node_let_wait.ok sc_Node_let_wait (fun _ _ _ _ _ _ us hl=>match us,hl with | [_,_,_],_=>rfl) yN (fun f cdv A outer s H vs Q E hr h => ?_)
 obtain ⟨v0,v1,v2,rfl,h⟩:=h
 refine ⟨_,(ae (aN (i:=3) sc_Node_let_wait.nd rfl (.inl rfl) ah)
   (di (rQ PassesOwn.never (PW.pt (jp (au jL (pv 3) (aI (aJ (K:=K)) rfl T.len PySem.boot_len (aa (am (K:=K) (pv 0)) ac)) (ax _)) (io (au yV (bR (bK (K:=K)) (bR (br (K:=K)) (am (K:=K) (pv 0)) (pv 3) (fun _ _=>rfl)) ah (fun _ _=>rfl)) (pv 1) (ax _)))))
    (ad (wM (i:=3) sc_Node_let_wait.nd rfl (.inl rfl) ah wN)))
   (ad (ay (cw (K:=K) PySem.F.plainAttrs_list PySem.F.slot_list_insert PySem.F.type_list_insert qj (am (K:=K) (pv 0)) (aa (pv 3) (aa (ce (aa (pv 1) (aa (nw (ix (eK (K:=K)) rfl T.list PyProof.Rows.boot_list (aa (pv 2) ac))) ac))) ac))))))),?_⟩
 try dsimp only [bt,Cx.nox,Cx.wish]
 refine aj (s2:=[some v0,some v1,some v2,none]) rfl ?_
 obtain ⟨n,a,A,d,name,row,rfl,rfl,rfl,⟨⟨dx,sv,eo,es⟩,ro,⟨qs,eq,fq⟩,⟨ts,et,ft⟩,nd⟩,hS,hl,q⟩:=h
 have ql:=fq.len
 have sl:=qN name d.qu
 wtm_at "wp"
 refine gU (fun σ H2=>H2=H∧σ=[some (.ref n),some (.int name),some (.ref a),some (.int (Nd.spot name d.qu:Nat))]) ?_ ?_
 ·refine rV (fun σ H2=>H2=H∧∃ k:Nat,σ=[some (.ref n),some (.int name),some (.ref a),some (.int (k:Int))]∧k≤Nd.spot name d.qu) (fun σ _=>match σ with | [_,_,_,some (.int k)]=>d.qu.length - k.toNat | _=>0) ⟨rfl,0,rfl,Nat.zero_le _⟩ ?_ ?_
  ·rintro σ H2 ⟨rfl,k,rfl,hk⟩
   wtm_at "wp"
   rw [ql]
   refine aO (fun c1 => ?_) (fun c1 => ?_)
   ·have hkl:k < d.qu.length:=by omega
    obtain ⟨x,hx,t,r,o,rfl,et1,er1⟩:=rA fq (List.getElem?_eq_getElem hkl)
    wtm_at "wp"
    refine cr (At.sqL eq) (jM hx) ?_
    wtm_at "wp"
    refine aO (fun c2 => ?_) (fun c2 => ?_)
    ·wtm_at "wp"
     refine ⟨⟨rfl,k+1,by rw [show ((k+1:Nat):Int)=(k:Int)+1 by omega],rB (by omega) (fun i f hi hf => ?_)⟩,?_⟩
     ·rcases Nat.lt_or_ge i k with z | z
      ·exact mG (by omega) hf
      ·have:i=k:=by omega
       subst this
       rw [List.getElem?_eq_getElem hkl] at hf
       cases hf
       exact c2
     ·show d.qu.length - ((k:Int)+1).toNat < d.qu.length - (k:Int).toNat
      omega
    ·wtm_at "wp"
     have:Nd.spot name d.qu=k:=by
      rcases Nat.lt_or_ge k (Nd.spot name d.qu) with z | z
      ·exact absurd (mG z (List.getElem?_eq_getElem hkl)) c2
      ·omega
     rw [this]
     exact ⟨rfl,rfl⟩
   ·wtm_at "wp"
    have:Nd.spot name d.qu=k:=by omega
    rw [this]
    exact ⟨rfl,rfl⟩
  ·intro σ H2 R R' hRR h
   exact yc (qf (sZ yd kU (zX yg (vF (uc kU) yb)))) (qf (sZ yd (sZ yf (sZ ye (uc kU) kU) BG) kU)) σ H2 R R' hRR h
 ·rintro σ H2 ⟨rfl,rfl⟩
  wtm_at "wp"
  intro b hb
  refine jZ af (fun ob => ?_)
  wtm_at "wp"
  refine ⟨small (show 2≤1000 by decide),fun t ht => ?_⟩
  wtm_at "wp"
  have e1:At (upd (upd (upd H2 b (.lst (row.map V.int))) b (.frz ob (.lst (row.map V.int)))) t (.tup [.int name,.ref b])) A.q (.lst qs):=aC ht (aL (aA hb eq) (aC hb eq))
  refine qk e1 (by omega) (by omega) ?_
  have nd':=nd
  simp only [fpN,List.nodup_cons,List.mem_cons,List.not_mem_nil,or_false,not_or] at nd'
  obtain ⟨⟨n1,n2,n3,n4,n5⟩,⟨m1,m2,m3,m4⟩,⟨o1,o2,o3⟩,⟨p1,p2⟩,q1,_⟩:=nd'
  have k1:Kp (fpN n A) H2 (upd (upd (upd H2 b (.lst (row.map V.int))) b (.frz ob (.lst (row.map V.int)))) t (.tup [.int name,.ref b])):=by
   refine Kp.new ?_ ht
   exact ⟨fun x u hx h=>aL (aE h hb) (aC hb h),fun x u hx h=>aL (aE h hb) (aC hb h)⟩
  have k2:=k1.upd (o := .lst (qs.take (Nd.spot name d.qu) ++ .ref t :: qs.drop (Nd.spot name d.qu))) (p:=A.q) (by simp [fpN]) e1 (fun z=>z)
  have k3:Kp [A.q] H2 (upd (upd (upd (upd H2 b (.lst (row.map V.int))) b (.frz ob (.lst (row.map V.int)))) t (.tup [.int name,.ref b])) A.q (.lst (qs.take (Nd.spot name d.qu) ++ .ref t :: qs.drop (Nd.spot name d.qu)))):=by
   refine Kp.upd (Kp.new ?_ ht) (by simp) e1 (fun z=>z)
   exact ⟨fun x u hx h=>aL (aE h hb) (aC hb h),fun x u hx h=>aL (aE h hb) (aC hb h)⟩
  refine q _ A k2 ⟨⟨dx,sv,k3.get (aH n4) eo,es.kp k3⟩,ro.kp k3 (aH m3) (aH o2) (aH p1),⟨_,af,?_⟩,⟨ts,k3.get (aH (Ne.symm q1)) et,ft.kp k3⟩,nd⟩ (fun x hx => .inl hx)
  refine jI (rq _ (fq.kp k3)) (.cons ⟨t,b,ob,rfl,?_,?_⟩ (rs _ (fq.kp k3)))
  ·exact aL (Ne.symm (aA ht (aL (aA hb eq) (aC hb eq)))) af
  ·exact aL (Ne.symm (aA hb eq)) (aC ht af)
theorem tQ {α:Type} (x:α) (l:List α):atI (x :: l) 0=some x:=jM (j:=0) rfl
theorem rC {n:Addr} {A:NA} (h:(fpN n A).Nodup):(n≠A.r∧n≠A.w∧n≠A.p∧n≠A.q∧n≠A.t)∧(A.r≠A.w∧A.r≠A.p∧A.r≠A.q∧A.r≠A.t)∧(A.w≠A.p∧A.w≠A.q∧A.w≠A.t)∧(A.p≠A.q∧A.p≠A.t)∧A.q≠A.t:=by
 simp only [fpN,List.nodup_cons,List.mem_cons,List.not_mem_nil,or_false,not_or] at h
 obtain ⟨a,b,d,e,f,_⟩:=h
 exact ⟨a,b,d,e,f⟩
theorem NdAt.own {c:Cs} {H H':Hp} {n:Addr} {A:NA} {d d':Nd} {Q:VK} (h:NdAt c H n A d) (q:Post c H n A d' Q) (s:Chg [n] H H') {dx:Addr} {sv:V} (e:At H' n (.ins c.D dx (ndF (.str d'.st.str) (.int (d'.ps:Nat)) (.ref A.r) sv (.ref A.q) (.ref A.t) (.int (d'.fc:Nat)))))
  (es:SnAt H sv d'.sn) (e1:d'.ws=d.ws) (e2:d'.pl=d.pl) (e3:d'.qu=d.qu) (e4:d'.tk=d.tk):Q .non H':=by
 obtain ⟨⟨dx0,sv0,eo,_⟩,_⟩:=id h
 have kk:Kp (fpN n A) H H':=Chg.kp s (by simp [fpN]) eo (fun z=>z)
 exact q H' A kk (h.re s e (es.kp kk) e1 e2 e3 e4) (fun x hx => .inl hx)
abbrev gh:Stmt:=(ai (top 44) 14)
abbrev eY (K:PySem.W.Frag) (c:Cs):Sp:=sp2 fun u v H Q _=>∃ (n:Addr) (A:NA) (d:Nd) (sn:Option (List Int)),u = .ref n∧NdAt c H n A d∧SnAt H v sn∧Post c H n A (d.enter sn) Q
theorem eZ:FnScope ["self", "sending"] ["self", "sending"] (ag gh):=aU
theorem cm (T:Txt K mg c):fk P w K mg base CX0 7 c.D "enter_frame" ["self", "sending"] (eY K c):=by
 refine T.d_Node_enter_frame.ok eZ (fun _ _ _ _ _ _ us hl=>match us,hl with | [_,_],_=>rfl) gT (fun f cdv A outer s H vs Q E hr h => ?_)
 obtain ⟨v0,v1,rfl,h⟩:=h
 refine ⟨_,(ae (ay (eJ T.k_Node (bH T) hr az (pv 0) (aa (pgs T.c_FRAME) ac)))
   (ae (bd (K:=K) (pv 0) (pT (cj T) hr T.m_Reading az))
   (ad (bd (K:=K) (pv 0) (pv 1))))),?_⟩
 try dsimp only [bt,Cx.nox,Cx.wish]
 refine aj (s2:=[some v0,some v1]) rfl ?_
 obtain ⟨n,A,d,sn,rfl,h,hsn,q⟩:=h
 obtain ⟨⟨dx,sv,eo,es⟩,ro,⟨qs,eq,fq⟩,⟨ts,et,ft⟩,nd⟩:=id h
 obtain ⟨⟨n1,n2,n3,n4,n5⟩,_⟩:=rC nd
 wtm_at "wp"
 refine ⟨n,dx,_,_,_,_,_,_,_,_,rfl,rfl,eo,fun H1 k1 e1 => ?_⟩
 have kp1:Kp (fpN n A) H H1:=Chg.kp k1 (by simp [fpN]) eo (fun z=>z)
 have km1:Kp [n] H H1:=Chg.kp k1 (by simp) eo (fun z=>z)
 wtm_at "wp"
 intro x dx2 hx hdx ndx
 wtm_at "wp"
 refine ⟨x,dx2,rfl,af,fun H2 w p k2 fw fp ro2=>⟨rfl,?_⟩⟩
 have s2:Same H1 H2:=Chg.made hx hdx k2
 have e2:=s2.get e1
 have fw1:aK H1 w:=ub fw
 have fp1:aK H1 p:=ub fp
 have nxn:x≠n:=Ne.symm (aA hx e1)
 have nwn:w≠n:=Ne.symm (aA fw1 e1)
 have npn:p≠n:=Ne.symm (aA fp1 e1)
 wtm_at "wp"
 have e3:At (upd (upd H2 n (.ins c.D dx (ndF (.str Md.frame.str) (.int 0) (.ref x) sv (.ref A.q) (.ref A.t) (.int (d.fc:Nat))))) n (.ins c.D dx (ndF (.str Md.frame.str) (.int 0) (.ref x) v1 (.ref A.q) (.ref A.t) (.int (d.fc:Nat))))) n (.ins c.D dx (ndF (.str Md.frame.str) (.int 0) (.ref x) v1 (.ref A.q) (.ref A.t) (.int (d.fc:Nat)))):=af
 have c3:Chg [n] H2 (upd (upd H2 n (.ins c.D dx (ndF (.str Md.frame.str) (.int 0) (.ref x) sv (.ref A.q) (.ref A.t) (.int (d.fc:Nat))))) n (.ins c.D dx (ndF (.str Md.frame.str) (.int 0) (.ref x) v1 (.ref A.q) (.ref A.t) (.int (d.fc:Nat))))):=((Chg.refl [n] H2).upd (by simp)).upd (by simp)
 have k3:=Chg.kp (S:=fpN n A) c3 (by simp [fpN]) e2 (fun z=>z)
 have m3:=Chg.kp (S:=[n]) c3 (by simp) e2 (fun z=>z)
 have kk:Kp (fpN n A) H _:=(kp1.trans (Same.kp s2)).trans k3
 have mm:Kp [n] H _:=(km1.trans (Same.kp s2)).trans m3
 have eqH:At H1 A.q (.lst qs):=km1.get (aH (Ne.symm n4)) eq
 have etH:At H1 A.t (.lst ts):=km1.get (aH (Ne.symm n5)) et
 have fxH:aK H x:=km1.fr (aH nxn) hx
 have fwH:aK H w:=km1.fr (aH nwn) fw1
 have fpH:aK H p:=km1.fr (aH npn) fp1
 have nxw:x≠w:=by
  obtain ⟨⟨_,_,er,_⟩,ew,_,_⟩:=ro2
  exact er.ne ew (by intro z;cases z)
 have nxp:x≠p:=by
  obtain ⟨⟨_,_,er,_⟩,_,ep,_⟩:=ro2
  exact er.ne ep (by intro z;cases z)
 refine q _ ⟨x,w,p,A.q,A.t⟩ kk ⟨⟨dx,v1,e3,hsn.kp kk⟩,ro2.kp m3 (aH nxn) (aH nwn) (aH npn),⟨qs,mm.get (aH (Ne.symm n4)) eq,fq.kp kk⟩,⟨ts,mm.get (aH (Ne.symm n5)) et,ft.kp kk⟩,?_⟩ ?_
 ·have a1:x≠A.q:=Ne.symm (aA hx eqH)
  have a2:x≠A.t:=Ne.symm (aA hx etH)
  have a3:w≠A.q:=Ne.symm (aA fw1 eqH)
  have a4:w≠A.t:=Ne.symm (aA fw1 etH)
  have a5:p≠A.q:=Ne.symm (aA fp1 eqH)
  have a6:p≠A.t:=Ne.symm (aA fp1 etH)
  have a7:=(rC nd).2.2.2.2
  have a8:=ro2.ne
  simp only [fpN,List.nodup_cons,List.mem_cons,List.not_mem_nil,or_false,not_or,List.nodup_nil,not_false_eq_true,and_true]
  exact ⟨⟨Ne.symm nxn,Ne.symm nwn,Ne.symm npn,n4,n5⟩,⟨nxw,nxp,a1,a2⟩,⟨a8,a3,a4⟩,⟨a5,a6⟩,a7⟩
 ·intro y hy
  simp only [fpN,List.mem_cons,List.not_mem_nil,or_false] at hy
  rcases hy with rfl | rfl | rfl | rfl | rfl | rfl
  ·exact .inl (by simp [fpN])
  ·exact .inr fxH
  ·exact .inr fwH
  ·exact .inr fpH
  ·exact .inl (by simp [fpN])
  ·exact .inl (by simp [fpN])
abbrev dU:Stmt:=(ai (top 44) 3)
abbrev dB (K:PySem.W.Frag) (c:Cs):Sp:=sp1 fun u H Q _=>∃ (n:Addr) (A:NA) (d:Nd),u = .ref n∧NdAt c H n A d∧NdOk d∧Post c H n A d.begin Q
theorem sc_Node_begin_if_free:FnScope ["self", "first"] ["self"] (ag dU):=aU
theorem dC (T:Txt K mg c):fk P w K mg base CX0 8 c.D "begin_if_free" ["self"] (dB K c):=by
 refine T.d_Node_begin_if_free.ok sc_Node_begin_if_free (fun _ _ _ _ _ _ us hl=>match us,hl with | [_],_=>rfl) jU (fun f cdv A outer s H vs Q E hr h => ?_)
 obtain ⟨v0,rfl,h⟩:=h
 refine ⟨_,(ad (aZ (PW.pt (jp (au cG (am (K:=K) (pv 0)) (pgs T.c_FREE) (ax _)) (io (au nW (aI (aJ (K:=K)) rfl T.len PySem.boot_len (aa (am (K:=K) (pv 0)) ac)) ah (ax _)))))
    (ae (aN (i:=1) sc_Node_begin_if_free.nd rfl (.inl rfl) (bR (br (K:=K)) (am (K:=K) (pv 0)) ah (fun _ _=>rfl)))
    (ad (ay (eJ T.k_Node (cm T) hr az (pv 0) (aa (nw (cv (oM T) hr az (aa (cv (oJ T) hr nq (aa (bR (bK (K:=K)) (pv 1) ah (fun _ _=>rfl)) (aa (bR (bK (K:=K)) (pv 1) ah (fun _ _=>rfl)) ac))) ac))) ac)))))
    aD)),?_⟩
 try dsimp only [bt,Cx.nox,Cx.wish]
 refine aj (s2:=[some v0,none]) rfl ?_
 obtain ⟨n,A,d,rfl,h,ok,q⟩:=h
 obtain ⟨⟨dx,sv,eo,es⟩,ro,⟨qs,eq,fq⟩,⟨ts,et,ft⟩,nd⟩:=id h
 have ql:=fq.len
 have same:d.begin=d→Q .non H:=fun e=>by
  rw [e] at q
  exact q H A (Kp.refl _ _) h (fun x hx => .inl hx)
 wtm_at "wp"
 refine aO (fun c1 => ?_) (fun c1 => ?_)
 ·have st:d.st = .free:=md_inj.mp c1
  wtm_at "wp"
  rw [ql]
  refine aO (fun c2 => ?_) (fun c2 => ?_)
  ·cases hqu:d.qu with
   | nil=>rw [hqu] at c2;simp at c2
   | cons f fs=>
    rw [hqu] at fq
    cases fq with
    | cons r1 rest=>
     obtain ⟨t,r,o,rfl,et1,er1⟩:=r1
     have g:=ok.qu f (by rw [hqu];exact List.mem_cons_self)
     have gl:=b8 f.1 f.2
     wtm_at "wp"
     refine cr (At.sqL eq) (tQ _ _) ?_
     wtm_at "wp"
     refine ⟨r,f.1,f.2,rfl,rfl,At.sqF er1,bT (by have:=g.1;omega) (by have:=g.1;omega),fun b hb=>bT (by have:=g.2.2 b hb;omega) (by have:=g.2.2 b hb;omega),fun _ => ?_,fun z=>absurd g z⟩
     intro b1 H1 s1 fb1 eb1
     wtm_at "wp"
     refine ⟨b1,aG f.1 f.2,rfl,At.sqL eb1,eN _ _,by have:=g.2.1;omega,fun b2 H2 s2 fb2 eb2 => ?_⟩
     have s12:=s1.trans s2
     refine jZ eb2 (fun ob => ?_)
     have fb2H:aK H b2:=s1.fr fb2
     have s3:Same H (upd H2 b2 (.frz ob (.lst ((bi (aG f.1 f.2)).map V.int)))):=s12.upF fb2H
     wtm_at "wp"
     refine ⟨n,A,d,some (av f),rfl,h.same s3,⟨b2,ob,rfl,af⟩,fun H4 A' k4 h4 f4 => ?_⟩
     have eb:d.begin=d.enter (some (av f)):=by unfold Nd.begin;rw [if_pos st,hqu]
     rw [eb] at q
     refine q H4 A' ((Same.kp s3).trans k4) h4 (fun x hx => ?_)
     rcases f4 x hx with z | z
     ·exact .inl z
     ·exact .inr (s3.fr z)
  ·have hqu:d.qu=[]:=List.length_eq_zero_iff.mp (by omega)
   wtm_at "wp"
   exact same (by unfold Nd.begin;rw [if_pos st,hqu])
 ·wtm_at "wp"
  exact same (by unfold Nd.begin;rw [if_neg (fun z=>c1 (md_inj.mpr z))])
abbrev fb:Stmt:=(ai (top 44) 5)
abbrev dW (K:PySem.W.Frag) (c:Cs):Sp:=sp1 fun u H Q _=>∃ (n:Addr) (A:NA) (d:Nd),u = .ref n∧NdAt c H n A d∧NdOk d∧d.st = .frame∧(∀ H',Same H H'→Q (.int d.putFrame) H')
theorem dX:FnScope ["self"] ["self"] (ag fb):=aU
theorem dY (T:Txt K mg c):fk P w K mg base CX0 2 c.D "put_in_frame" ["self"] (dW K c):=by
 refine T.d_Node_put_in_frame.ok dX (fun _ _ _ _ _ _ us hl=>match us,hl with | [_],_=>rfl) jU (fun f cdv A outer s H vs Q E hr h => ?_)
 obtain ⟨v0,rfl,h⟩:=h
 refine ⟨_,(ae (aZ (cC (jV T.k_Reading (cx T) hr az (am (K:=K) (pv 0))))
    (ad (aF (mX (PW.pt (jp (au cG (am (K:=K) (pv 0)) (pgi T.c_ANSWER_AT) (ax _)) (io (au jS (am (K:=K) (pv 0)) el (ax _))))) ah ah)))
    aD)
   (ad (aF (mX (au jS (am (K:=K) (pv 0)) el (ax _)) ah (bR (br (K:=K)) (am (K:=K) (pv 0)) (aI (aJ (K:=K)) rfl T.len PySem.boot_len (aa (am (K:=K) (am (K:=K) (pv 0))) ac)) (fun _ _=>rfl)))))),?_⟩
 try dsimp only [bt,Cx.nox,Cx.wish]
 refine aj (s2:=[some v0]) rfl ?_
 obtain ⟨n,A,d,rfl,h,ok,st,q⟩:=h
 obtain ⟨⟨dx,sv,eo,es⟩,⟨⟨rx,ch,er,ec⟩,ew,ep,nwp⟩,⟨qs,eq,fq⟩,⟨ts,et,ft⟩,nd⟩:=id h
 wtm_at "wp"
 refine ⟨A.r,A.w,A.p,d.ws,d.pl,rfl,⟨⟨rx,ch,er,ec⟩,ew,ep,nwp⟩,fun H1 s1 => ?_⟩
 wtm_at "wp"
 cases hov:d.over with
 | true=>
  rw [show decide (ak d.ws d.pl=[])=true from hov]
  have ep1:∀ P:Prop,d.putFrame=(if d.ps=1∧d.sn=none then 0 else 1):=fun _=>by unfold Nd.putFrame;rw [hov,if_pos rfl]
  have ep1:=ep1 True
  wtm_at "wp"
  refine aO (fun c1 => ?_) (fun c1 => ?_)
  ·wtm_at "wp"
   cases hsn:d.sn with
   | none=>
    rw [hsn] at es
    cases es
    wtm_at "wp"
    have:=q _ s1
    rw [ep1,if_pos ⟨by omega,hsn⟩] at this
    exact this
   | some l=>
    rw [hsn] at es
    obtain ⟨a,o,rfl,ea⟩:=es
    wtm_at "wp"
    have:=q _ s1
    rw [ep1,if_neg (fun z=>by rw [hsn] at z;cases z.2)] at this
    exact this
  ·wtm_at "wp"
   have:=q _ s1
   rw [ep1,if_neg (fun z=>c1 (by omega))] at this
   exact this
 | false=>
  rw [show decide (ak d.ws d.pl=[])=false from hov]
  wtm_at "wp"
  cases hsn:d.sn with
  | none=>
   rw [hsn] at es
   cases es
   wtm_at "wp"
   have:=q _ s1
   unfold Nd.putFrame at this
   rw [hov,if_neg (by decide),hsn] at this
   exact this
  | some l=>
   have more:=ok.more st hsn hov
   rw [hsn] at es
   obtain ⟨a,o,rfl,ea⟩:=es
   wtm_at "wp"
   rw [List.length_map]
   refine cr (by wtm_at "hg") (iG more) ?_
   wtm_at "wp"
   have:=q _ s1
   unfold Nd.putFrame at this
   rw [hov,if_neg (by decide),hsn] at this
   exact this
abbrev oP:Stmt:=(ai (top 44) 4)
abbrev mH (K:PySem.W.Frag) (c:Cs):Sp:=sp1 fun u H Q _=>∃ (n:Addr) (A:NA) (d:Nd),u = .ref n∧NdAt c H n A d∧NdOk d∧(∀ H',Same H H'→Q (.int d.put) H')
theorem mI:FnScope ["self"] ["self"] (ag oP):=aU
theorem mJ (T:Txt K mg c):fk P w K mg base CX0 3 c.D "put" ["self"] (mH K c):=by
 refine T.d_Node_put.ok mI (fun _ _ _ _ _ _ us hl=>match us,hl with | [_],_=>rfl) jU (fun f cdv A outer s H vs Q E hr h => ?_)
 obtain ⟨v0,rfl,h⟩:=h
 refine ⟨_,(ae (aZ (au cG (am (K:=K) (pv 0)) (pgs T.c_CRY) (ax _))
    (ad (aF ah))
    aD)
   (ae (aZ (au cG (am (K:=K) (pv 0)) (pgs T.c_FRAME) (ax _))
    (ad (aF (jV T.k_Node (dY T) hr az (pv 0))))
    aD)
   (ad (aF ah)))),?_⟩
 try dsimp only [bt,Cx.nox,Cx.wish]
 refine aj (s2:=[some v0]) rfl ?_
 obtain ⟨n,A,d,rfl,h,ok,q⟩:=h
 obtain ⟨⟨dx,sv,eo,es⟩,ro,⟨qs,eq,fq⟩,⟨ts,et,ft⟩,nd⟩:=id h
 wtm_at "wp"
 refine aO (fun c1 => ?_) (fun c1 => ?_)
 ·have st:d.st = .cry:=md_inj.mp c1
  wtm_at "wp"
  have:=q H (Same.refl _)
  unfold Nd.put at this
  rw [st] at this
  exact this
 wtm_at "wp"
 refine aO (fun c2 => ?_) (fun c2 => ?_)
 ·have st:d.st = .frame:=md_inj.mp c2
  wtm_at "wp"
  refine ⟨n,A,d,rfl,h,ok,st,fun H1 s1 => ?_⟩
  have:=q H1 s1
  unfold Nd.put at this
  rw [st] at this
  exact this
 ·wtm_at "wp"
  have:=q H (Same.refl _)
  have e:d.put=1:=by
   unfold Nd.put
   cases hst:d.st with
   | cry=>exact absurd (md_inj.mpr hst) c1
   | frame=>exact absurd (md_inj.mpr hst) c2
   | _=>rfl
  rw [e] at this
  exact this
theorem Post.kp {c:Cs} {H H1:Hp} {n:Addr} {A:NA} {d:Nd} {Q:VK} (q:Post c H n A d Q) (k:Kp (fpN n A) H H1):Post c H1 n A d Q:=fun H' A' k' h' f'=>by
 refine q H' A' (k.trans k') h' (fun x hx => ?_)
 by_cases z:x∈fpN n A
 ·exact .inl z
 ·rcases f' x hx with y | y
  ·exact .inl y
  ·exact .inr (k.fr z y)
theorem NdAt.took {c:Cs} {H H':Hp} {n:Addr} {A:NA} {d:Nd} (h:NdAt c H n A d) (s:Chg [A.r,A.w,A.p] H H') {ws pl:List Int} (r':RdAt c H' A.r A.w A.p ws pl):NdAt c H' n A {d with ws:=ws,pl:=pl}∧Kp (fpN n A) H H':=by
 obtain ⟨⟨dx,sv,eo,es⟩,⟨⟨rx,ch,er,ec⟩,ew,ep,nwp⟩,⟨qs,eq,fq⟩,⟨ts,et,ft⟩,nd⟩:=h
 obtain ⟨⟨n1,n2,n3,n4,n5⟩,⟨m1,m2,m3,m4⟩,⟨o1,o2,o3⟩,⟨p1,p2⟩,q1⟩:=rC nd
 have im:∀ b o,Im o→H b=some o→b∉[A.r,A.w,A.p]:=fun b o i e=>by
  refine kR (fun z => ?_) (fun z => ?_) (fun z => ?_) <;> subst z
  ·rw [er] at e;cases e;exact i
  ·rw [ew] at e;cases e;exact i
  ·rw [ep] at e;cases e;exact i
 have kk:Kp (fpN n A) H H':=⟨fun b o hb e=>s b o (fun z=>hb (by simp [fpN] at z ⊢;rcases z with z | z | z <;> simp [z])) e,fun b o i e=>s b o (im b o i e) e⟩
 have ks:Kp [A.r,A.w,A.p] H H':=⟨fun b o hb e=>s b o hb e,fun b o i e=>s b o (im b o i e) e⟩
 exact ⟨⟨⟨dx,sv,ks.get (kR n1 n2 n3) eo,es.kp ks⟩,r',⟨qs,ks.get (kR (Ne.symm m3) (Ne.symm o2) (Ne.symm p1)) eq,fq.kp ks⟩,⟨ts,ks.get (kR (Ne.symm m4) (Ne.symm o3) (Ne.symm p2)) et,ft.kp ks⟩,nd⟩,kk⟩
abbrev dZ:Stmt:=(ai (top 44) 9)
abbrev dD (K:PySem.W.Frag) (c:Cs):Sp:=sp2 fun u v H Q _=>∃ (n:Addr) (A:NA) (d:Nd) (b:Int),u = .ref n∧v = .int b∧NdAt c H n A d∧(∀ s,d.sn=some s→d.ws.length < s.length)∧Q (.bl (d.hears b)) H
theorem dE:FnScope ["self", "bit"] ["self", "bit"] (ag dZ):=aU
theorem bU (T:Txt K mg c):fk P w K mg base CX0 1 c.D "hears_another" ["self", "bit"] (dD K c):=by
 refine T.d_Node_hears_another.ok dE (fun _ _ _ _ _ _ us hl=>match us,hl with | [_,_],_=>rfl) gT (fun f cdv A outer s H vs Q E hr h => ?_)
 obtain ⟨v0,v1,rfl,h⟩:=h
 refine ⟨_,(ad (aF (oX (cc nl (am (K:=K) (pv 0)) el (ax _)) (oW (cc nV (pv 1) (bR (br (K:=K)) (am (K:=K) (pv 0)) (aI (aJ (K:=K)) rfl T.len PySem.boot_len (aa (am (K:=K) (am (K:=K) (pv 0))) ac)) (fun _ _=>rfl)) (ax _)))))),?_⟩
 try dsimp only [bt,Cx.nox,Cx.wish]
 refine aj (s2:=[some v0,some v1]) rfl ?_
 obtain ⟨n,A,d,b,rfl,rfl,h,hm,q⟩:=h
 obtain ⟨⟨dx,sv,eo,es⟩,⟨⟨rx,ch,er,ec⟩,ew,ep,nwp⟩,⟨qs,eq,fq⟩,⟨ts,et,ft⟩,nd⟩:=id h
 wtm_at "wp"
 unfold Nd.hears at q
 cases hsn:d.sn with
 | none=>
  rw [hsn] at es q
  cases es
  wtm_at "wp"
  exact q
 | some l=>
  have more:=hm l hsn
  rw [hsn] at es q
  obtain ⟨a,o,rfl,ea⟩:=es
  wtm_at "wp"
  rw [List.length_map]
  refine cr (by wtm_at "hg") (iG more) ?_
  wtm_at "wp"
  exact q
abbrev fe:Stmt:=(ai (top 44) 8)
abbrev d3 (K:PySem.W.Frag) (c:Cs):Sp:=sp2 fun u v H Q _=>∃ (n:Addr) (A:NA) (d:Nd) (b:Int),u = .ref n∧v = .int b∧NdAt c H n A d∧NdOk d∧d.st = .frame∧d.over=false∧Bit b∧Post c H n A (d.hearStuffed b) Q
theorem d4:FnScope ["self", "bit"] ["self", "bit"] (ag fe):=aU
theorem d6 (T:Txt K mg c):fk P w K mg base CX0 6 c.D "hear_stuffed" ["self", "bit"] (d3 K c):=by
 refine T.d_Node_hear_stuffed.ok d4 (fun _ _ _ _ _ _ us hl=>match us,hl with | [_,_],_=>rfl) gT (fun f cdv A outer s H vs Q E hr h => ?_)
 obtain ⟨v0,v1,rfl,h⟩:=h
 refine ⟨_,(di (aZ (PW.pt (jp (cC (eJ T.k_Node (bU T) hr az (pv 0) (aa (pv 1) ac))) (jp (au cG (pv 1) ah (ax _)) (io (cC (jV T.k_Reading (dy T) hr az (am (K:=K) (pv 0))))))))
    (ad (bd (K:=K) (pv 0) el))
    aD)
   (ad (aZ (PW.pt (km (cC (eJ T.k_Node (bU T) hr az (pv 0) (aa (pv 1) ac))) (ip (au (fN (K:=K)) (pv 1) (am (K:=K) (am (K:=K) (pv 0))) (by with_unfolding_all rfl)))))
    (ad (ay (jV T.k_Node (dA T) hr az (pv 0))))
    (ad (ay (eJ T.k_Reading (iZ T) hr az (am (K:=K) (pv 0)) (aa (pv 1) ac))))))),?_⟩
 try dsimp only [bt,Cx.nox,Cx.wish]
 refine aj (s2:=[some v0,some v1]) rfl ?_
 obtain ⟨n,A,d,b,rfl,rfl,h,ok,st,ov,hb,q⟩:=h
 refine gU (fun σ H1=>σ=[some (.ref n),some (.int b)]∧Kp (fpN n A) H H1∧NdAt c H1 n A (d.giveWay b)) ?_ ?_
 ·obtain ⟨⟨dx,sv,eo,es⟩,⟨⟨rx,ch,er,ec⟩,ew,ep,nwp⟩,⟨qs,eq,fq⟩,⟨ts,et,ft⟩,nd⟩:=id h
  have no:∀ H1,Same H H1→d.giveWay b=d→[some (V.ref n),some (.int b)]=[some (V.ref n),some (.int b)]∧Kp (fpN n A) H H1∧NdAt c H1 n A (d.giveWay b):=fun H1 s1 e=>⟨rfl,Same.kp s1,by rw [e];exact h.same s1⟩
  wtm_at "wp"
  refine ⟨n,A,d,b,rfl,rfl,h,fun s hs=>ok.more st hs ov,?_⟩
  wtm_at "wp"
  cases hh:d.hears b with
  | false=>
   wtm_at "wp"
   exact no H (Same.refl _) (by unfold Nd.giveWay;rw [hh];rfl)
  | true=>
   wtm_at "wp"
   refine aO (fun c1 => ?_) (fun c1 => ?_)
   ·wtm_at "wp"
    refine ⟨A.r,A.w,A.p,d.ws,d.pl,rfl,⟨⟨rx,ch,er,ec⟩,ew,ep,nwp⟩,ok.rd,fun H1 s1 => ?_⟩
    wtm_at "wp"
    cases ha:d.atName with
    | true=>
     rw [show (!BB.due d.ws && decide (1≤d.pl.length) && decide (d.pl.length < 12))=true from ha]
     have eg:d.giveWay b={d with sn:=none}:=by unfold Nd.giveWay;rw [hh,ha,decide_eq_true c1];rfl
     wtm_at "wp"
     refine ⟨rfl,?_,?_⟩
     ·exact (Same.kp s1).upd (by simp [fpN]) (s1.get eo) (fun z=>z)
     ·rw [eg]
      exact (h.same s1).re ((Chg.refl [n] H1).upd (by simp)) af rfl rfl rfl rfl rfl
    | false=>
     rw [show (!BB.due d.ws && decide (1≤d.pl.length) && decide (d.pl.length < 12))=false from ha]
     wtm_at "wp"
     exact no H1 s1 (by unfold Nd.giveWay;rw [ha,Bool.and_false];rfl)
   ·wtm_at "wp"
    exact no H (Same.refl _) (by unfold Nd.giveWay;rw [decide_eq_false c1,Bool.and_false,Bool.false_and];rfl)
 rintro σ H1 ⟨rfl,k1,h1⟩
 obtain ⟨e1,e2,e3,e4,e5,e6,e7⟩:=cJ d b
 have ok1:=ok.giveWay b
 have ov1:(d.giveWay b).over=false:=by unfold Nd.over;rw [e1,e2];exact ov
 have st1:(d.giveWay b).st = .frame:=by rw [e4];exact st
 have q1:=q.kp k1
 unfold Nd.hearStuffed at q1
 rw [← e1,← e2] at q1
 have hch:(d.giveWay b).ws=d.ws:=e1
 generalize d.giveWay b=d1 at *
 obtain ⟨⟨dx,sv,eo,es⟩,⟨⟨rx,ch,er,ec⟩,ew,ep,nwp⟩,⟨qs,eq,fq⟩,⟨ts,et,ft⟩,nd⟩:=id h1
 have cry:Post c H1 n A d1.cryOut Q→∀ N:St→Hp→Prop,(∀ H',Q .non H'→N [some (.ref n),some (.int b)] H')→uy (kq c.D "cry_out" (dz K c) [] E0 (jb 0) tY) {nx:=N,rt:=Q} [some (.ref n),some (.int b)] H1:=fun qc N hN=>by
  wtm_at "wp"
  refine ⟨n,dx,_,_,_,_,_,_,_,rfl,eo,fun H2 k2 e2 => ?_⟩
  wtm_at "wp"
  exact hN _ (h1.own qc k2 e2 es rfl rfl rfl rfl)
 wtm_at "wp"
 refine ⟨n,A,d1,b,rfl,rfl,h1,fun s hs=>ok1.more st1 hs ov1,?_⟩
 wtm_at "wp"
 cases hh:d1.hears b with
 | true=>
  rw [hh] at q1
  refine sh (sh ?_)
  exact cry q1 _ (fun H' z=>z)
 | false=>
  rw [hh] at q1
  refine wv ?_
  wtm_at "wp"
  refine qe (l:=ak d1.ws d1.pl) (.inr (by wtm_at "hg")) ?_
  wtm_at "wp"
  refine dg (fun c1 => ?_) (fun c1 => ?_)
  ·rw [decide_eq_false c1] at q1
   exact cry q1 _ (fun H' z=>z)
  ·rw [decide_eq_true c1] at q1
   wtm_at "wp"
   refine ⟨A.r,A.w,A.p,d1.ws,d1.pl,b,rfl,rfl,⟨⟨rx,ch,er,ec⟩,ew,ep,nwp⟩,ok1.rd,hb,c1,fun H2 k2 r2 => ?_⟩
   obtain ⟨a1,a2⟩:=h1.took k2 r2
   exact q1 H2 A a2 a1 (fun x hx => .inl hx)
abbrev c8:Stmt:=(ai (top 44) 11)
abbrev cW (K:PySem.W.Frag) (c:Cs):Sp:=sp2 fun u v H Q _=>∃ (n:Addr) (A:NA) (d:Nd) (b:Int),u = .ref n∧v = .int b∧NdAt c H n A d∧Q (.bl (d.wrong b)) H
theorem cX:FnScope ["self", "bit"] ["self", "bit"] (ag c8):=aU
theorem cY (T:Txt K mg c):fk P w K mg base CX0 1 c.D "is_wrong_behind" ["self", "bit"] (cW K c):=by
 refine T.d_Node_is_wrong_behind.ok cX (fun _ _ _ _ _ _ us hl=>match us,hl with | [_,_],_=>rfl) gT (fun f cdv A outer s H vs Q E hr h => ?_)
 obtain ⟨v0,v1,rfl,h⟩:=h
 refine ⟨_,(ae (aZ (au cG (am (K:=K) (pv 0)) (pgi T.c_ANSWER_AT) (ax _))
    (ad (aF (oX (cc cG (pv 1) ah (ax _)) (oW (cc nl (am (K:=K) (pv 0)) el (ax _))))))
    aD)
   (ad (aF (cc cG (pv 1) ah (ax _))))),?_⟩
 try dsimp only [bt,Cx.nox,Cx.wish]
 refine aj (s2:=[some v0,some v1]) rfl ?_
 obtain ⟨n,A,d,b,rfl,rfl,h,q⟩:=h
 obtain ⟨⟨dx,sv,eo,es⟩,ro,⟨qs,eq,fq⟩,⟨ts,et,ft⟩,nd⟩:=id h
 wtm_at "wp"
 unfold Nd.wrong at q
 refine aO (fun c1 => ?_) (fun c1 => ?_)
 ·rw [if_pos (by omega)] at q
  wtm_at "wp"
  refine aO (fun c2 => ?_) (fun c2 => ?_)
  ·rw [decide_eq_true c2,Bool.true_and] at q
   wtm_at "wp"
   cases hsn:d.sn with
   | none=>
    rw [hsn] at es q
    cases es
    wtm_at "wp"
    exact q
   | some l=>
    rw [hsn] at es q
    obtain ⟨a,o,rfl,ea⟩:=es
    wtm_at "wp"
    exact q
  ·rw [decide_eq_false c2,Bool.false_and] at q
   exact q
 ·rw [if_neg (by omega)] at q
  wtm_at "wp"
  exact q
abbrev gL:Stmt:=(ai (top 44) 16)
abbrev gi (K:PySem.W.Frag) (c:Cs):Sp:=sp2 fun u v H Q _=>∃ (n:Addr) (A:NA) (d:Nd) (name:Int),u = .ref n∧v = .int name∧NdAt c H n A d∧name∈d.qu.map (·.1)∧d.qu.length≤900∧Post c H n A {d with qu:=Nd.dropName name d.qu} Q
theorem sc_Node_drop_first:FnScope ["self", "name", "names"] ["self", "name"] (ag gL):=aU
theorem gj (T:Txt K mg c):fk P w K mg base CX0 1 c.D "drop_first" ["self", "name"] (gi K c):=by
 refine T.d_Node_drop_first.ok sc_Node_drop_first (fun _ _ _ _ _ _ us hl=>match us,hl with | [_,_],_=>rfl) gT (fun f cdv A outer s H vs Q E hr h => ?_)
 obtain ⟨v0,v1,rfl,h⟩:=h
 refine ⟨_,(ae (qd (i:=2) (fv:=[]) (js:=[]) sc_Node_drop_first.nd rfl (.inl rfl) (aR (K:=K) (am (K:=K) (pv 0)))  (fun fp s H=>(bR (bK (K:=K)) (pv 0) ah (fun _ _=>rfl))))
   (ad (ay (cw (K:=K) PySem.F.plainAttrs_list PySem.F.slot_list_pop PySem.F.type_list_pop sf (am (K:=K) (pv 0)) (aa (cw (K:=K) PySem.F.plainAttrs_list PySem.F.slot_list_index PySem.F.type_list_index (qo (K:=K)) (pv 2) (aa (pv 1) ac)) ac))))),?_⟩
 try dsimp only [bt,Cx.nox,Cx.wish]
 refine aj (s2:=[some v0,some v1,none]) rfl ?_
 obtain ⟨n,A,d,name,rfl,rfl,h,hn,hl,q⟩:=h
 obtain ⟨⟨dx,sv,eo,es⟩,ro,⟨qs,eq,fq⟩,⟨ts,et,ft⟩,nd⟩:=id h
 obtain ⟨⟨n1,n2,n3,n4,n5⟩,⟨m1,m2,m3,m4⟩,⟨o1,o2,o3⟩,⟨p1,p2⟩,q1⟩:=rC nd
 have ql:=fq.len
 wtm_at "wp"
 refine bF ?_
 wtm_at "wp"
 refine fM (yu H) (At.sqL eq) (small (by omega)) (fun i x H' R hx s1 hR => ?_) (fun D Hf s1 fD eD => ?_)
 ·obtain ⟨f,hf,t,r,o,rfl,a,b⟩:=ge fq hx
  show tOp _ _ _ [some (.ref t)] _ _
  wtm_at "wp"
  have:=hR H' (Same.refl _)
  rw [mE ⟨t,r,o,rfl,a,b⟩] at this
  exact this
 rw [mF fq] at eD
 have eD':At Hf D (.lst ((d.qu.map (·.1)).map V.int)):=eD
 wtm_at "wp"
 refine tm (ns:=d.qu.map (·.1)) (At.sqL eD') hn ?_
 have hj:(d.qu.map (·.1)).idxOf name < qs.length:=by
  have:=List.idxOf_lt_length_iff.mpr hn
  rw [List.length_map] at this
  omega
 have eq1:=s1.get eq
 refine ⟨A.q,qs,_,(d.qu.map (·.1)).idxOf name,qs[(d.qu.map (·.1)).idxOf name],rfl,rfl,eq1,by omega,by omega,?_,List.getElem?_eq_getElem hj,?_⟩
 ·unfold seqIndex?
  simp
  omega
 wtm_at "wp"
 have k2:Kp (fpN n A) H (upd Hf A.q (.lst (qs.eraseIdx ((d.qu.map (·.1)).idxOf name)))):=(Same.kp s1).upd (by simp [fpN]) eq1 (fun z=>z)
 have k3:Kp [A.q] H (upd Hf A.q (.lst (qs.eraseIdx ((d.qu.map (·.1)).idxOf name)))):=(Same.kp s1).upd (by simp) eq1 (fun z=>z)
 exact q _ A k2 ⟨⟨dx,sv,k3.get (aH n4) eo,es.kp k3⟩,ro.kp k3 (aH m3) (aH o2) (aH p1),⟨_,af,nM _ (fq.kp k3)⟩,⟨ts,k3.get (aH (Ne.symm q1)) et,ft.kp k3⟩,nd⟩ (fun x hx => .inl hx)
abbrev ic:Stmt:=(ai (top 44) 15)
abbrev gM (K:PySem.W.Frag) (c:Cs):Sp:=sp1 fun u H Q _=>∃ (n:Addr) (A:NA) (d:Nd),u = .ref n∧NdAt c H n A d∧Rd d.ws d.pl∧ak d.ws d.pl=[]∧d.tk.length≤5000∧d.qu.length≤900∧(d.sn.isSome=true→dk d.pl∈d.qu.map (·.1))∧Post c H n A d.endFrame Q
theorem sc_Node_end_frame:FnScope ["self", "frame"] ["self"] (ag ic):=aU
theorem gN (T:Txt K mg c):fk P w K mg base CX0 4 c.D "end_frame" ["self"] (gM K c):=by
 refine T.d_Node_end_frame.ok sc_Node_end_frame (fun _ _ _ _ _ _ us hl=>match us,hl with | [_],_=>rfl) jU (fun f cdv A outer s H vs Q E hr h => ?_)
 obtain ⟨v0,rfl,h⟩:=h
 refine ⟨_,(ae (aN (i:=1) sc_Node_end_frame.nd rfl (.inl rfl) (cv (mD T) hr az (aa (am (K:=K) (am (K:=K) (pv 0))) ac)))
   (di (aZ (au jS (am (K:=K) (pv 0)) el (ax _))
    (ad (ay (cw (K:=K) PySem.F.plainAttrs_list PySem.F.slot_list_append PySem.F.type_list_append bD (am (K:=K) (pv 0)) (aa (pv 1) ac))))
    (ad (ay (eJ T.k_Node (gj T) hr az (pv 0) (aa (bR (bK (K:=K)) (pv 1) ah (fun _ _=>rfl)) ac)))))
   (ad (ay (eJ T.k_Node (bH T) hr az (pv 0) (aa (pgs T.c_REST) ac)))))),?_⟩
 try dsimp only [bt,Cx.nox,Cx.wish]
 refine aj (s2:=[some v0,none]) rfl ?_
 obtain ⟨n,A,d,rfl,h,rd,hov,hl,hql,hname,q⟩:=h
 obtain ⟨⟨dx,sv,eo,es⟩,⟨⟨rx,ch,er,ec⟩,ew,ep,nwp⟩,⟨qs,eq,fq⟩,⟨ts,et,ft⟩,nd⟩:=id h
 have tl:=ft.len
 wtm_at "wp"
 refine ⟨A.p,d.pl,rfl,At.sqL ep,(rd.fin.mp hov).2.1,rd.bp,fun t r o H1 s1 ftt ftr e1 e2 => ?_⟩
 have h1:=h.same s1
 have eo1:=s1.get eo
 have et1:=s1.get et
 wtm_at "wp"
 refine gU (fun σ H2=>σ=[some (.ref n),some (.ref t)]∧∃ d1 A2,Kp (fpN n A) H H2∧NdAt c H2 n A2 d1∧(∀ x∈fpN n A2,x∈fpN n A∨aK H x)∧{d1 with st := .rest,ps:=0}=d.endFrame) ?_ ?_
 ·wtm_at "wp"
  cases hsn:d.sn with
  | none=>
   rw [hsn] at es
   cases es
   wtm_at "wp"
   obtain ⟨⟨n1,n2,n3,n4,n5⟩,⟨m1,m2,m3,m4⟩,⟨o1,o2,o3⟩,⟨p1,p2⟩,q1⟩:=rC nd
   refine bE et1 (gK (by omega)) ?_
   have k2:Kp (fpN n A) H (upd H1 A.t (.lst (ts++[.ref t]))):=(Same.kp s1).upd (by simp [fpN]) et1 (fun z=>z)
   have k3:Kp [A.t] H (upd H1 A.t (.lst (ts++[.ref t]))):=(Same.kp s1).upd (by simp) et1 (fun z=>z)
   have e1':At (upd H1 A.t (.lst (ts++[.ref t]))) t (.tup [.int (dk d.pl),.ref r]):=aL (e1.ne et1 (by intro z;cases z)) e1
   have e2':At (upd H1 A.t (.lst (ts++[.ref t]))) r (.frz o (.lst ((je d.pl).map V.int))):=aL (e2.ne et1 (by intro z;cases z)) e2
   refine ⟨rfl,{d with tk:=d.tk++[(dk d.pl,je d.pl)]},A,k2,⟨⟨dx,_,k3.get (aH n5) eo,by rw [hsn];rfl⟩,RdAt.kp ⟨⟨rx,ch,er,ec⟩,ew,ep,nwp⟩ k3 (aH m4) (aH o3) (aH p2),⟨qs,k3.get (aH q1) eq,fq.kp k3⟩,⟨_,af,jI (ft.kp k3) (.cons ⟨t,r,o,rfl,e1',e2'⟩ .nil)⟩,nd⟩,fun x hx => .inl hx,?_⟩
   unfold Nd.endFrame
   rw [hsn]
  | some l=>
   rw [hsn] at es
   obtain ⟨a,ob,rfl,ea⟩:=es
   wtm_at "wp"
   refine ⟨n,A,d,dk d.pl,rfl,rfl,h1,hname (by rw [hsn];rfl),hql,fun H2 A2 k2 h2 f2 => ?_⟩
   refine ⟨rfl,_,A2,(Same.kp s1).trans k2,h2,fun x hx => ?_,?_⟩
   ·rcases f2 x hx with z | z
    ·exact .inl z
    ·exact .inr (s1.fr z)
   ·unfold Nd.endFrame
    rw [hsn]
 rintro σ H2 ⟨rfl,d1,A2,k2,h2,f2,ed⟩
 obtain ⟨⟨dx2,sv2,eo2,es2⟩,_⟩:=id h2
 wtm_at "wp"
 refine ⟨n,dx2,_,_,_,_,_,_,_,_,rfl,rfl,eo2,fun H3 k3 e3 => ?_⟩
 have kk:Kp (fpN n A) H2 H3:=Chg.kp k3 (by simp [fpN]) eo2 (fun z=>z)
 have kn:Kp [n] H2 H3:=Chg.kp k3 (by simp) eo2 (fun z=>z)
 refine q H3 A2 (k2.trans kk) ?_ f2
 rw [← ed]
 exact h2.re (d':={d1 with st := .rest,ps:=0}) k3 e3 (es2.kp kn) rfl rfl rfl rfl
abbrev gk:Stmt:=(ai (top 44) 10)
abbrev fg (K:PySem.W.Frag) (c:Cs):Sp:=sp2 fun u v H Q _=>∃ (n:Addr) (A:NA) (d:Nd) (b:Int),u = .ref n∧v = .int b∧NdAt c H n A d∧NdOk d∧d.st = .frame∧d.over=true∧d.tk.length≤5000∧d.qu.length≤900∧Post c H n A (d.hearBehind b) Q
theorem fh:FnScope ["self", "bit"] ["self", "bit"] (ag gk):=aU
theorem fi (T:Txt K mg c):fk P w K mg base CX0 5 c.D "hear_behind" ["self", "bit"] (fg K c):=by
 refine T.d_Node_hear_behind.ok fh (fun _ _ _ _ _ _ us hl=>match us,hl with | [_,_],_=>rfl) gT (fun f cdv A outer s H vs Q E hr h => ?_)
 obtain ⟨v0,v1,rfl,h⟩:=h
 refine ⟨_,(ae (aZ (cC (eJ T.k_Node (cY T) hr az (pv 0) (aa (pv 1) ac)))
    (ae (ay (jV T.k_Node (dA T) hr az (pv 0)))
    (ad uz))
    aD)
   (ae (dJ (K:=K) (pv 0) ah mZ)
   (ad (aZ (au cG (am (K:=K) (pv 0)) (pgi T.c_BITS_BEHIND) (ax _))
    (ad (ay (jV T.k_Node (gN T) hr az (pv 0))))
    aD)))),?_⟩
 try dsimp only [bt,Cx.nox,Cx.wish]
 refine aj (s2:=[some v0,some v1]) rfl ?_
 obtain ⟨n,A,d,b,rfl,rfl,h,ok,st,ov,hl,hql,q⟩:=h
 obtain ⟨⟨dx,sv,eo,es⟩,ro,⟨qs,eq,fq⟩,⟨ts,et,ft⟩,nd⟩:=id h
 wtm_at "wp"
 refine ⟨n,A,d,b,rfl,rfl,h,?_⟩
 unfold Nd.hearBehind at q
 wtm_at "wp"
 cases hw:d.wrong b with
 | true=>
  rw [hw] at q
  wtm_at "wp"
  refine ⟨n,dx,_,_,_,_,_,_,_,rfl,eo,fun H2 k2 e2 => ?_⟩
  wtm_at "wp"
  exact h.own (d':=d.cryOut) q k2 e2 es rfl rfl rfl rfl
 | false=>
  rw [hw] at q
  wtm_at "wp"
  have h1:NdAt c (upd H n (.ins c.D dx (ndF (.str d.st.str) (.int ((d.ps:Int)+1)) (.ref A.r) sv (.ref A.q) (.ref A.t) (.int (d.fc:Nat))))) n A {d with ps:=d.ps+1}:=
   h.re ((Chg.refl [n] H).upd (by simp)) (by rw [show (({d with ps:=d.ps+1}:Nd).ps:Int)=(d.ps:Int)+1 by show ((d.ps+1:Nat):Int)=_;omega];exact af) (es.kp ((Kp.refl [n] H).upd (by simp) eo (fun z=>z))) rfl rfl rfl rfl
  have k1:Kp (fpN n A) H (upd H n (.ins c.D dx (ndF (.str d.st.str) (.int ((d.ps:Int)+1)) (.ref A.r) sv (.ref A.q) (.ref A.t) (.int (d.fc:Nat))))):=(Kp.refl _ H).upd (by simp [fpN]) eo (fun z=>z)
  have q1:=Post.kp q k1
  rw [if_neg (show ¬ (false=true) by decide)] at q1
  refine aO (fun c1 => ?_) (fun c1 => ?_)
  ·rw [if_pos (by omega)] at q1
   wtm_at "wp"
   refine ⟨n,A,{d with ps:=d.ps+1},rfl,h1,ok.rd,of_decide_eq_true ov,hl,hql,fun z => ?_,?_⟩
   ·cases hsn:d.sn with
    | none=>rw [show ({d with ps:=d.ps+1}:Nd).sn=d.sn from rfl,hsn] at z;cases z
    | some s=>
     obtain ⟨f,hf,rfl,hp⟩:=ok.sn s st hsn
     obtain ⟨_,e2⟩:=ok.over_eq hf hp ov
     show dk d.pl∈d.qu.map (·.1)
     rw [e2,(jD (ok.qu f hf)).1]
     exact List.mem_map.mpr ⟨f,hf,rfl⟩
   ·exact q1
  ·rw [if_neg (by omega)] at q1
   wtm_at "wp"
   exact q1 _ A (Kp.refl _ _) h1 (fun x hx => .inl hx)
abbrev d7:Stmt:=(ai (top 44) 7)
abbrev dF (K:PySem.W.Frag) (c:Cs):Sp:=sp2 fun u v H Q _=>∃ (n:Addr) (A:NA) (d:Nd) (b:Int),u = .ref n∧v = .int b∧NdAt c H n A d∧NdOk d∧d.st = .frame∧Bit b∧d.tk.length≤5000∧d.qu.length≤900∧Post c H n A (d.hearFrame b) Q
theorem dG:FnScope ["self", "bit"] ["self", "bit"] (ag d7):=aU
theorem bV (T:Txt K mg c):fk P w K mg base CX0 7 c.D "hear_in_frame" ["self", "bit"] (dF K c):=by
 refine T.d_Node_hear_in_frame.ok dG (fun _ _ _ _ _ _ us hl=>match us,hl with | [_,_],_=>rfl) gT (fun f cdv A outer s H vs Q E hr h => ?_)
 obtain ⟨v0,v1,rfl,h⟩:=h
 refine ⟨_,(ad (aZ (cC (jV T.k_Reading (cx T) hr az (am (K:=K) (pv 0))))
    (ad (ay (eJ T.k_Node (fi T) hr az (pv 0) (aa (pv 1) ac))))
    (ad (ay (eJ T.k_Node (d6 T) hr az (pv 0) (aa (pv 1) ac)))))),?_⟩
 try dsimp only [bt,Cx.nox,Cx.wish]
 refine aj (s2:=[some v0,some v1]) rfl ?_
 obtain ⟨n,A,d,b,rfl,rfl,h,ok,st,hb,hl,hql,q⟩:=h
 obtain ⟨⟨dx,sv,eo,es⟩,⟨⟨rx,ch,er,ec⟩,ew,ep,nwp⟩,⟨qs,eq,fq⟩,⟨ts,et,ft⟩,nd⟩:=id h
 wtm_at "wp"
 refine ⟨A.r,A.w,A.p,d.ws,d.pl,rfl,⟨⟨rx,ch,er,ec⟩,ew,ep,nwp⟩,fun H1 s1 => ?_⟩
 have h1:=h.same s1
 have eo1:=s1.get eo
 have q1:=Post.kp q (Same.kp s1)
 unfold Nd.hearFrame at q1
 wtm_at "wp"
 cases hov:d.over with
 | true=>
  rw [show decide (ak d.ws d.pl=[])=true from hov]
  rw [hov] at q1
  wtm_at "wp"
  exact ⟨n,A,d,b,rfl,rfl,h1,ok,st,hov,hl,hql,q1⟩
 | false=>
  rw [show decide (ak d.ws d.pl=[])=false from hov]
  rw [hov] at q1
  wtm_at "wp"
  exact ⟨n,A,d,b,rfl,rfl,h1,ok,st,hov,hb,q1⟩
theorem NdAt.passed {c:Cs} {H H':Hp} {n:Addr} {A:NA} {d:Nd} {Q:VK} {k:Nat} {s:Md} (h:NdAt c H n A d) (q:Post c H n A (d.passOne k s) Q) (ch:Chg [n] H H') {dx:Addr} {sv:V} (es:SnAt H sv d.sn)
  (e1:d.ps+1=k→At H' n (.ins c.D dx (ndF (.str s.str) (.int 0) (.ref A.r) sv (.ref A.q) (.ref A.t) (.int (d.fc:Nat)))))
  (e2:¬ d.ps+1=k→At H' n (.ins c.D dx (ndF (.str d.st.str) (.int ((d.ps+1:Nat):Int)) (.ref A.r) sv (.ref A.q) (.ref A.t) (.int (d.fc:Nat))))):Q .non H':=by
 unfold Nd.passOne at q
 by_cases z:d.ps+1=k
 ·rw [if_pos z] at q
  exact h.own q ch (e1 z) es rfl rfl rfl rfl
 ·rw [if_neg z] at q
  exact h.own q ch (e2 z) es rfl rfl rfl rfl
abbrev gO:Stmt:=(ai (top 44) 12)
abbrev gm (K:PySem.W.Frag) (c:Cs):Sp:=sp2 fun u v H Q _=>∃ (n:Addr) (A:NA) (d:Nd) (b:Int),u = .ref n∧v = .int b∧NdAt c H n A d∧Post c H n A (d.hearDazed b) Q
theorem gn:FnScope ["self", "bit"] ["self", "bit"] (ag gO):=aU
theorem gp (T:Txt K mg c):fk P w K mg base CX0 3 c.D "hear_dazed" ["self", "bit"] (gm K c):=by
 refine T.d_Node_hear_dazed.ok gn (fun _ _ _ _ _ _ us hl=>match us,hl with | [_,_],_=>rfl) gT (fun f cdv A outer s H vs Q E hr h => ?_)
 obtain ⟨v0,v1,rfl,h⟩:=h
 refine ⟨_,(ad (aZ (au cG (pv 1) ah (ax _))
    (ad (bd (K:=K) (pv 0) ah))
    (ad (ay (eJ T.k_Node (bX T) hr az (pv 0) (aa (pgi T.c_DAZED_ONES) (aa (pgs T.c_REST) ac))))))),?_⟩
 try dsimp only [bt,Cx.nox,Cx.wish]
 refine aj (s2:=[some v0,some v1]) rfl ?_
 obtain ⟨n,A,d,b,rfl,rfl,h,q⟩:=h
 obtain ⟨⟨dx,sv,eo,es⟩,ro,⟨qs,eq,fq⟩,⟨ts,et,ft⟩,nd⟩:=id h
 unfold Nd.hearDazed at q
 wtm_at "wp"
 refine aO (fun c1 => ?_) (fun c1 => ?_)
 ·rw [if_pos c1] at q
  wtm_at "wp"
  exact h.own q ((Chg.refl [n] H).upd (by simp)) af es rfl rfl rfl rfl
 ·rw [if_neg c1] at q
  wtm_at "wp"
  exact ⟨n,dx,_,_,_,_,_,_,d.ps,8,Md.rest.str,rfl,rfl,rfl,eo,fun H1 k1 a1 a2=>h.passed q k1 es a1 a2⟩
abbrev fj:Stmt:=(ai (top 44) 13)
abbrev d8 (K:PySem.W.Frag) (c:Cs):Sp:=sp2 fun u v H Q _=>∃ (n:Addr) (A:NA) (d:Nd) (b:Int),u = .ref n∧v = .int b∧NdAt c H n A d∧NdOk d∧Bit b∧d.tk.length≤5000∧d.qu.length≤900∧Post c H n A (d.hearBetween b) Q
theorem d9:FnScope ["self", "bit"] ["self", "bit"] (ag fj):=aU
theorem eh (T:Txt K mg c):fk P w K mg base CX0 8 c.D "hear_between" ["self", "bit"] (d8 K c):=by
 refine T.d_Node_hear_between.ok d9 (fun _ _ _ _ _ _ us hl=>match us,hl with | [_,_],_=>rfl) gT (fun f cdv A outer s H vs Q E hr h => ?_)
 obtain ⟨v0,v1,rfl,h⟩:=h
 refine ⟨_,(ad (aZ (au cG (pv 1) ah (ax _))
    (ae (ay (eJ T.k_Node (cm T) hr az (pv 0) (aa el ac)))
    (ad (ay (eJ T.k_Node (bV T) hr az (pv 0) (aa (pv 1) ac)))))
    (ad (aZ (au cG (am (K:=K) (pv 0)) (pgs T.c_REST) (ax _))
     (ad (ay (eJ T.k_Node (bX T) hr az (pv 0) (aa (pgi T.c_REST_ONES) (aa (pgs T.c_FREE) ac)))))
     aD)))),?_⟩
 try dsimp only [bt,Cx.nox,Cx.wish]
 refine aj (s2:=[some v0,some v1]) rfl ?_
 obtain ⟨n,A,d,b,rfl,rfl,h,ok,hb,hl,hql,q⟩:=h
 obtain ⟨⟨dx,sv,eo,es⟩,ro,⟨qs,eq,fq⟩,⟨ts,et,ft⟩,nd⟩:=id h
 unfold Nd.hearBetween at q
 wtm_at "wp"
 refine aO (fun c1 => ?_) (fun c1 => ?_)
 ·rw [if_pos c1] at q
  wtm_at "wp"
  refine ⟨n,A,d,none,rfl,h,rfl,fun H1 A1 k1 h1 f1 => ?_⟩
  obtain ⟨⟨dx1,sv1,eo1,es1⟩,_⟩:=id h1
  wtm_at "wp"
  refine ⟨n,A1,d.enter none,b,rfl,rfl,h1,ok.enter0,rfl,hb,hl,hql,fun H2 A2 k2 h2 f2 => ?_⟩
  have hin:∀ x∈fpN n A1,x∈fpN n A∨aK H x:=f1
  refine q H2 A2 ⟨fun x o hx e => ?_,fun x o i e=>k2.im x o i (k1.im x o i e)⟩ h2 (fun x hx => ?_)
  ·refine k2.ot x o (fun z => ?_) (k1.ot x o hx e)
   rcases hin x z with y | y
   ·exact hx y
   ·rw [y] at e;cases e
  ·rcases f2 x hx with z | z
   ·exact hin x z
   ·by_cases y:x∈fpN n A
    ·exact .inl y
    ·exact .inr (k1.fr y z)
 ·rw [if_neg c1] at q
  wtm_at "wp"
  refine aO (fun c2 => ?_) (fun c2 => ?_)
  ·rw [if_pos (md_inj.mp c2)] at q
   wtm_at "wp"
   exact ⟨n,dx,_,_,_,_,_,_,d.ps,3,Md.free.str,rfl,rfl,rfl,eo,fun H1 k1 a1 a2=>h.passed q k1 es a1 a2⟩
  ·rw [if_neg (fun z=>c2 (md_inj.mpr z))] at q
   wtm_at "wp"
   exact q H A (Kp.refl _ _) h (fun x hx => .inl hx)
abbrev mK:Stmt:=(ai (top 44) 6)
abbrev lC (K:PySem.W.Frag) (c:Cs):Sp:=sp2 fun u v H Q _=>∃ (n:Addr) (A:NA) (d:Nd) (b:Int),u = .ref n∧v = .int b∧NdAt c H n A d∧NdOk d∧Bit b∧d.tk.length≤5000∧d.qu.length≤900∧Post c H n A (d.hear b) Q
theorem lD:FnScope ["self", "bit"] ["self", "bit"] (ag mK):=aU
theorem lE (T:Txt K mg c):fk P w K mg base CX0 9 c.D "hear" ["self", "bit"] (lC K c):=by
 refine T.d_Node_hear.ok lD (fun _ _ _ _ _ _ us hl=>match us,hl with | [_,_],_=>rfl) gT (fun f cdv A outer s H vs Q E hr h => ?_)
 obtain ⟨v0,v1,rfl,h⟩:=h
 refine ⟨_,(ad (aZ (au cG (am (K:=K) (pv 0)) (pgs T.c_FRAME) (ax _))
    (ad (ay (eJ T.k_Node (bV T) hr az (pv 0) (aa (pv 1) ac))))
    (ad (aZ (au cG (am (K:=K) (pv 0)) (pgs T.c_CRY) (ax _))
     (ad (ay (eJ T.k_Node (bX T) hr az (pv 0) (aa (pgi T.c_CRIED_BITS) (aa (pgs T.c_DAZED) ac)))))
     (ad (aZ (au cG (am (K:=K) (pv 0)) (pgs T.c_DAZED) (ax _))
      (ad (ay (eJ T.k_Node (gp T) hr az (pv 0) (aa (pv 1) ac))))
      (ad (ay (eJ T.k_Node (eh T) hr az (pv 0) (aa (pv 1) ac)))))))))),?_⟩
 try dsimp only [bt,Cx.nox,Cx.wish]
 refine aj (s2:=[some v0,some v1]) rfl ?_
 obtain ⟨n,A,d,b,rfl,rfl,h,ok,hb,hl,hql,q⟩:=h
 obtain ⟨⟨dx,sv,eo,es⟩,ro,⟨qs,eq,fq⟩,⟨ts,et,ft⟩,nd⟩:=id h
 unfold Nd.hear at q
 wtm_at "wp"
 refine aO (fun c1 => ?_) (fun c1 => ?_)
 ·have st:d.st = .frame:=md_inj.mp c1
  rw [st] at q
  wtm_at "wp"
  exact ⟨n,A,d,b,rfl,rfl,h,ok,st,hb,hl,hql,q⟩
 wtm_at "wp"
 refine aO (fun c2 => ?_) (fun c2 => ?_)
 ·have st:d.st = .cry:=md_inj.mp c2
  rw [st] at q
  wtm_at "wp"
  exact ⟨n,dx,_,_,_,_,_,_,d.ps,6,Md.dazed.str,rfl,rfl,rfl,eo,fun H1 k1 a1 a2=>h.passed q k1 es a1 a2⟩
 wtm_at "wp"
 refine aO (fun c3 => ?_) (fun c3 => ?_)
 ·have st:d.st = .dazed:=md_inj.mp c3
  rw [st] at q
  wtm_at "wp"
  exact ⟨n,A,d,b,rfl,rfl,h,q⟩
 ·have q':Post c H n A (d.hearBetween b) Q:=by
   cases hst:d.st with
   | frame=>exact absurd (md_inj.mpr hst) c1
   | cry=>exact absurd (md_inj.mpr hst) c2
   | dazed=>exact absurd (md_inj.mpr hst) c3
   | free=>rw [hst] at q;exact q
   | rest=>rw [hst] at q;exact q
  wtm_at "wp"
  exact ⟨n,A,d,b,rfl,rfl,h,ok,hb,hl,hql,q'⟩
abbrev i7:Stmt:=(ai (top 44) 0)
abbrev ig (K:PySem.W.Frag) (c:Cs):Sp:=sp1 fun u H Q _=>∃ x dx,u = .ref x∧At H x (.ins c.D dx [])∧(∀ H' A,Chg [x] H H'→(∀ y∈[A.r,A.w,A.p,A.q,A.t],aK H y)→NdAt c H' x A Nd.new→Q .non H')
theorem ii:FnScope ["self"] ["self"] (ag i7):=aU
theorem ij (T:Txt K mg c):ww P w K mg base CX0 7 c.D ["self"] (ig K c):=by
 refine T.d_Node___init__.ok ii (fun _ _ _ _ _ _ us hl=>match us,hl with | [_],_=>rfl) jU (fun f cdv A outer s H vs Q E hr h => ?_)
 obtain ⟨v0,rfl,h⟩:=h
 refine ⟨_,(ae (bd (K:=K) (pv 0) (pgs T.c_FREE))
   (ae (bd (K:=K) (pv 0) ah)
   (ae (bd (K:=K) (pv 0) (pT (cj T) hr T.m_Reading az))
   (ae (bd (K:=K) (pv 0) el)
   (ae (bd (K:=K) (pv 0) (bn ac))
   (ae (bd (K:=K) (pv 0) (bn ac))
   (ad (bd (K:=K) (pv 0) ah)))))))),?_⟩
 try dsimp only [bt,Cx.nox,Cx.wish]
 refine aj (s2:=[some v0]) rfl ?_
 obtain ⟨x,dx,rfl,ex,q⟩:=h
 wtm_at "wp"
 intro r rx hr1 hrx nrx
 have hrH:aK H r:=by wtm_at "hf"
 have nxr:x≠r:=aA hr1 af
 wtm_at "wp"
 refine ⟨r,rx,rfl,af,fun H1 w p k1 fw fp ro=>⟨rfl,?_⟩⟩
 have s1:=Chg.made hr1 hrx k1
 have fw1:=ub fw
 have fp1:=ub fp
 have nxw:x≠w:=aA fw1 af
 have nxp:x≠p:=aA fp1 af
 have fwH:aK H w:=by wtm_at "hf"
 have fpH:aK H p:=by wtm_at "hf"
 have e1:=s1.get (af (H:=upd H x (.ins c.D dx (dI "state" (.str Md.free.str) []))) (a:=x) (o := .ins c.D dx (dI "passed" (.int 0) (dI "state" (.str Md.free.str) []))))
 have c1:Chg [x] H H1:=(((Chg.refl [x] H).upd (by simp)).upd (by simp)).trans (Same.chg s1)
 obtain ⟨⟨rx2,ch,er,ec⟩,ew,ep,nwp⟩:=ro
 have nrw:r≠w:=er.ne ew (by intro z;cases z)
 have nrp:r≠p:=er.ne ep (by intro z;cases z)
 have ncx:ch≠x:=ec.ne e1 (by intro z;cases z)
 clear k1 hr1 hrx fw fp fw1 fp1
 generalize hG:H1=G at *
 clear s1 hG
 wtm_at "wp"
 refine ⟨small (show 0≤1000 by decide),fun qa hqa => ?_⟩
 have nxq:x≠qa:=aA hqa af
 have nrq:r≠qa:=aA hqa (by wtm_at "hg")
 have nwq:w≠qa:=aA hqa (by wtm_at "hg")
 have npq:p≠qa:=aA hqa (by wtm_at "hg")
 have fqG:aK G qa:=by wtm_at "hf"
 wtm_at "wp"
 refine ⟨small (show 0≤1000 by decide),fun ta hta => ?_⟩
 have nxt:x≠ta:=aA hta af
 have nrt:r≠ta:=aA hta (by wtm_at "hg")
 have nwt:w≠ta:=aA hta (by wtm_at "hg")
 have npt:p≠ta:=aA hta (by wtm_at "hg")
 have nqt:qa≠ta:=aA hta (by wtm_at "hg")
 have ftG:aK G ta:=by wtm_at "hf"
 wtm_at "wp"
 have fqH:aK H qa:=Chg.fr c1 (aH (Ne.symm nxq)) fqG
 have ftH:aK H ta:=Chg.fr c1 (aH (Ne.symm nxt)) ftG
 refine q _ ⟨r,w,p,qa,ta⟩ (by wtm_at "hc") (fun y hy => ?_) ⟨⟨dx,.non,af,rfl⟩,(show RdAt c _ r w p [] [] from ⟨⟨rx2,ch,by wtm_at "hg",by wtm_at "hg"⟩,by wtm_at "hg",by wtm_at "hg",nwp⟩),⟨[],by wtm_at "hg",.nil⟩,⟨[],by wtm_at "hg",.nil⟩,?_⟩
 ·simp only [List.mem_cons,List.not_mem_nil,or_false] at hy
  rcases hy with rfl | rfl | rfl | rfl | rfl
  ·exact hrH
  ·exact fwH
  ·exact fpH
  ·exact fqH
  ·exact ftH
 ·simp only [fpN,List.nodup_cons,List.mem_cons,List.not_mem_nil,or_false,not_or,List.nodup_nil,not_false_eq_true,and_true]
  exact ⟨⟨nxr,nxw,nxp,nxq,nxt⟩,⟨nrw,nrp,nrq,nrt⟩,⟨nwp,nwq,nwt⟩,⟨npq,npt⟩,nqt⟩
theorem NdAt.live {c:Cs} {H:Hp} {n:Addr} {A:NA} {d:Nd} (h:NdAt c H n A d):∀ x∈fpN n A,∃ o,At H x o∧¬ Im o:=by
 obtain ⟨⟨dx,sv,eo,es⟩,⟨⟨rx,ch,er,ec⟩,ew,ep,nwp⟩,⟨qs,eq,fq⟩,⟨ts,et,ft⟩,nd⟩:=h
 intro x hx
 simp only [fpN,List.mem_cons,List.not_mem_nil,or_false] at hx
 rcases hx with rfl | rfl | rfl | rfl | rfl | rfl
 ·exact ⟨_,eo,fun z=>z⟩
 ·exact ⟨_,er,fun z=>z⟩
 ·exact ⟨_,ew,fun z=>z⟩
 ·exact ⟨_,ep,fun z=>z⟩
 ·exact ⟨_,eq,fun z=>z⟩
 ·exact ⟨_,et,fun z=>z⟩
abbrev NE:=Addr×NA×Nd
def fpE (x:NE):List Addr:=fpN x.1 x.2.1
structure Nodes (c:Cs) (H:Hp) (ns:List NE):Prop where
 at_:∀ x∈ns,NdAt c H x.1 x.2.1 x.2.2
 sep:ns.Pairwise fun x y=>∀ a∈fpE x,a∉fpE y
theorem Nodes.kp {c:Cs} {H H':Hp} {ns:List NE} {S:List Addr} (h:Nodes c H ns) (k:Kp S H H') (hd:∀ x∈ns,∀ a∈fpE x,a∉S):Nodes c H' ns:=⟨fun x hx=>(h.at_ x hx).kp k (hd x hx),h.sep⟩
theorem Nodes.set {c:Cs} {H H':Hp} {pre post:List NE} {n:Addr} {A A':NA} {d d':Nd} (h:Nodes c H (pre++(n,A,d) :: post)) (k:Kp (fpN n A) H H') (h':NdAt c H' n A' d') (f:∀ x∈fpN n A',x∈fpN n A∨aK H x) :
  Nodes c H' (pre++(n,A',d') :: post):=by
 obtain ⟨ha,hs⟩:=h
 rw [List.pairwise_append,List.pairwise_cons] at hs
 obtain ⟨s1,⟨s2,s3⟩,s4⟩:=hs
 have other:∀ x,x∈pre∨x∈post→∀ a∈fpE x,a∉fpN n A:=fun x hx a ha1 ha2=>by
  rcases hx with z | z
  ·exact s4 x z (n,A,d) List.mem_cons_self a ha1 ha2
  ·exact s2 x z a ha2 ha1
 have new:∀ x,x∈pre∨x∈post→∀ a∈fpE x,a∉fpN n A':=fun x hx a ha1 ha2=>by
  rcases f a ha2 with z | z
  ·exact other x hx a ha1 z
  ·obtain ⟨o,e,_⟩:=(ha x (by rw [List.mem_append,List.mem_cons];rcases hx with y | y;exact .inl y;exact .inr (.inr y))).live a ha1
   exact (aA z e) rfl
 refine ⟨fun x hx => ?_,?_⟩
 ·rw [List.mem_append,List.mem_cons] at hx
  rcases hx with z | rfl | z
  ·exact (ha x (List.mem_append_left _ z)).kp k (other x (.inl z))
  ·exact h'
  ·exact (ha x (List.mem_append_right _ (List.mem_cons_of_mem _ z))).kp k (other x (.inr z))
 ·rw [List.pairwise_append,List.pairwise_cons]
  refine ⟨s1,⟨fun y hy a h1 h2=>new y (.inr hy) a h2 h1,s3⟩,fun x hx y hy a h1 h2 => ?_⟩
  rcases List.mem_cons.mp hy with rfl | z
  ·exact new x (.inl hx) a h1 h2
  ·exact s4 x hx y (List.mem_cons_of_mem _ z) a h1 h2
def fpB (b:Addr) (ns:List NE):List Addr:=b :: ns.flatMap fpE
structure BusAt (c:Cs) (H:Hp) (b:Addr) (F:List Addr) (as:List Addr) (ds:List Nd) (t:Nat):Prop where
 ex:∃ (dx l:Addr) (o:Obj) (ns:List NE),At H b (.ins c.U dx (buF (.ref l) (.int (t:Nat))))∧At H l (.frz o (.lst (as.map V.ref)))∧Nodes c H ns∧ns.map (·.1)=as∧ns.map (·.2.2)=ds∧F=fpB b ns∧b∉ns.flatMap fpE
def wf (c:Cs) (H:Hp) (b:Addr) (F as:List Addr) (ds:List Nd) (t:Nat) (v:V) (Q:VK):Prop:=∀ H' F',Kp F H H'→BusAt c H' b F' as ds t→(∀ x∈F',x∈F∨aK H x)→Q v H'
theorem BusAt.live {c:Cs} {H:Hp} {b:Addr} {F as:List Addr} {ds:List Nd} {t:Nat} (h:BusAt c H b F as ds t):∀ x∈F,∃ o,At H x o∧¬ Im o:=by
 obtain ⟨dx,l,o,ns,e1,e2,e3,e4,e5,rfl,e7⟩:=h.ex
 intro x hx
 rcases List.mem_cons.mp hx with rfl | z
 ·exact ⟨_,e1,fun z=>z⟩
 ·obtain ⟨y,hy,hz⟩:=List.mem_flatMap.mp z
  exact (e3.at_ y hy).live x hz
theorem BusAt.kp {c:Cs} {H H':Hp} {b:Addr} {F S as:List Addr} {ds:List Nd} {t:Nat} (h:BusAt c H b F as ds t) (k:Kp S H H') (hd:∀ x∈F,x∉S):BusAt c H' b F as ds t:=by
 obtain ⟨dx,l,o,ns,e1,e2,e3,e4,e5,rfl,e7⟩:=h.ex
 exact ⟨dx,l,o,ns,k.get (hd b (by simp [fpB])) e1,k.frz e2,e3.kp k (fun x hx a ha=>hd a (List.mem_cons_of_mem _ (List.mem_flatMap.mpr ⟨x,hx,ha⟩))),e4,e5,rfl,e7⟩
theorem BusAt.same {c:Cs} {H H':Hp} {b:Addr} {F as:List Addr} {ds:List Nd} {t:Nat} (h:BusAt c H b F as ds t) (s:Same H H'):BusAt c H' b F as ds t:=h.kp (S:=[]) (Same.kp s) (fun _ _ z=>by cases z)
theorem BusAt.len {c:Cs} {H:Hp} {b:Addr} {F as:List Addr} {ds:List Nd} {t:Nat} (h:BusAt c H b F as ds t):as.length=ds.length:=by
 obtain ⟨dx,l,o,ns,e1,e2,e3,e4,e5,e6,e7⟩:=h.ex
 rw [← e4,← e5,List.length_map,List.length_map]
theorem Nodes.nth {c:Cs} {H:Hp} {ns:List NE} (h:Nodes c H ns) {i:Nat} {x:NE} (e:ns[i]? = some x):NdAt c H x.1 x.2.1 x.2.2:=h.at_ x (List.mem_of_getElem? e)
theorem rD {α:Type} {l:List α} {i:Nat} {x:α} (h:l[i]? = some x):l=l.take i++x :: l.drop (i+1):=by
 obtain ⟨hi,e⟩:=List.getElem?_eq_some_iff.mp h
 rw [← e]
 conv=>lhs;rw [← List.take_append_drop i l,List.drop_eq_getElem_cons hi]
theorem rE {α:Type} {l:List α} {i:Nat} {x y:α} (h:l[i]? = some x):l.set i y=l.take i++y :: l.drop (i+1):=by
 obtain ⟨hi,e⟩:=List.getElem?_eq_some_iff.mp h
 rw [List.set_eq_take_append_cons_drop,if_pos hi]
theorem Nodes.setAt {c:Cs} {H H':Hp} {ns:List NE} (h:Nodes c H ns) {i:Nat} {n:Addr} {A A':NA} {d d':Nd} (e:ns[i]? = some (n,A,d)) (k:Kp (fpN n A) H H') (h':NdAt c H' n A' d') (f:∀ x∈fpN n A',x∈fpN n A∨aK H x):Nodes c H' (ns.set i (n,A',d')):=by
 rw [rE e]
 rw [rD e] at h
 exact h.set k h' f
theorem ut {ns:List NE} {i:Nat} {n:Addr} {A A':NA} {d d':Nd} {H:Hp} (e:ns[i]? = some (n,A,d)) (f:∀ x∈fpN n A',x∈fpN n A∨aK H x):∀ x∈(ns.set i (n,A',d')).flatMap fpE,x∈ns.flatMap fpE∨aK H x:=by
 intro x hx
 obtain ⟨y,hy,hz⟩:=List.mem_flatMap.mp hx
 rcases List.mem_or_eq_of_mem_set hy with z | rfl
 ·exact .inl (List.mem_flatMap.mpr ⟨y,z,hz⟩)
 ·rcases f x hz with z | z
  ·exact .inl (List.mem_flatMap.mpr ⟨_,List.mem_of_getElem? e,z⟩)
  ·exact .inr z
theorem uu {ns:List NE} {i:Nat} {x:NE} (e:ns[i]? = some x):∀ a∈fpE x,a∈ns.flatMap fpE:=fun a ha=>List.mem_flatMap.mpr ⟨x,List.mem_of_getElem? e,ha⟩
def CpD (D:Addr) (H H':Hp) (v:V) (f:Fr):Prop:=∃ t r,v = .ref t∧At H' t (.tup [.int f.1,.ref r])∧At H' r (.lst (f.2.map V.int))∧aK H t∧aK H r∧r≠D
def Cp (H H':Hp) (v:V) (f:Fr):Prop:=∃ t r,v = .ref t∧At H' t (.tup [.int f.1,.ref r])∧At H' r (.lst (f.2.map V.int))∧aK H t∧aK H r
theorem aY {α:Type} {l:List α} {i:Nat} {b:α} (h:l[i]? = some b):l.take (i+1)=l.take i++[b]:=by
 obtain ⟨hi,e⟩:=List.getElem?_eq_some_iff.mp h
 rw [List.take_succ_eq_append_getElem hi,e]
abbrev mL:Stmt:=(top 47)
abbrev lF (K:PySem.W.Frag) (c:Cs):Sp:=sp1 fun u H Q _=>∃ (a:Addr) (vs:List V) (fs:List Fr),u = .ref a∧SqL K H a vs∧Frs H vs fs∧fs.length≤5000∧(∀ D us H',Same H H'→aK H D→At H' D (.lst us)→Paired (Cp H H') us fs→Q (.ref D) H')
theorem lG:FnScope ["frames"] ["frames"] (ag mL):=aU
theorem g6 (T:Txt K mg c):g9 P w K mg base CX0 1 "copies_of" ["frames"] (lF K c):=by
 refine T.d_copies_of.ok lG (fun _ _ _ _ _ _ us hl=>match us,hl with | [_],_=>rfl) jU (fun f cdv A outer s H vs Q E hr h => ?_)
 obtain ⟨v0,rfl,h⟩:=h
 refine ⟨_,(ad (aF (cz [] [] (aR (K:=K) (pv 0)) (fun fp s H=>(ce (aa (bR (bK (K:=K)) (pv 0) ah (fun _ _=>rfl)) (aa (ix (eK (K:=K)) rfl T.list PyProof.Rows.boot_list (aa (bR (bK (K:=K)) (pv 0) ah (fun _ _=>rfl)) ac)) ac))))))),?_⟩
 try dsimp only [bt,Cx.nox,Cx.wish]
 refine aj (s2:=[some v0]) rfl ?_
 obtain ⟨a,vs,fs,rfl,hS,hf,hl,q⟩:=h
 have ql:=hf.len
 wtm_at "wp"
 refine bF ?_
 wtm_at "wp"
 refine fP (xs:=vs) (fun D i ys H2=>Same H H2∧At H2 D (.lst ys)∧aK H D∧Paired (CpD D H H2) ys (fs.take i)) hS (Nat.le_of_lt (gK (by omega))) (fun D hD=>⟨aq hD _,af,hD,.nil⟩) (fun D i ys H2 hi ⟨s2,e2,f2,p2⟩=>⟨e2,s2.seq hS,?_⟩) (fun D i x ys H2 hx ⟨s2,e2,f2,p2⟩ => ?_) (fun D ys H2 ⟨s2,e2,f2,p2⟩ => ?_)
 ·have:=Paired.length p2
  rw [List.length_take] at this
  omega
 ·have hi:i < vs.length:=(List.getElem?_eq_some_iff.mp hx).1
  obtain ⟨f,hfi,t,r,o,rfl,et,er⟩:=ge hf hx
  have et2:=s2.get et
  have er2:=s2.get er
  show yZ _ [some (.ref t)] _ _
  wtm_at "wp"
  intro l hl1
  wtm_at "wp"
  refine ⟨small (show 2≤1000 by decide),fun u hu => ?_⟩
  have nlD:l≠D:=Ne.symm (aA hl1 e2)
  have nuD:u≠D:=Ne.symm (aA hu (aC hl1 e2))
  have eD:At (upd (upd H2 l (.lst (f.2.map V.int))) u (.tup [.int f.1,.ref l])) D (.lst ys):=aC hu (aC hl1 e2)
  have s3:Same H (upd (upd H2 l (.lst (f.2.map V.int))) u (.tup [.int f.1,.ref l])):=(s2.new hl1).new hu
  refine j2 hi eD ⟨s3.upF f2,af,f2,?_⟩
  rw [aY hfi]
  refine jI (Paired.mapP p2 fun v g ⟨t',r',e,a1,a2,a3,a4,a5⟩=>⟨t',r',e,?_,?_,a3,a4,a5⟩) (.cons ⟨u,l,rfl,aL nuD af,aL nlD (aC hu af),s2.fr (x8 hu),s2.fr hl1,nlD⟩ .nil)
  ·exact aL (a1.ne e2 (by intro z;cases z)) (aC hu (aC hl1 a1))
  ·exact aL a5 (aC hu (aC hl1 a2))
 ·rw [ql,List.take_of_length_le (Nat.le_refl _)] at p2
  exact q D ys H2 s2 f2 e2 (Paired.mapP p2 fun v g ⟨t',r',e,a1,a2,a3,a4,_⟩=>⟨t',r',e,a1,a2,a3,a4⟩)
abbrev jm:Stmt:=(ai (top 48) 0)
abbrev i8 (K:PySem.W.Frag) (c:Cs):Sp:=sp2 fun u v H Q _=>∃ (x dx:Addr) (m:Nat),u = .ref x∧v = .int (m:Nat)∧At H x (.ins c.U dx [])∧1≤m∧m≤8∧(∀ H' F as,Chg [x] H H'→(∀ y∈F,y=x∨aK H y)→as.length=m→BusAt c H' x F as (List.replicate m Nd.new) 0→Q .non H')
theorem i9:FnScope ["self", "many"] ["self", "many"] (ag jm):=aU
theorem ja (T:Txt K mg c):ww P w K mg base CX0 9 c.U ["self", "many"] (i8 K c):=by
 refine T.d_Bus___init__.ok i9 (fun _ _ _ _ _ _ us hl=>match us,hl with | [_,_],_=>rfl) gT (fun f cdv A outer s H vs Q E hr h => ?_)
 obtain ⟨v0,v1,rfl,h⟩:=h
 refine ⟨_,(ae (aZ (PW.pt (km (au jL (pv 1) ah (ax _)) (ip (au nW (pv 1) (pgi T.c_MOST_NODES) (ax _)))))
    (ad rP)
    aD)
   (ae (bd (K:=K) (pv 0) (nw (cz [] [] (bP rfl T.range (aa (pv 1) ac)) (fun fp s H=>(pT (ij T) hr T.m_Node az)))))
   (ad (bd (K:=K) (pv 0) ah)))),?_⟩
 try dsimp only [bt,Cx.nox,Cx.wish]
 refine aj (s2:=[some v0,some v1]) rfl ?_
 obtain ⟨x,dx,m,rfl,rfl,ex,hm1,hm8,q⟩:=h
 wtm_at "wp"
 refine xF (by omega) ?_
 wtm_at "wp"
 refine xF (by omega) ?_
 wtm_at "wp"
 refine jX ?_
 wtm_at "wp"
 refine kX m (fun D i ys H2=>∃ ns:List NE,Same H H2∧At H2 D (.lst ys)∧aK H D∧ys=ns.map (fun z=>V.ref z.1)∧Nodes c H2 ns∧ns.map (·.2.2)=List.replicate i Nd.new∧∀ a∈ns.flatMap fpE,aK H a∧a≠D) (by omega) (by omega) (small (by omega))
  (fun D hD=>⟨[],aq hD _,af,hD,rfl,⟨fun z hz=>(by cases hz),List.Pairwise.nil⟩,rfl,fun a ha=>(by cases ha)⟩) (fun D i ys H2 hi ⟨ns,s2,e2,f2,ey,n2,d2,a2⟩=>⟨e2,?_⟩) (fun D i ys H2 hi ⟨ns,s2,e2,f2,ey,n2,d2,a2⟩ => ?_) (fun D ys H2 ⟨ns,s2,e2,f2,ey,n2,d2,a2⟩ => ?_)
 ·have:=congrArg List.length d2
  rw [List.length_map,List.length_replicate] at this
  rw [ey,List.length_map,this]
  exact Nat.le_refl _
 ·show n8 _ _ _ _ _ [some (.int (i:Int))] _ _
  wtm_at "wp"
  intro n nx hn hnx nnx
  refine ⟨_,rfl,n,nx,rfl,af,fun H3 A k3 f3 h3=>⟨rfl,?_⟩⟩
  have s3:Same H2 H3:=Chg.made hn hnx k3
  have eD:=s3.get e2
  have ffp:∀ a∈fpN n A,aK H2 a:=fun a ha=>by
   rcases List.mem_cons.mp ha with rfl | z
   ·exact hn
   ·exact ub (f3 a z)
  have nD:∀ a∈fpN n A,a≠D:=fun a ha=>Ne.symm (aA (ffp a ha) e2)
  refine j2 hi eD ⟨ns++[(n,A,Nd.new)],(s2.trans s3).upF f2,af,f2,by rw [ey,List.map_append];rfl,?_,?_,?_⟩
  ·have hk:Kp [D] H3 (upd H3 D (.lst (ys++[.ref n]))):=(Kp.refl _ _).upd (by simp) eD (fun z=>z)
   have n3:Nodes c H3 ns:=n2.kp (S:=[]) (Same.kp s3) (fun _ _ _ _ z=>by cases z)
   refine ⟨fun z hz => ?_,?_⟩
   ·rcases List.mem_append.mp hz with y | y
    ·exact (n3.at_ z y).kp hk (fun a ha=>aH (a2 a (List.mem_flatMap.mpr ⟨z,y,ha⟩)).2)
    ·rw [List.mem_singleton.mp y]
     exact h3.kp hk (fun a ha=>aH (nD a ha))
   ·rw [List.pairwise_append]
    refine ⟨n2.sep,List.pairwise_singleton _ _,fun z hz w hw a h1 h2 => ?_⟩
    rw [List.mem_singleton.mp hw] at h2
    obtain ⟨o,e,_⟩:=(n2.at_ z hz).live a h1
    exact (aA (ffp a h2) e) rfl
  ·rw [List.map_append,d2,List.replicate_succ']
   rfl
  ·intro a ha
   rw [List.flatMap_append,List.mem_append] at ha
   rcases ha with z | z
   ·exact a2 a z
   ·have z':a∈fpN n A:=by simpa [fpE] using z
    exact ⟨s2.fr (ffp a z'),nD a z'⟩
 ·refine jZ e2 (fun o => ?_)
  have s3:Same H (upd H2 D (.frz o (.lst ys))):=s2.upF f2
  have k3:Kp [D] H2 (upd H2 D (.frz o (.lst ys))):=(Kp.refl _ _).upd (by simp) e2 (fun z=>z)
  have n3:Nodes c (upd H2 D (.frz o (.lst ys))) ns:=n2.kp k3 (fun z hz a ha=>aH (a2 a (List.mem_flatMap.mpr ⟨z,hz,ha⟩)).2)
  have eD:At (upd H2 D (.frz o (.lst ys))) D (.frz o (.lst ys)):=af
  generalize upd H2 D (.frz o (.lst ys))=H3 at *
  have ex3:=s3.get ex
  wtm_at "wp"
  have c4:Chg [x] H3 (upd (upd H3 x (.ins c.U dx (dI "nodes" (.ref D) []))) x (.ins c.U dx (dI "bits_past" (.int 0) (dI "nodes" (.ref D) [])))):=((Chg.refl [x] H3).upd (by simp)).upd (by simp)
  have k4:=Chg.kp (S:=[x]) c4 (by simp) ex3 (fun z=>z)
  have nxa:∀ a∈ns.flatMap fpE,a≠x:=fun a ha=>Ne.symm (aA (a2 a ha).1 ex)
  refine q _ (fpB x ns) (ns.map (·.1)) ((Same.chg s3).trans c4) (fun y hy => ?_) ?_ ⟨dx,D,o,ns,af,?_,n3.kp k4 (fun z hz a ha=>aH (nxa a (List.mem_flatMap.mpr ⟨z,hz,ha⟩))),rfl,d2,rfl,fun z=>nxa x z rfl⟩
  ·rcases List.mem_cons.mp hy with z | z
   ·exact .inl z
   ·exact .inr (a2 y z).1
  ·have:=congrArg List.length d2
   rw [List.length_map,List.length_replicate] at this
   rw [List.length_map,this]
  ·rw [ey] at eD
   rw [List.map_map]
   exact k4.frz eD
abbrev kg:Stmt:=(ai (top 48) 1)
abbrev jn (K:PySem.W.Frag) (c:Cs):Sp:=sp2 fun u v H Q E=>∃ (b:Addr) (F as:List Addr) (ds:List Nd) (t:Nat) (i:Int),u = .ref b∧v = .int i∧BusAt c H b F as ds t∧as.length≤8∧i.natAbs.log2 < 1920∧(∀ k a,i=(k:Nat)→as[k]? = some a→Q (.ref a) H)∧(¬ (0≤i∧i < as.length)→E (.ref c.N) none H)
theorem jo:FnScope ["self", "node"] ["self", "node"] (ag kg):=aU
theorem bO (T:Txt K mg c):fk P w K mg base (CXe P w) 1 c.U "node_at" ["self", "node"] (jn K c):=by
 refine T.d_Bus_node_at.okE jo (fun _ _ _ _ _ _ us hl=>match us,hl with | [_,_],_=>rfl) gT (fun f cdv A outer s H vs Q E hr h => ?_)
 obtain ⟨v0,v1,rfl,h⟩:=h
 refine ⟨_,(ae (aZ (PW.pt (km (au jL (pv 1) ah (ax _)) (ip (au wQ (pv 1) (aI (aJ (K:=K)) rfl T.len PySem.boot_len (aa (am (K:=K) (pv 0)) ac)) (ax _)))))
    (ad (fJ (E:=E) (fun pins σ H s h' e vs I hx hE=>fI I hx hE) PySem.F.excBase_ValueError T.x_NoNode rfl rfl T.m_NoNode (aa (iD (t9 (xh (pv 1) (t9 kP)))) ac)))
    aD)
   (ad (aF (bR (br (K:=K)) (am (K:=K) (pv 0)) (pv 1) (fun _ _=>rfl))))),?_⟩
 try dsimp only [bt,Cx.nox,Cx.wish]
 refine aj (s2:=[some v0,some v1]) rfl ?_
 obtain ⟨b,F,as,ds,t,i,rfl,rfl,h,h8,hlog,qg,qb⟩:=h
 obtain ⟨dx,l,o,ns,e1,e2,e3,e4,e5,e6,e7⟩:=h.ex
 have la:(as.map V.ref).length=as.length:=List.length_map _
 wtm_at "wp"
 refine aO (fun c1 => ?_) (fun c1 => ?_)
 ·wtm_at "wp"
  exact ⟨_,rfl,_,rfl,hlog,fun y=>⟨(show 1≤100 by decide),qb fun z=>by omega⟩⟩
 wtm_at "wp"
 rw [la]
 refine aO (fun c2 => ?_) (fun c2 => ?_)
 ·exact ⟨_,rfl,_,rfl,hlog,fun y=>⟨(show 1≤100 by decide),qb fun z=>by omega⟩⟩
 wtm_at "wp"
 have hi:i.toNat < as.length:=by omega
 have ei:i=(i.toNat:Int):=by omega
 refine cr (At.sqF e2) (show atI (as.map V.ref) i=some (.ref as[i.toNat]) by
  have h:=jM (xs:=as.map V.ref) (j:=i.toNat) (v := .ref as[i.toNat]) (by rw [List.getElem?_map,List.getElem?_eq_getElem hi];rfl)
  rw [← ei] at h
  exact h) ?_
 wtm_at "wp"
 exact qg i.toNat _ ei (List.getElem?_eq_getElem hi)
theorem BusAt.nth {c:Cs} {H:Hp} {b:Addr} {F as:List Addr} {ds:List Nd} {t:Nat} (h:BusAt c H b F as ds t) {k:Nat} {d:Nd} (e:ds[k]? = some d):∃ n A,as[k]? = some n∧NdAt c H n A d∧(∀ x∈fpN n A,x∈F):=by
 obtain ⟨dx,l,o,ns,e1,e2,e3,e4,e5,rfl,e7⟩:=h.ex
 rw [← e5,List.getElem?_map] at e
 cases q:ns[k]? with
 | none=>rw [q] at e;cases e
 | some x=>
  obtain ⟨n,A,d'⟩:=x
  rw [q] at e
  have e':d'=d:=Option.some.inj e
  subst e'
  refine ⟨n,A,by rw [← e4,List.getElem?_map,q];rfl,e3.nth q,fun x hx=>List.mem_cons_of_mem _ (uu q x hx)⟩
abbrev mM:Stmt:=(ai (top 48) 3)
abbrev lH (K:PySem.W.Frag) (c:Cs):Sp:=sp2 fun u v H Q _=>∃ (b:Addr) (F as:List Addr) (ds:List Nd) (t k:Nat) (d:Nd),u = .ref b∧v = .int (k:Nat)∧BusAt c H b F as ds t∧as.length≤8∧ds[k]? = some d∧d.tk.length≤5000∧(∀ D us H',Same H H'→aK H D→At H' D (.lst us)→Paired (Cp H H') us d.tk→Q (.ref D) H')
theorem lI:FnScope ["self", "node"] ["self", "node"] (ag mM):=aU
theorem lJ (T:Txt K mg c):fk P w K mg base CX0 2 c.U "heard" ["self", "node"] (lH K c):=by
 refine T.d_Bus_heard.ok lI (fun _ _ _ _ _ _ us hl=>match us,hl with | [_,_],_=>rfl) gT (fun f cdv A outer s H vs Q E hr h => ?_)
 obtain ⟨v0,v1,rfl,h⟩:=h
 refine ⟨_,(ad (aF (cv (g6 T) hr az (aa (am (K:=K) (eJ T.k_Bus (bO T) hr nq (pv 0) (aa (pv 1) ac))) ac)))),?_⟩
 try dsimp only [bt,Cx.nox,Cx.wish]
 refine aj (s2:=[some v0,some v1]) rfl ?_
 obtain ⟨b,F,as,ds,t,k,d,rfl,rfl,h,h8,hk,hl,q⟩:=h
 obtain ⟨dx,l,o,ns,e1,e2,e3,e4,e5,e6,e7⟩:=h.ex
 obtain ⟨n,A,ha,⟨⟨nx,sv,eo,es⟩,ro,⟨qs,eq,fq⟩,⟨ts,et,ft⟩,nd⟩,hF⟩:=h.nth hk
 have hkl:k < as.length:=(List.getElem?_eq_some_iff.mp ha).1
 wtm_at "wp"
 refine ⟨b,F,as,ds,t,_,rfl,rfl,h,h8,bT (by omega) (by omega),fun j a ej ea => ?_,fun z=>absurd (by omega) z⟩
 have:j=k:=by omega
 subst this
 rw [ha] at ea
 cases ea
 wtm_at "wp"
 exact ⟨A.t,ts,d.tk,rfl,At.sqL et,ft,hl,q⟩
abbrev mO:Stmt:=(ai (top 48) 4)
abbrev lK (K:PySem.W.Frag) (c:Cs):Sp:=sp2 fun u v H Q _=>∃ (b:Addr) (F as:List Addr) (ds:List Nd) (t k:Nat) (d:Nd),u = .ref b∧v = .int (k:Nat)∧BusAt c H b F as ds t∧as.length≤8∧ds[k]? = some d∧d.qu.length≤900∧(∀ D us H',Same H H'→aK H D→At H' D (.lst us)→Paired (Cp H H') us d.qu→Q (.ref D) H')
theorem lL:FnScope ["self", "node"] ["self", "node"] (ag mO):=aU
theorem g7 (T:Txt K mg c):fk P w K mg base CX0 2 c.U "waits" ["self", "node"] (lK K c):=by
 refine T.d_Bus_waits.ok lL (fun _ _ _ _ _ _ us hl=>match us,hl with | [_,_],_=>rfl) gT (fun f cdv A outer s H vs Q E hr h => ?_)
 obtain ⟨v0,v1,rfl,h⟩:=h
 refine ⟨_,(ad (aF (cv (g6 T) hr az (aa (am (K:=K) (eJ T.k_Bus (bO T) hr nq (pv 0) (aa (pv 1) ac))) ac)))),?_⟩
 try dsimp only [bt,Cx.nox,Cx.wish]
 refine aj (s2:=[some v0,some v1]) rfl ?_
 obtain ⟨b,F,as,ds,t,k,d,rfl,rfl,h,h8,hk,hl,q⟩:=h
 obtain ⟨dx,l,o,ns,e1,e2,e3,e4,e5,e6,e7⟩:=h.ex
 obtain ⟨n,A,ha,⟨⟨nx,sv,eo,es⟩,ro,⟨qs,eq,fq⟩,⟨ts,et,ft⟩,nd⟩,hF⟩:=h.nth hk
 have hkl:k < as.length:=(List.getElem?_eq_some_iff.mp ha).1
 wtm_at "wp"
 refine ⟨b,F,as,ds,t,_,rfl,rfl,h,h8,bT (by omega) (by omega),fun j a ej ea => ?_,fun z=>absurd (by omega) z⟩
 have:j=k:=by omega
 subst this
 rw [ha] at ea
 cases ea
 wtm_at "wp"
 exact ⟨A.q,qs,d.qu,rfl,At.sqL eq,fq,by omega,q⟩
abbrev oQ:Stmt:=(ai (top 48) 6)
abbrev mP (K:PySem.W.Frag) (c:Cs):Sp:=sp2 fun u v H Q _=>∃ (b:Addr) (F as:List Addr) (ds:List Nd) (t k:Nat) (d:Nd),u = .ref b∧v = .int (k:Nat)∧BusAt c H b F as ds t∧as.length≤8∧ds[k]? = some d∧Q (.str d.st.str) H
theorem mQ:FnScope ["self", "node"] ["self", "node"] (ag oQ):=aU
theorem mR (T:Txt K mg c):fk P w K mg base CX0 2 c.U "mode" ["self", "node"] (mP K c):=by
 refine T.d_Bus_mode.ok mQ (fun _ _ _ _ _ _ us hl=>match us,hl with | [_,_],_=>rfl) gT (fun f cdv A outer s H vs Q E hr h => ?_)
 obtain ⟨v0,v1,rfl,h⟩:=h
 refine ⟨_,(ad (aF (am (K:=K) (eJ T.k_Bus (bO T) hr nq (pv 0) (aa (pv 1) ac))))),?_⟩
 try dsimp only [bt,Cx.nox,Cx.wish]
 refine aj (s2:=[some v0,some v1]) rfl ?_
 obtain ⟨b,F,as,ds,t,k,d,rfl,rfl,h,h8,hk,q⟩:=h
 obtain ⟨dx,l,o,ns,e1,e2,e3,e4,e5,e6,e7⟩:=h.ex
 obtain ⟨n,A,ha,⟨⟨nx,sv,eo,es⟩,ro,⟨qs,eq,fq⟩,⟨ts,et,ft⟩,nd⟩,hF⟩:=h.nth hk
 have hkl:k < as.length:=(List.getElem?_eq_some_iff.mp ha).1
 wtm_at "wp"
 refine ⟨b,F,as,ds,t,_,rfl,rfl,h,h8,bT (by omega) (by omega),fun j a ej ea => ?_,fun z=>absurd (by omega) z⟩
 have:j=k:=by omega
 subst this
 rw [ha] at ea
 cases ea
 wtm_at "wp"
 exact q
def bI (ds:List Nd) (k:Nat) (name:Int):Bool:=(ds.take k++ds.drop (k+1)).any fun d=>decide (name∈d.qu.map (·.1))
def wg (ns:List NE) (name:Int) (v:V):V:=match v with
 | .ref a=>match ns.find? (fun x=>x.1 == a) with
  | some x => .bl (decide (name∈x.2.2.qu.map (·.1)))
  | none => .non
 | _ => .non
theorem Nodes.inj {c:Cs} {H:Hp} {ns:List NE} (h:Nodes c H ns) {x y:NE} (hx:x∈ns) (hy:y∈ns) (e:x.1=y.1):x=y:=by
 have hp:=h.sep
 induction ns with
 | nil=>cases hx
 | cons z zs ih=>
  rw [List.pairwise_cons] at hp
  rcases List.mem_cons.mp hx with rfl | hx'
  ·rcases List.mem_cons.mp hy with rfl | hy'
   ·rfl
   ·exact absurd (show x.1∈fpE y by rw [e];simp [fpE,fpN]) (hp.1 y hy' x.1 (by simp [fpE,fpN]))
  ·rcases List.mem_cons.mp hy with rfl | hy'
   ·exact absurd (show y.1∈fpE x by rw [← e];simp [fpE,fpN]) (hp.1 x hx' y.1 (by simp [fpE,fpN]))
   ·exact ih ⟨fun w hw=>h.at_ w (List.mem_cons_of_mem _ hw),hp.2⟩ hx' hy' hp.2
theorem nN {c:Cs} {H:Hp} {ns:List NE} (h:Nodes c H ns) {name:Int} {x:NE} (hx:x∈ns):wg ns name (.ref x.1) = .bl (decide (name∈x.2.2.qu.map (·.1))):=by
 cases e:ns.find? (fun y=>y.1 == x.1) with
 | none=>
  have:=List.find?_eq_none.mp e x hx
  simp at this
 | some y=>
  have h1:=List.mem_of_find?_eq_some e
  have h2:=List.find?_some e
  have:y=x:=h.inj h1 hx (by simpa using h2)
  rw [this] at e
  simp only [wg,e]
abbrev gP:Stmt:=(top 49)
abbrev gq (K:PySem.W.Frag) (c:Cs):Sp:=sp3 fun u v w H Q _=>∃ (b:Addr) (F as:List Addr) (ds:List Nd) (t k:Nat) (name:Int),u = .ref b∧v = .int (k:Nat)∧w = .int name∧BusAt c H b F as ds t∧as.length≤8∧(∀ d∈ds,d.qu.length≤900)∧(∀ H',Same H H'→Q (.bl (bI ds k name)) H')
theorem sc_waits_elsewhere:FnScope ["bus", "node", "name", "others"] ["bus", "node", "name"] (ag gP):=aU
theorem gr (T:Txt K mg c):g9 P w K mg base CX0 2 "waits_elsewhere" ["bus", "node", "name"] (gq K c):=by
 refine T.d_waits_elsewhere.ok sc_waits_elsewhere (fun _ _ _ _ _ _ us hl=>match us,hl with | [_,_,_],_=>rfl) yN (fun f cdv A outer s H vs Q E hr h => ?_)
 obtain ⟨v0,v1,v2,rfl,h⟩:=h
 refine ⟨_,(ae (aN (i:=3) sc_waits_elsewhere.nd rfl (by first | exact Or.inl rfl | exact Or.inr rfl) (aB nc (bY (b4 (K:=K)) (am (K:=K) (pv 0)) gu (bW (pv 1))) (bY (b4 (K:=K)) (am (K:=K) (pv 0)) (bW (aB bC (pv 1) ah)) gu)))
   (ad (aF (aI (iB rfl) rfl T.any PyProof.Rows.boot_any (aa (cz ["name"] [2] (aR (K:=K) (pv 3)) (fun fp s H=>(eJ T.k_Node (eX T) hr az (pv 1) (aa (pv 0) ac)))) ac))))),?_⟩
 try dsimp only [bt,Cx.nox,Cx.wish]
 refine aj (s2:=[some v0,some v1,some v2,none]) rfl ?_
 obtain ⟨b,F,as,ds,t,k,name,rfl,rfl,rfl,h,h8,hfew,q⟩:=h
 obtain ⟨dx,l,o,ns,e1,e2,e3,e4,e5,e6,e7⟩:=h.ex
 have la:(as.map V.ref).length=as.length:=List.length_map _
 wtm_at "wp"
 refine fK (At.sqF e2) (pW (as.map V.ref) k) (fun p1 hp1 => ?_)
 wtm_at "wp"
 refine fK (show SqL K _ l (as.map V.ref) from At.sqF (aC hp1 e2)) (show jw (as.map V.ref) (some ((k:Int)+1)) none=(as.map V.ref).drop (k+1) by rw [show (k:Int)+1=((k+1:Nat):Int) by omega,nr]) (fun p2 hp2 => ?_)
 refine pR (by wtm_at "hg") af ?_ (fun p3 hp3 => ?_)
 ·rw [List.length_take,List.length_drop,la]
  exact small (by omega)
 have s3:Same H (upd (upd (upd H p1 (.lst ((as.map V.ref).take k))) p2 (.lst ((as.map V.ref).drop (k+1)))) p3 (.lst ((as.map V.ref).take k++(as.map V.ref).drop (k+1)))):=by wtm_at "hs"
 have e33:At (upd (upd (upd H p1 (.lst ((as.map V.ref).take k))) p2 (.lst ((as.map V.ref).drop (k+1)))) p3 (.lst ((as.map V.ref).take k++(as.map V.ref).drop (k+1)))) p3 (.lst (((ns.take k++ns.drop (k+1)).map fun x=>V.ref x.1))):=by
  have:(as.map V.ref).take k++(as.map V.ref).drop (k+1)=(ns.take k++ns.drop (k+1)).map fun x=>V.ref x.1:=by
   rw [← e4,List.map_map,List.map_append,List.map_take,List.map_drop]
   rfl
  rw [this]
  exact af
 generalize upd (upd (upd H p1 (.lst ((as.map V.ref).take k))) p2 (.lst ((as.map V.ref).drop (k+1)))) p3 (.lst ((as.map V.ref).take k++(as.map V.ref).drop (k+1)))=H3 at *
 have n3:Nodes c H3 ns:=e3.kp (S:=[]) (Same.kp s3) (fun _ _ _ _ z=>by cases z)
 have sub:∀ x∈ns.take k++ns.drop (k+1),x∈ns:=fun x hx=>by
  rcases List.mem_append.mp hx with z | z
  ·exact List.mem_of_mem_take z
  ·exact List.mem_of_mem_drop z
 wtm_at "wp"
 refine bF ?_
 wtm_at "wp"
 refine fM (wg ns name) (At.sqL e33) ?_ (fun i x H' R hx s4 hR => ?_) (fun D Hf s4 fD eD => ?_)
 ·rw [List.length_map,List.length_append,List.length_take,List.length_drop]
  have:=congrArg List.length e4
  rw [List.length_map] at this
  exact small (by omega)
 ·rw [List.getElem?_map] at hx
  cases hq:(ns.take k++ns.drop (k+1))[i]? with
  | none=>rw [hq] at hx;cases hx
  | some y=>
   rw [hq] at hx
   have hx':V.ref y.1=x:=Option.some.inj hx
   subst hx'
   have hy:=sub y (List.mem_of_getElem? hq)
   have hn:=(n3.at_ y hy).same s4
   show kq _ _ _ _ _ _ _ [some (.int name),some (.ref y.1)] _ _
   obtain ⟨⟨nx,sv,eo,es⟩,_⟩:=id hn
   wtm_at "wp"
   refine ⟨_,_,rfl,y.1,y.2.1,y.2.2,name,rfl,rfl,hn,hfew _ (by rw [← e5];exact List.mem_map.mpr ⟨y,hy,rfl⟩),fun H5 s5 => ?_⟩
   have:=hR H5 s5
   rw [nN n3 hy] at this
   exact this
 have eD':Hf D=some (.lst (((ns.take k++ns.drop (k+1)).map fun x=>decide (name∈x.2.2.qu.map (·.1))).map V.bl)):=by
  rw [eD,List.map_map,List.map_map]
  congr 2
  apply List.map_congr_left
  intro x hx
  exact nN n3 (sub x hx)
 wtm_at "wp"
 refine ⟨D,_,rfl,eD',?_⟩
 wtm_at "wp"
 have:=q Hf (s3.trans s4)
 unfold bI at this
 rw [← e5,← List.map_take,← List.map_drop,← List.map_append,List.any_map] at this
 rw [List.any_map]
 exact this
theorem BusAt.set {c:Cs} {H H':Hp} {b:Addr} {F as:List Addr} {ds:List Nd} {t:Nat} {k:Nat} {n:Addr} {A A':NA} {d d':Nd} {dx l:Addr} {o:Obj} {ns:List NE} (e1:At H b (.ins c.U dx (buF (.ref l) (.int (t:Nat))))) (e2:At H l (.frz o (.lst (as.map V.ref)))) (e3:Nodes c H ns) (e4:ns.map (·.1)=as) (e5:ns.map (·.2.2)=ds)
  (e6:F=fpB b ns) (e7:b∉ns.flatMap fpE) (en:ns[k]? = some (n,A,d)) (kk:Kp (fpN n A) H H') (h':NdAt c H' n A' d') (f:∀ x∈fpN n A',x∈fpN n A∨aK H x) :
  BusAt c H' b (fpB b (ns.set k (n,A',d'))) as (ds.set k d') t∧Kp F H H'∧(∀ x∈fpB b (ns.set k (n,A',d')),x∈F∨aK H x) ∧
   At H' b (.ins c.U dx (buF (.ref l) (.int (t:Nat))))∧At H' l (.frz o (.lst (as.map V.ref)))∧Nodes c H' (ns.set k (n,A',d'))∧b∉(ns.set k (n,A',d')).flatMap fpE:=by
 have sub:=uu en
 have hb:b∉fpN n A:=fun z=>e7 (sub b z)
 have a1:=kk.get hb e1
 have a2:=kk.frz e2
 have a3:=e3.setAt en kk h' f
 have a4:(ns.set k (n,A',d')).map (·.1)=as:=by
  rw [← e4,List.map_set]
  apply List.ext_getElem?
  intro i
  rw [List.getElem?_set]
  split
  ·rename_i z
   subst z
   have:(ns.map (·.1))[k]? = some n:=by rw [List.getElem?_map,en];rfl
   have hlt:=(List.getElem?_eq_some_iff.mp this).1
   rw [if_pos hlt,this]
  ·rfl
 have a5:(ns.set k (n,A',d')).map (·.2.2)=ds.set k d':=by rw [← e5,List.map_set]
 have a7:b∉(ns.set k (n,A',d')).flatMap fpE:=fun z=>by
  rcases ut en f b z with y | y
  ·exact e7 y
  ·exact (aA y e1) rfl
 refine ⟨⟨dx,l,o,_,a1,a2,a3,a4,a5,rfl,a7⟩,kk.mono (fun x hx=>by rw [e6];exact List.mem_cons_of_mem _ (sub x hx)),fun x hx => ?_,a1,a2,a3,a7⟩
 rcases List.mem_cons.mp hx with z | z
 ·exact .inl (by rw [e6,z];exact List.mem_cons_self)
 ·rcases ut en f x z with y | y
  ·exact .inl (by rw [e6];exact List.mem_cons_of_mem _ y)
  ·exact .inr y
theorem wj {ns:List NE} {ds:List Nd} {k:Nat} {d:Nd} (e5:ns.map (·.2.2)=ds) (hk:ds[k]? = some d):∃ n A,ns[k]? = some (n,A,d):=by
 rw [← e5,List.getElem?_map] at hk
 cases q:ns[k]? with
 | none=>rw [q] at hk;cases hk
 | some x=>
  obtain ⟨n,A,d'⟩:=x
  rw [q] at hk
  have e':d'=d:=Option.some.inj hk
  subst e'
  exact ⟨n,A,rfl⟩
def rM {α:Type} (f:α→α) (i:Nat) (ds:List α):List α:=(ds.take i).map f++ds.drop i
theorem lM {α:Type} (f:α→α) (ds:List α):rM f 0 ds=ds:=by simp [rM]
theorem nO {α:Type} (f:α→α) (ds:List α):rM f ds.length ds=ds.map f:=by simp [rM]
theorem rF {α:Type} (f:α→α) {ds:List α} {i:Nat} {d:α} (h:ds[i]? = some d):(rM f i ds)[i]? = some d∧(rM f i ds).set i (f d)=rM f (i+1) ds:=by
 obtain ⟨hi,e⟩:=List.getElem?_eq_some_iff.mp h
 have hl:((ds.take i).map f).length=i:=by rw [List.length_map,List.length_take];omega
 unfold rM
 constructor
 ·rw [List.getElem?_append_right (by omega),hl,Nat.sub_self,List.getElem?_drop]
  simpa using h
 ·rw [List.set_append_right _ _ (by omega),hl,Nat.sub_self,List.drop_eq_getElem_cons hi,e,List.set_cons_zero,List.take_succ_eq_append_getElem hi,List.map_append,e]
  simp
theorem wk {l:List Int} {m:Int} (hb:Bits l) (h1:m∈l) (h2:∀ x∈l,m≤x):m=if 0∈l then 0 else 1:=by
 split
 ·rename_i z
  have:=h2 0 z
  rcases hb m h1 with y | y <;> omega
 ·rename_i z
  rcases hb m h1 with y | y
  ·exact absurd (y ▸ h1) z
  ·exact y
def Aj (ns:List NE) (v:V):V:=match v with
 | .ref a=>match ns.find? (fun x=>x.1 == a) with
  | some x => .int x.2.2.put
  | none => .non
 | _ => .non
theorem rG {c:Cs} {H:Hp} {ns:List NE} (h:Nodes c H ns) {x:NE} (hx:x∈ns):Aj ns (.ref x.1) = .int x.2.2.put:=by
 cases e:ns.find? (fun y=>y.1 == x.1) with
 | none=>
  have:=List.find?_eq_none.mp e x hx
  simp at this
 | some y=>
  have h1:=List.mem_of_find?_eq_some e
  have h2:=List.find?_some e
  have:y=x:=h.inj h1 hx (by simpa using h2)
  rw [this] at e
  simp only [Aj,e]
abbrev yv:Stmt:=(top 50)
abbrev wl (K:PySem.W.Frag) (c:Cs):Sp:=sp4 fun u v w x H Q E=>∃ (b a:Addr) (F as:List Addr) (ds:List Nd) (t:Nat) (i name:Int) (row:List Int),u = .ref b∧v = .int i∧w = .int name∧x = .ref a∧BusAt c H b F as ds t∧as.length≤8∧(∀ d∈ds,d.qu.length≤900)∧SqL K H a (row.map V.int) ∧
 i.natAbs.log2 < 1920∧name.natAbs.log2 < 1920∧(∀ b∈row,b.natAbs.log2 < 1920) ∧
 (¬ (0≤i∧i < as.length)→E (.ref c.N) none H) ∧
 (∀ k d,i=(k:Nat)→ds[k]? = some d→(¬ eE name row→E (.ref c.F) none H)∧(eE name row→bI ds k name=true→∀ H',Same H H'→E (.ref c.F) none H') ∧
  (eE name row→bI ds k name=false→wf c H b F as (ds.set k (d.letWait (name,row))) t .non Q))
theorem sc_send:FnScope ["bus", "node", "name", "row", "sender"] ["bus", "node", "name", "row"] (ag yv):=aU
theorem wm (T:Txt K mg c):g9 P w K mg base (CXe P w) 3 "send" ["bus", "node", "name", "row"] (wl K c):=by
 refine T.d_send.okE sc_send (fun _ _ _ _ _ _ us hl=>match us,hl with | [_,_,_,_],_=>rfl) AO (fun f cdv A outer s H vs Q E hr h => ?_)
 obtain ⟨v0,v1,v2,v3,rfl,h⟩:=h
 refine ⟨_,(ae (aN (i:=4) sc_send.nd rfl (.inl rfl) (eJ T.k_Bus (bO T) hr (l8 (E:=E) (fun _ _ _ z=>z)) (pv 0) (aa (pv 1) ac)))
   (ae (ay (cv (ci T) hr (l8 (E:=E) (fun _ _ _ z=>z)) (aa (pv 2) (aa (pv 3) ac))))
   (ae (aZ (cC (cv (gr T) hr az (aa (pv 0) (aa (pv 1) (aa (pv 2) ac)))))
    (ad (fJ (E:=E) (fun pins σ H s h' e vs I hx hE=>fI I hx hE) PySem.F.excBase_ValueError T.x_BadFrame rfl rfl T.m_BadFrame (aa (iD (t9 (xh (pv 2) (t9 kP)))) ac)))
    aD)
   (ad (ay (eJ T.k_Node (ib T) hr az (pv 4) (aa (pv 2) (aa (pv 3) ac)))))))),?_⟩
 try dsimp only [bt,Cx.nox,Cx.wish]
 refine aj (s2:=[some v0,some v1,some v2,some v3,none]) rfl ?_
 obtain ⟨b,a,F,as,ds,t,i,name,row,rfl,rfl,rfl,rfl,h,h8,hfew,hS,hli,hln,hlr,qn,qg⟩:=h
 obtain ⟨dx,l,o,ns,e1,e2,e3,e4,e5,e6,e7⟩:=h.ex
 have hlen:=h.len
 wtm_at "wp"
 refine ⟨b,F,as,ds,t,i,rfl,rfl,h,h8,hli,fun k n ek ea => ?_,qn⟩
 have hk:k < ds.length:=by
  have:=(List.getElem?_eq_some_iff.mp ea).1
  omega
 obtain ⟨g1,g2,g3⟩:=qg k ds[k] ek (List.getElem?_eq_getElem hk)
 subst ek
 wtm_at "wp"
 refine ⟨a,name,row,rfl,rfl,hS,hln,hlr,fun g => ?_,fun g=>g1 g⟩
 wtm_at "wp"
 refine ⟨b,F,as,ds,t,k,name,rfl,rfl,rfl,h,h8,hfew,fun H1 s1 => ?_⟩
 wtm_at "wp"
 cases hel:bI ds k name with
 | true=>
  wtm_at "wp"
  exact ⟨_,rfl,_,rfl,hln,fun y=>⟨(show 1≤100 by decide),g2 g hel H1 s1⟩⟩
 | false=>
  wtm_at "wp"
  have h1:=h.same s1
  obtain ⟨dx1,l1,o1,ns1,a1,a2,a3,a4,a5,a6,a7⟩:=h1.ex
  obtain ⟨n1,A1,en⟩:=wj a5 (List.getElem?_eq_getElem hk)
  have hn:=a3.nth en
  have:n1=n:=by
   have:(ns1.map (·.1))[k]? = some n1:=by rw [List.getElem?_map,en];rfl
   rw [a4,ea] at this
   exact (Option.some.inj this).symm
  subst this
  obtain ⟨⟨nx,sv,eo,es⟩,_⟩:=id hn
  wtm_at "wp"
  refine ⟨n1,a,A1,ds[k],name,row,rfl,rfl,rfl,hn,s1.seq hS,hfew _ (List.getElem_mem _),fun H2 A2 k2 h2 f2 => ?_⟩
  obtain ⟨b1,b2,b3,_⟩:=BusAt.set a1 a2 a3 a4 a5 a6 a7 en k2 h2 f2
  refine g3 g hel H2 _ ((Same.kp s1).trans b2) b1 (fun x hx => ?_)
  rcases b3 x hx with z | z
  ·exact .inl z
  ·exact .inr (s1.fr z)
abbrev yw:Stmt:=(top 51)
abbrev wn (K:PySem.W.Frag) (c:Cs):Sp:=sp2 fun u v H Q _=>∃ (b:Addr) (F as:List Addr) (ds:List Nd) (t:Nat) (flip:Int),u = .ref b∧v = .int flip∧BusAt c H b F as ds t∧as≠[]∧as.length≤8∧AllOk ds∧Few 900 4999 ds∧wf c H b F as (ap ds flip) (t+1) (.int (ao ds flip)) Q
theorem sc_step:FnScope ["bus", "flip", "node", "bit"] ["bus", "flip"] (ag yw):=aU
theorem wo (T:Txt K mg c):g9 P w K mg base CX0 10 "step" ["bus", "flip"] (wn K c):=by
 refine T.d_step.ok sc_step (fun _ _ _ _ _ _ us hl=>match us,hl with | [_,_],_=>rfl) gT (fun f cdv A outer s H vs Q E hr h => ?_)
 obtain ⟨v0,v1,rfl,h⟩:=h
 refine ⟨_,(di (cq PassesOwn.never rfl (aR (K:=K) (am (K:=K) (pv 0))) (bj (i:=2) sc_step.nd rfl (.inl rfl))
    (ad (ay (jV T.k_Node (dC T) hr az (pv 2)))))
   (ae (aN (i:=3) sc_step.nd rfl (.inl rfl) (aI (j1 rfl) rfl T.min PyProof.Rows.boot_min (aa (cz [] [] (aR (K:=K) (am (K:=K) (pv 0))) (fun fp s H=>(jV T.k_Node (mJ T) hr az (pv 0)))) ac)))
   (di (aZ (au cG (pv 1) ah (ax _))
    (ad (aN (i:=3) sc_step.nd rfl (.inl rfl) (aB iq ah (pv 3))))
    aD)
   (di (cq PassesOwn.never rfl (aR (K:=K) (am (K:=K) (pv 0))) (bj (i:=2) sc_step.nd rfl (.inl rfl))
    (ad (ay (eJ T.k_Node (lE T) hr az (pv 2) (aa (pv 3) ac)))))
   (ae (dJ (K:=K) (pv 0) ah mZ)
   (ad (aF (pv 3)))))))),?_⟩
 try dsimp only [bt,Cx.nox,Cx.wish]
 refine aj (s2:=[some v0,some v1,none,none]) rfl ?_
 obtain ⟨b,F,as,ds,t,flip,rfl,rfl,h,hne,h8,ok,few,q⟩:=h
 have hlen:=h.len
 have la:(as.map V.ref).length=as.length:=List.length_map _
 refine gU (fun σ H1=>∃ (v w:Option V) (F1:List Addr),σ=[some (.ref b),some (.int flip),v,w]∧Kp F H H1∧BusAt c H1 b F1 as (ds.map Nd.begin) t∧(∀ x∈F1,x∈F∨aK H x)) ?_ ?_
 ·refine cO ?_
  obtain ⟨dx,l,o,ns,e1,e2,e3,e4,e5,e6,e7⟩:=h.ex
  wtm_at "wp"
  refine bZ (xs:=as.map V.ref) (fun i σ H1=>∃ (v w:Option V) (F1:List Addr),σ=[some (.ref b),some (.int flip),v,w]∧Kp F H H1∧BusAt c H1 b F1 as (rM Nd.begin i ds) t∧(∀ x∈F1,x∈F∨aK H x)) (At.sqF e2)
   ⟨none,none,F,rfl,Kp.refl _ _,by rw [lM];exact h,fun x hx => .inl hx⟩ (fun i σ H1 _ ⟨_,_,_,_,k1,_⟩=>At.sqF (k1.frz e2)) ?_ ?_
  ·rintro i y σ H1 hi ⟨v,w,F1,rfl,k1,h1,f1⟩
   rw [List.getElem?_map] at hi
   cases ha:as[i]? with
   | none=>rw [ha] at hi;cases hi
   | some n=>
    rw [ha] at hi
    cases hi
    have hid:i < ds.length:=by
     have:=(List.getElem?_eq_some_iff.mp ha).1
     omega
    obtain ⟨u1,u2⟩:=rF Nd.begin (List.getElem?_eq_getElem hid)
    obtain ⟨dx1,l1,o1,ns1,a1,a2,a3,a4,a5,a6,a7⟩:=h1.ex
    obtain ⟨n1,A1,en⟩:=wj a5 u1
    have:n1=n:=by
     have:(ns1.map (·.1))[i]? = some n1:=by rw [List.getElem?_map,en];rfl
     rw [a4,ha] at this
     exact (Option.some.inj this).symm
    subst this
    have hn:=a3.nth en
    obtain ⟨⟨nx,sv,eo,es⟩,_⟩:=id hn
    wtm_at "wp"
    refine ⟨n1,A1,ds[i],rfl,hn,ok _ (List.getElem_mem _),fun H2 A2 k2 h2 f2 => ?_⟩
    obtain ⟨b1,b2,b3,_⟩:=BusAt.set a1 a2 a3 a4 a5 a6 a7 en k2 h2 f2
    rw [u2] at b1
    wtm_at "wp"
    refine ⟨_,_,_,rfl,⟨fun x o hx e => ?_,fun x o im e=>b2.im x o im (k1.im x o im e)⟩,b1,fun x hx => ?_⟩
    ·refine b2.ot x o (fun z => ?_) (k1.ot x o hx e)
     rcases f1 x z with y | y
     ·exact hx y
     ·exact (aA y e) rfl
    ·rcases b3 x hx with z | z
     ·exact f1 x z
     ·by_cases y:x∈F
      ·exact .inl y
      ·exact .inr (k1.fr y z)
  ·rintro σ H1 ⟨v,w,F1,rfl,k1,h1,f1⟩
   rw [la,hlen,nO] at h1
   exact ⟨_,_,F1,rfl,k1,h1,f1⟩
 rintro σ H1 ⟨v1,w1,F1,rfl,k1,h1,f1⟩
 have ok1:AllOk (ds.map Nd.begin):=fun d hd=>by
  obtain ⟨e,he,rfl⟩:=List.mem_map.mp hd
  exact (ok e he).begin
 have few1:∀ d∈ds.map Nd.begin,d.tk.length≤5000∧d.qu.length≤900:=fun d hd=>by
  obtain ⟨e,he,rfl⟩:=List.mem_map.mp hd
  obtain ⟨b1,b2⟩:=jE e
  rw [b1,b2]
  have:=few e he
  exact ⟨by omega,this.1⟩
 have hl1:(ds.map Nd.begin).length=as.length:=by rw [List.length_map];omega
 obtain ⟨dx,l,o,ns,e1,e2,e3,e4,e5,e6,e7⟩:=h1.ex
 wtm_at "wp"
 refine bF ?_
 wtm_at "wp"
 refine fM (Aj ns) (At.sqF e2) (by rw [la];exact small (by omega)) (fun i x H' R hx s2 hR => ?_) (fun D H2 s2 fD eD => ?_)
 ·rw [← e4,List.map_map,List.getElem?_map] at hx
  cases hq:ns[i]? with
  | none=>rw [hq] at hx;cases hx
  | some y=>
   rw [hq] at hx
   have hx':V.ref y.1=x:=Option.some.inj hx
   subst hx'
   have hy:=List.mem_of_getElem? hq
   have hn:=(e3.at_ y hy).same s2
   show kq _ _ _ _ _ _ _ [some (.ref y.1)] _ _
   obtain ⟨⟨nx,sv,eo,es⟩,_⟩:=id hn
   wtm_at "wp"
   refine ⟨_,rfl,y.1,y.2.1,y.2.2,rfl,hn,ok1 _ (by rw [← e5];exact List.mem_map.mpr ⟨y,hy,rfl⟩),fun H5 s5 => ?_⟩
   have:=hR H5 s5
   rw [rG e3 hy] at this
   exact this
 have eD':H2 D=some (.lst (((ds.map Nd.begin).map Nd.put).map V.int)):=by
  rw [eD,← e4,← e5,List.map_map,List.map_map,List.map_map,List.map_map]
  congr 2
  apply List.map_congr_left
  intro x hx
  exact rG e3 hx
 have bp:Bits ((ds.map Nd.begin).map Nd.put):=fun x hx=>by
  obtain ⟨e,he,rfl⟩:=List.mem_map.mp hx
  exact (ok1 e he).put_bit
 wtm_at "wp"
 refine ⟨D,_,rfl,eD',?_,fun m m1 m2 => ?_⟩
 ·intro z
  have:=congrArg List.length z
  rw [List.length_map,hl1] at this
  exact hne (List.length_eq_zero_iff.mp this)
 have em:m=bf (ds.map Nd.begin):=wk bp m1 m2
 have h2:=h1.same s2
 have k2:Kp F H H2:=k1.trans (Same.kp s2)
 have f2:∀ x∈F1,x∈F∨aK H x:=f1
 wtm_at "wp"
 refine gU (fun σ H3=>∃ v:Option V,σ=[some (.ref b),some (.int flip),v,some (.int (ao ds flip))]∧H3=H2) ?_ ?_
 ·wtm_at "wp"
  refine aO (fun c1 => ?_) (fun c1 => ?_)
  ·wtm_at "wp"
   refine ⟨v1,?_,rfl⟩
   unfold ao
   rw [if_pos c1,em]
  ·wtm_at "wp"
   refine ⟨v1,?_,rfl⟩
   unfold ao
   rw [if_neg c1,em]
 rintro σ H3 ⟨v3,rfl,rfl⟩
 have hbit:=eP ds flip
 clear m1 m2 em eD eD'
 have e2':=s2.get e2
 refine gU (fun σ H4=>∃ (v:Option V) (F4:List Addr),σ=[some (.ref b),some (.int flip),v,some (.int (ao ds flip))]∧Kp F H H4∧BusAt c H4 b F4 as (ap ds flip) t∧(∀ x∈F4,x∈F∨aK H x)) ?_ ?_
 ·refine cO ?_
  obtain ⟨dx2,l2,o2,ns2,q1,q2,q3,q4,q5,q6,q7⟩:=h2.ex
  wtm_at "wp"
  refine bZ (xs:=as.map V.ref) (fun i σ H4=>∃ (v:Option V) (F4:List Addr),σ=[some (.ref b),some (.int flip),v,some (.int (ao ds flip))]∧Kp F H H4∧At H4 l2 (.frz o2 (.lst (as.map V.ref)))∧BusAt c H4 b F4 as (rM (fun d=>d.hear (ao ds flip)) i (ds.map Nd.begin)) t∧(∀ x∈F4,x∈F∨aK H x)) (At.sqF q2)
   ⟨_,F1,rfl,k2,q2,by rw [lM];exact h2,f2⟩ (fun i σ H4 _ ⟨_,_,_,_,z,_⟩=>At.sqF z) ?_ ?_
  ·rintro i y σ H4 hi ⟨v,F4,rfl,k4,z4,h4,f4⟩
   rw [List.getElem?_map] at hi
   cases ha:as[i]? with
   | none=>rw [ha] at hi;cases hi
   | some n=>
    rw [ha] at hi
    cases hi
    have hid:i < (ds.map Nd.begin).length:=by
     have:=(List.getElem?_eq_some_iff.mp ha).1
     omega
    obtain ⟨u1,u2⟩:=rF (fun d=>d.hear (ao ds flip)) (List.getElem?_eq_getElem hid)
    obtain ⟨dx4,l4,o4,ns4,a1,a2,a3,a4,a5,a6,a7⟩:=h4.ex
    obtain ⟨n1,A1,en⟩:=wj a5 u1
    have:n1=n:=by
     have:(ns4.map (·.1))[i]? = some n1:=by rw [List.getElem?_map,en];rfl
     rw [a4,ha] at this
     exact (Option.some.inj this).symm
    subst this
    have hn:=a3.nth en
    obtain ⟨⟨nx,sv,eo,es⟩,_⟩:=id hn
    have hd:=List.getElem_mem hid
    wtm_at "wp"
    refine ⟨n1,A1,_,_,rfl,rfl,hn,ok1 _ hd,hbit,(few1 _ hd).1,(few1 _ hd).2,fun H5 A5 k5 h5 f5 => ?_⟩
    obtain ⟨b1,b2,b3,_⟩:=BusAt.set a1 a2 a3 a4 a5 a6 a7 en k5 h5 f5
    rw [u2] at b1
    wtm_at "wp"
    refine ⟨_,_,rfl,⟨fun x o hx e => ?_,fun x o im e=>b2.im x o im (k4.im x o im e)⟩,b2.frz z4,b1,fun x hx => ?_⟩
    ·refine b2.ot x o (fun z => ?_) (k4.ot x o hx e)
     rcases f4 x z with y | y
     ·exact hx y
     ·exact (aA y e) rfl
    ·rcases b3 x hx with z | z
     ·exact f4 x z
     ·by_cases y:x∈F
      ·exact .inl y
      ·exact .inr (k4.fr y z)
  ·rintro σ H4 ⟨v,F4,rfl,k4,z4,h4,f4⟩
   rw [la,← hl1,nO] at h4
   exact ⟨_,F4,rfl,k4,h4,f4⟩
 rintro σ H4 ⟨v4,F4,rfl,k4,h4,f4⟩
 obtain ⟨dx4,l4,o4,ns4,a1,a2,a3,a4,a5,a6,a7⟩:=h4.ex
 wtm_at "wp"
 have kb:Kp [b] H4 (upd H4 b (.ins c.U dx4 (buF (.ref l4) (.int ((t:Int)+1))))):=(Kp.refl _ _).upd (by simp) a1 (fun z=>z)
 refine q _ F4 ⟨fun x o hx e => ?_,fun x o im e=>kb.im x o im (k4.im x o im e)⟩ ⟨dx4,l4,o4,ns4,?_,kb.frz a2,a3.kp kb (fun z hz a ha=>aH (fun y=>a7 (by rw [← y];exact List.mem_flatMap.mpr ⟨z,hz,ha⟩))),a4,a5,a6,a7⟩ f4
 ·refine kb.ot x o (aH (fun z => ?_)) (k4.ot x o hx e)
  subst z
  have hF:x∈F:=by
   obtain ⟨_,_,_,_,_,_,_,_,_,e6,_⟩:=h.ex
   rw [e6]
   exact List.mem_cons_self
  exact hx hF
 ·rw [show ((t+1:Nat):Int)=(t:Int)+1 by omega]
  exact af
abbrev Ak:Stmt:=(top 52)
abbrev yx (K:PySem.W.Frag) (c:Cs):Sp:=sp2 fun u v H Q _=>∃ (b a:Addr) (F as:List Addr) (ds:List Nd) (t:Nat) (fl:List Int),u = .ref b∧v = .ref a∧BusAt c H b F as ds t∧as≠[]∧as.length≤8∧AllOk ds∧(∃ n,Few 900 n ds∧n+fl.length≤4999)∧SqL K H a (fl.map V.int)∧(∀ xs,At H a (.lst xs)→a∉F) ∧
 (∀ D H' F',Kp F H H'→aK H D→At H' D (.lst ((iO ds fl).map V.int))→D∉F'→BusAt c H' b F' as (bA ds fl) (t+fl.length)→(∀ x∈F',x∈F∨aK H x)→Q (.ref D) H')
theorem yy:FnScope ["bus", "flips"] ["bus", "flips"] (ag Ak):=aU
theorem nP (T:Txt K mg c):g9 P w K mg base CX0 11 "run" ["bus", "flips"] (yx K c):=by
 refine T.d_run.ok yy (fun _ _ _ _ _ _ us hl=>match us,hl with | [_,_],_=>rfl) gT (fun f cdv A outer s H vs Q E hr h => ?_)
 obtain ⟨v0,v1,rfl,h⟩:=h
 refine ⟨_,(ad (aF (cz ["bus"] [0] (aR (K:=K) (pv 1)) (fun fp s H=>(cv (wo T) hr az (aa (pv 0) (aa (pv 1) ac))))))),?_⟩
 try dsimp only [bt,Cx.nox,Cx.wish]
 refine aj (s2:=[some v0,some v1]) rfl ?_
 obtain ⟨b,a,F,as,ds,t,fl,rfl,rfl,h,hne,h8,ok,⟨n0,few,hn0⟩,hS,hF,q⟩:=h
 have lf:(fl.map V.int).length=fl.length:=List.length_map _
 wtm_at "wp"
 refine bF ?_
 wtm_at "wp"
 have hS':∀ H2,Kp F H H2→SqL K H2 a (fl.map V.int):=fun H2 k=>by
  rcases hS with (z | ⟨ob,z⟩) | z
  ·exact .inl (.inl (k.ot _ _ (hF _ z) z))
  ·exact .inl (.inr ⟨ob,k.im _ _ trivial z⟩)
  ·exact .inr z
 refine fP (xs:=fl.map V.int) (fun D i ys H2=>∃ F2,Kp F H H2∧aK H D∧At H2 D (.lst ys)∧ys=(iO ds (fl.take i)).map V.int∧ys.length≤i∧D∉F2∧BusAt c H2 b F2 as (bA ds (fl.take i)) (t+i)∧(∀ x∈F2,x∈F∨aK H x)) hS (by rw [lf];exact Nat.le_of_lt (gK (by omega))) (fun D hD => ?_) (fun D i ys H2 hi ⟨F2,k2,fD,eD,ey,hl,nD,h2,f2⟩=>⟨eD,hS' H2 k2,hl⟩) (fun D i x ys H2 hx ⟨F2,k2,fD,eD,ey,hl,nD,h2,f2⟩ => ?_) (fun D ys H2 ⟨F2,k2,fD,eD,ey,hl,nD,h2,f2⟩ => ?_)
 ·refine ⟨F,Same.kp (aq hD _),hD,af,rfl,Nat.le_refl _,fun z => ?_,h.same (aq hD _),fun x hx => .inl hx⟩
  obtain ⟨o,e,_⟩:=h.live D z
  exact (aA hD e) rfl
 ·obtain ⟨f,hf,rfl⟩:=cA hx
  have hi:i < fl.length:=(List.getElem?_eq_some_iff.mp hf).1
  show pi _ _ _ _ [some (.ref b),some (.int f)] _ _
  wtm_at "wp"
  have few2:Few 900 4999 (bA ds (fl.take i)):=(few.run (fl.take i)).mono (Nat.le_refl _) (by rw [List.length_take];omega)
  refine ⟨_,_,rfl,b,F2,as,_,_,f,rfl,rfl,h2,hne,h8,ok.run _,few2,fun H3 F3 k3 h3 f3 => ?_⟩
  have eD3:At H3 D (.lst ys):=k3.get nD eD
  have nD3:D∉F3:=fun z=>by
   rcases f3 D z with y | y
   ·exact nD y
   ·exact (aA y eD) rfl
  have kD:Kp [D] H3 (upd H3 D (.lst (ys++[.int (ao (bA ds (fl.take i)) f)]))):=(Kp.refl _ _).upd (by simp) eD3 (fun z=>z)
  have ff:∀ x∈F3,x∈F∨aK H x:=fun x hx=>by
   rcases f3 x hx with z | z
   ·exact f2 x z
   ·by_cases y:x∈F
    ·exact .inl y
    ·exact .inr (k2.fr y z)
  refine j2 (by rw [lf];exact hi) eD3 ⟨F3,⟨fun x o hx e => ?_,fun x o im e=>kD.im x o im (k3.im x o im (k2.im x o im e))⟩,fD,af,?_,by rw [List.length_append,List.length_singleton];omega,nD3,?_,ff⟩
  ·refine kD.ot x o (aH (fun z => ?_)) (k3.ot x o (fun z => ?_) (k2.ot x o hx e))
   ·subst z
    exact (aA fD e) rfl
   ·rcases f2 x z with y | y
    ·exact hx y
    ·exact (aA y e) rfl
  ·rw [aY hf,ll,List.map_append,← ey]
   rfl
  ·rw [aY hf,mr,show t+(i+1)=t+i+1 by omega]
   exact h3.kp kD (fun x hx=>aH (fun z=>nD3 (z ▸ hx)))
 ·rw [lf,List.take_of_length_le (Nat.le_refl _)] at h2 ey
  rw [ey] at eD
  exact q D H2 F2 k2 fD eD nD h2 f2
abbrev mS:Stmt:=(top 54)
abbrev lN (K:PySem.W.Frag) (c:Cs):Sp:=sp2 fun u v H Q _=>∃ (a:Addr) (ns:List Int) (k:Int),u = .ref a∧v = .int k∧SqL K H a (ns.map V.int)∧∀ v:Int,Q (.int v) H
theorem lO:FnScope ["_law_script", "_law_k"] ["_law_script", "_law_k"] (ag mS):=aU
theorem lP (T:Txt K mg c):g9 P w K mg base CX0 1 "_law_cell" ["_law_script", "_law_k"] (lN K c):=by
 refine T.d__law_cell.ok lO (fun _ _ _ _ _ _ us hl=>match us,hl with | [_,_],_=>rfl) gT (fun f cdv A outer s H vs Q E hr h => ?_)
 obtain ⟨v0,v1,rfl,h⟩:=h
 refine ⟨_,(ae (aZ (vD (K:=K) (pv 0) (fun _=>rfl))
    (ad (aF (bR (br (K:=K)) (pv 0) (aB bQ (pv 1) (aI (aJ (K:=K)) rfl T.len PySem.boot_len (aa (pv 0) ac))) (fun _ _=>rfl))))
    aD)
   (ad (aF ah))),?_⟩
 try dsimp only [bt,Cx.nox,Cx.wish]
 refine aj (s2:=[some v0,some v1]) rfl ?_
 obtain ⟨a,ns,k,rfl,rfl,hS,q⟩:=h
 wtm_at "wp"
 cases ns with
 | nil=>exact wv (q 0)
 | cons n ns=>
  refine sh ?_
  wtm_at "wp"
  have hl:0 < ((((n :: ns).map V.int).length:Nat):Int):=by rw [List.length_map,List.length_cons];omega
  have hm:=Int.emod_nonneg k (show ((((n :: ns).map V.int).length:Nat):Int)≠0 by omega)
  have hm2:=Int.emod_lt_of_pos k hl
  have hi:(k % ((((n :: ns).map V.int).length:Nat):Int)).toNat < (n :: ns).length:=by
   rw [List.length_map] at *
   omega
  have he:atI ((n :: ns).map V.int) (k % ((((n :: ns).map V.int).length:Nat):Int))=some (.int ((n :: ns).getD (k % ((((n :: ns).map V.int).length:Nat):Int)).toNat 0)):=by
   have e:k % ((((n :: ns).map V.int).length:Nat):Int)=(((k % ((((n :: ns).map V.int).length:Nat):Int)).toNat:Nat):Int):=by omega
   have h:=iG hi
   rw [← e] at h
   exact h
  refine AN hl ?_
  exact cr hS he (q _)
abbrev oR:Stmt:=(top 55)
abbrev mT (K:PySem.W.Frag) (c:Cs):Sp:=sp2 fun u v H Q _=>∃ (a:Addr) (ns:List Int) (k:Int),u = .ref a∧v = .int k∧SqL K H a (ns.map V.int)∧∀ v:Int,0≤v→v < 4294967231→Q (.int v) H
theorem sc__law_mix:FnScope ["_law_script", "_law_k", "_law_number"] ["_law_script", "_law_k"] (ag oR):=aU
theorem bg (T:Txt K mg c):g9 P w K mg base CX0 2 "_law_mix" ["_law_script", "_law_k"] (mT K c):=by
 refine T.d__law_mix.ok sc__law_mix (fun _ _ _ _ _ _ us hl=>match us,hl with | [_,_],_=>rfl) gT (fun f cdv A outer s H vs Q E hr h => ?_)
 obtain ⟨v0,v1,rfl,h⟩:=h
 refine ⟨_,(ae (aN (i:=2) sc__law_mix.nd rfl (.inl rfl) (aB bQ (aB bC (cv (lP T) hr az (aa (pv 0) (aa (pv 1) ac))) (aB eA ah (aB bC (pv 1) ah))) ah))
   (ae (aN (i:=2) sc__law_mix.nd rfl (.inl rfl) (aB bQ (aB eA (pv 2) ah) ah))
   (ad (aF (aB bQ (aB bC (aB eA (aB da (pv 2) ah) ah) (pv 2)) ah))))),?_⟩
 try dsimp only [bt,Cx.nox,Cx.wish]
 refine aj (s2:=[some v0,some v1,none]) rfl ?_
 obtain ⟨a,ns,k,rfl,rfl,hS,q⟩:=h
 wtm_at "wp"
 refine ⟨a,ns,k,rfl,rfl,hS,fun v => ?_⟩
 wtm_at "wp"
 exact q _ (Int.emod_nonneg _ (by decide)) (Int.emod_lt_of_pos _ (by decide))
theorem Al (n:Int) (h0:0≤n):∃ v:Int,atI [V.int 0,.int 1,.int 2047,.int 1024,.int (n / 7 % 2048),.int (n / 7 % 8)] (n % 6)=some (.int v)∧0≤v∧v≤2047:=by
 have:n % 6=0∨n % 6=1∨n % 6=2∨n % 6=3∨n % 6=4∨n % 6=5:=by omega
 rcases this with e | e | e | e | e | e <;> rw [e] <;> exact ⟨_,rfl,by omega,by omega⟩
theorem Am (n:Int) (h0:0≤n):∃ v:Int,atI [V.int 0,.int 255,.int (n / 4 % 256),.int 31] (n % 4)=some (.int v)∧0≤v∧v≤255:=by
 have:n % 4=0∨n % 4=1∨n % 4=2∨n % 4=3:=by omega
 rcases this with e | e | e | e <;> rw [e] <;> exact ⟨_,rfl,by omega,by omega⟩
abbrev lQ:Stmt:=(top 57)
abbrev kh (K:PySem.W.Frag) (c:Cs):Sp:=sp3 fun u v w H Q _=>∃ (a:Addr) (ns:List Int) (k:Int) (m:Nat),u = .ref a∧v = .int k∧w = .int m∧SqL K H a (ns.map V.int)∧m≤8∧(∀ name row t r H',Same H H'→aK H t→aK H r→At H' t (.tup [.int name,.ref r])→At H' r (.lst (row.map V.int))→eE name row→row.length≤m→Q (.ref t) H')
theorem sc__law_frame:FnScope ["_law_script", "_law_k", "_law_most", "_law_number", "_law_name", "_law_row", "_law_j", "_law_byte"] ["_law_script", "_law_k", "_law_most"] (ag lQ):=aU
theorem ki (T:Txt K mg c):g9 P w K mg base CX0 3 "_law_frame" ["_law_script", "_law_k", "_law_most"] (kh K c):=by
 refine T.d__law_frame.ok sc__law_frame (fun _ _ _ _ _ _ us hl=>match us,hl with | [_,_,_],_=>rfl) yN (fun f cdv A outer s H vs Q E hr h => ?_)
 obtain ⟨v0,v1,v2,rfl,h⟩:=h
 refine ⟨_,(ae (aN (i:=3) sc__law_frame.nd rfl (.inl rfl) (cv (bg T) hr az (aa (pv 0) (aa (pv 1) ac))))
   (ae (aN (i:=4) sc__law_frame.nd rfl (.inl rfl) (bR (br (K:=K)) (bn (aa ah (aa ah (aa ah (aa ah (aa (aB bQ (aB da (pv 3) ah) ah) (aa (aB bQ (aB da (pv 3) ah) ah) ac))))))) (aB bQ (pv 3) ah) (fun _ _=>rfl)))
   (ae (aN (i:=5) sc__law_frame.nd rfl (.inl rfl) (bn ac))
   (ae (cq PassesOwn.never rfl (bP rfl T.range (aa (aB bQ (aB da (pv 3) ah) (aB bC (pv 2) ah)) ac)) (bj (i:=6) sc__law_frame.nd rfl (.inl rfl))
    (ae (aN (i:=7) sc__law_frame.nd rfl (.inl rfl) (cv (bg T) hr az (aa (pv 0) (aa (aB bC (aB bC (pv 1) ah) (pv 6)) ac))))
    (ad (ay (cw (K:=K) PySem.F.plainAttrs_list PySem.F.slot_list_append PySem.F.type_list_append bD (pv 5) (aa (bR (br (K:=K)) (bn (aa ah (aa ah (aa (aB bQ (aB da (pv 7) ah) ah) (aa ah ac))))) (aB bQ (pv 7) ah) (fun _ _=>rfl)) ac))))))
   (ad (aF (ce (aa (pv 4) (aa (pv 5) ac))))))))),?_⟩
 try dsimp only [bt,Cx.nox,Cx.wish]
 refine aj (s2:=[some v0,some v1,some v2,none,none,none,none,none]) rfl ?_
 obtain ⟨a,ns,k,m,rfl,rfl,rfl,hS,hm,q⟩:=h
 wtm_at "wp"
 refine ⟨a,ns,k,rfl,rfl,hS,fun n h0 h1 => ?_⟩
 wtm_at "wp"
 refine ⟨small (show 6≤1000 by decide),fun p hp => ?_⟩
 wtm_at "wp"
 obtain ⟨name,hname,hn0,hn1⟩:=Al n h0
 refine cr (by wtm_at "hg") hname ?_
 wtm_at "wp"
 refine ⟨small (show 0≤1000 by decide),fun r hr0 => ?_⟩
 have hrH:aK H r:=by wtm_at "hf"
 have s2:Same H (upd (upd H p (.lst [.int 0,.int 1,.int 2047,.int 1024,.int (n / 7 % 2048),.int (n / 7 % 8)])) r (.lst [])):=by wtm_at "hs"
 have e2:At (upd (upd H p (.lst [.int 0,.int 1,.int 2047,.int 1024,.int (n / 7 % 2048),.int (n / 7 % 8)])) r (.lst [])) r (.lst (([]:List Int).map V.int)):=af
 generalize upd (upd H p (.lst [.int 0,.int 1,.int 2047,.int 1024,.int (n / 7 % 2048),.int (n / 7 % 8)])) r (.lst [])=H2 at *
 wtm_at "wp"
 refine iF ?_
 wtm_at "wp"
 refine fL (n / 20000 % ((m:Int)+1)).toNat (fun i σ H3=>∃ (row:List Int) (v w:Option V),σ=[some (.ref a),some (.int k),some (.int m),some (.int n),some (.int name),some (.ref r),v,w]∧Same H H3∧At H3 r (.lst (row.map V.int))∧row.length=i∧∀ b∈row,0≤b∧b≤255) rfl ?_
  ⟨[],none,none,rfl,s2,e2,rfl,fun b hb=>by simp at hb⟩ ?_ ?_
 ·have:=Int.emod_nonneg (n / 20000) (show (m:Int)+1≠0 by omega)
  have:=Int.emod_lt_of_pos (n / 20000) (show 0 < (m:Int)+1 by omega)
  omega
 ·rintro i σ H3 hi ⟨row,v,w,rfl,s3,e3,hl,hb⟩
  have hi9:i < 9:=by
   have:=Int.emod_lt_of_pos (n / 20000) (show 0 < (m:Int)+1 by omega)
   omega
  wtm_at "wp"
  refine ⟨a,ns,_,rfl,rfl,s3.seq hS,fun z z0 z1 => ?_⟩
  wtm_at "wp"
  refine ⟨small (show 4≤1000 by decide),fun p4 hp4 => ?_⟩
  wtm_at "wp"
  obtain ⟨y,hy,y0,y1⟩:=Am z z0
  refine cr (by wtm_at "hg") hy ?_
  wtm_at "wp"
  refine bE (aC hp4 e3) (bo (by rw [List.length_map];omega)) ?_
  refine ⟨row++[y],_,_,rfl,?_,?_,by rw [List.length_append,hl,List.length_singleton],fun b hbm => ?_⟩
  ·exact (s3.new hp4).upF hrH
  ·rw [List.map_append];exact af
  ·rcases List.mem_append.mp hbm with z | z
   ·exact hb b z
   ·rw [List.mem_singleton.mp z];exact ⟨y0,y1⟩
 ·rintro σ H3 ⟨row,v,w,rfl,s3,e3,hl,hb⟩
  have hm8:row.length≤m:=by
   have:=Int.emod_lt_of_pos (n / 20000) (show 0 < (m:Int)+1 by omega)
   omega
  wtm_at "wp"
  refine ⟨small (show 2≤1000 by decide),fun t ht => ?_⟩
  wtm_at "wp"
  exact q name row t r _ (s3.new ht) (s3.fr ht) hrH af (aC ht e3) ⟨⟨hn0,hn1⟩,by omega,hb⟩ hm8
abbrev mU:Stmt:=(top 58)
abbrev lR (K:PySem.W.Frag) (c:Cs):Sp:=sp4 fun u v w x H Q _=>∃ (b a:Addr) (F as:List Addr) (ds:List Nd) (t:Nat) (i name:Int) (row:List Int),u = .ref b∧v = .int i∧w = .int name∧x = .ref a∧BusAt c H b F as ds t∧as.length≤8∧(∀ d∈ds,d.qu.length≤900)∧SqL K H a (row.map V.int) ∧
 i.natAbs.log2 < 1920∧name.natAbs.log2 < 1920∧(∀ b∈row,b.natAbs.log2 < 1920) ∧
 (¬ (0≤i∧i < as.length)→∀ H',Same H H'→Q (.str "node") H') ∧
 (∀ (k:Nat) d,i=(k:Nat)→ds[k]? = some d→((¬ eE name row∨bI ds k name=true)→∀ H',Same H H'→Q (.str "frame") H') ∧
  (eE name row→bI ds k name=false→wf c H b F as (ds.set k (d.letWait (name,row))) t (.str "ok") Q))
theorem sc__law_told:FnScope ["_law_bus", "_law_at", "_law_name", "_law_row", "_law_kept", "e", "_law_kinds"] ["_law_bus", "_law_at", "_law_name", "_law_row"] (ag mU):=aU
theorem lS (T:Txt K mg c):g9 P w K mg base CX0 4 "_law_told" ["_law_bus", "_law_at", "_law_name", "_law_row"] (lR K c):=by
 refine T.d__law_told.ok sc__law_told (fun _ _ _ _ _ _ us hl=>match us,hl with | [_,_,_,_],_=>rfl) AO (fun f cdv A outer s H vs Q E hr h => ?_)
 obtain ⟨v0,v1,v2,v3,rfl,h⟩:=h
 refine ⟨_,(ae (aN (i:=4) sc__law_told.nd rfl (.inl rfl) el)
   (di (vG (K:=K) (iz:=4) (ie:=5) (BH (wm T) hr (aa (pv 0) (aa (pv 1) (aa (pv 2) (aa (pv 3) ac))))) rfl rfl rfl T.m_BusError T.t_BusError T.l_BusError T.b_BusError sc__law_told.nd rfl rfl rfl (.inl rfl))
   (ae (aZ (au jS (pv 4) el (ax _))
    (ad (aF il))
    aD)
   (ae (aN (i:=6) sc__law_told.nd rfl (.inl rfl) (bn (aa (aI (fO (K:=K)) rfl T.isI PyProof.Rows.boot_isinstance (aa (pv 4) (aa (pgr T.m_NoNode) ac))) (aa (aI (fO (K:=K)) rfl T.isI PyProof.Rows.boot_isinstance (aa (pv 4) (aa (pgr T.m_BadFrame) ac))) (aa (aI (fO (K:=K)) rfl T.isI PyProof.Rows.boot_isinstance (aa (pv 4) (aa (pgr T.m_BadBits) ac))) ac)))))
   (ae (aZ (PW.pt (km (au nV (cw (K:=K) PySem.F.plainAttrs_list PySem.F.slot_list_count PySem.F.type_list_count tu (pv 6) (aa lV ac)) ah (ax _)) (ip (tS (cC (aI (fO (K:=K)) rfl T.isI PyProof.Rows.boot_isinstance (aa (pv 4) (aa (pty T.valueError vN) ac))))))))
    (ad (aF il))
    aD)
   (ad (aF (bR (br (K:=K)) (bn (aa il (aa il (aa il ac)))) (cw (K:=K) PySem.F.plainAttrs_list PySem.F.slot_list_index PySem.F.type_list_index qx (pv 6) (aa lV ac)) (fun _ _=>rfl))))))))),?_⟩
 try dsimp only [bt,Cx.nox,Cx.wish]
 refine aj (s2:=[some v0,some v1,some v2,some v3,none,none,none]) rfl ?_
 obtain ⟨b,a,F,as,ds,t,i,name,row,rfl,rfl,rfl,rfl,h,h8,hfew,hS,hli,hln,hlr,qn,qg⟩:=h
 wtm_at "wp"
 refine gU (fun σ H2=>∃ kept,σ=[some (.ref b),some (.int i),some (.int name),some (.ref a),some kept,none,none]∧((kept = .non∧Q (.str "ok") H2)∨∃ ea,kept = .ref ea∧((At H2 ea (rL ea c.N)∧∀ H',Same H2 H'→Q (.str "node") H')∨(At H2 ea (rL ea c.F)∧∀ H',Same H2 H'→Q (.str "frame") H')))) ?_ ?_
 ·wtm_at "wp"
  refine ⟨b,a,F,as,ds,t,i,name,row,rfl,rfl,rfl,rfl,h,h8,hfew,hS,hli,hln,hlr,fun z => ?_,fun k d ek ed => ?_⟩
  ·refine ⟨c.N,rfl,T.r_NoNode,fun ea fea => ?_⟩
   exact ⟨.ref ea,rfl,.inr ⟨ea,rfl,.inl ⟨af,fun H' s=>qn z H' ((aq fea _).trans s)⟩⟩⟩
  ·obtain ⟨g1,g2⟩:=qg k d ek ed
   refine ⟨fun g => ?_,fun g e H1 s1 => ?_,fun g e H1 F1 k1 h1 f1 => ?_⟩
   ·refine ⟨c.F,rfl,T.r_BadFrame,fun ea fea => ?_⟩
    exact ⟨.ref ea,rfl,.inr ⟨ea,rfl,.inr ⟨af,fun H' s=>g1 (.inl g) H' ((aq fea _).trans s)⟩⟩⟩
   ·refine ⟨c.F,rfl,T.r_BadFrame,fun ea fea => ?_⟩
    exact ⟨.ref ea,rfl,.inr ⟨ea,rfl,.inr ⟨af,fun H' s=>g1 (.inr e) H' ((s1.new fea).trans s)⟩⟩⟩
   ·exact ⟨.non,rfl,.inl ⟨rfl,g2 g e H1 F1 k1 h1 f1⟩⟩
 rintro σ H2 ⟨kept,rfl,⟨rfl,q⟩ | ⟨ea,rfl,hc⟩⟩
 ·wtm_at "wp"
  exact q
 wtm_at "wp"
 rcases hc with ⟨ee,q⟩ | ⟨ee,q⟩
 ·refine ⟨ea,c.N,_,_,_,rfl,⟨_,ee⟩,T.e_NoNode,rfl,T.i_NoNode_NoNode,?_⟩
  wtm_at "wp"
  refine ⟨ea,c.N,_,_,_,rfl,⟨_,ee⟩,T.e_NoNode,rfl,T.i_NoNode_BadFrame,?_⟩
  wtm_at "wp"
  refine ⟨ea,c.N,_,_,_,rfl,⟨_,ee⟩,T.e_NoNode,rfl,T.i_NoNode_BadBits,?_⟩
  wtm_at "wp"
  refine ⟨small (show 3≤1000 by decide),fun p hp => ?_⟩
  have s3:Same H2 (upd H2 p (.lst [.bl true,.bl false,.bl false])):=aq hp _
  have e3:At (upd H2 p (.lst [.bl true,.bl false,.bl false])) p (.lst ([true,false,false].map V.bl)):=af
  generalize upd H2 p (.lst [.bl true,.bl false,.bl false])=H3 at *
  have ee3:=s3.get ee
  wtm_at "wp"
  refine kY e3 ?_
  wtm_at "wp"
  refine dg (fun c1=>absurd (by decide) c1) (fun _ => ?_)
  wtm_at "wp"
  refine ⟨ea,c.N,_,_,_,rfl,⟨_,ee3⟩,T.e_NoNode,rfl,T.i_NoNode_V,?_⟩
  wtm_at "wp"
  refine ⟨small (show 3≤1000 by decide),fun p2 hp2 => ?_⟩
  wtm_at "wp"
  refine kZ (aC hp2 e3) (by decide) ?_
  refine cr (At.sqL af) (show atI _ _=some (.str "node") from rfl) ?_
  wtm_at "wp"
  exact q _ (s3.new hp2)
 ·refine ⟨ea,c.F,_,_,_,rfl,⟨_,ee⟩,T.e_BadFrame,rfl,T.i_BadFrame_NoNode,?_⟩
  wtm_at "wp"
  refine ⟨ea,c.F,_,_,_,rfl,⟨_,ee⟩,T.e_BadFrame,rfl,T.i_BadFrame_BadFrame,?_⟩
  wtm_at "wp"
  refine ⟨ea,c.F,_,_,_,rfl,⟨_,ee⟩,T.e_BadFrame,rfl,T.i_BadFrame_BadBits,?_⟩
  wtm_at "wp"
  refine ⟨small (show 3≤1000 by decide),fun p hp => ?_⟩
  have s3:Same H2 (upd H2 p (.lst [.bl false,.bl true,.bl false])):=aq hp _
  have e3:At (upd H2 p (.lst [.bl false,.bl true,.bl false])) p (.lst ([false,true,false].map V.bl)):=af
  generalize upd H2 p (.lst [.bl false,.bl true,.bl false])=H3 at *
  have ee3:=s3.get ee
  wtm_at "wp"
  refine kY e3 ?_
  wtm_at "wp"
  refine dg (fun c1=>absurd (by decide) c1) (fun _ => ?_)
  wtm_at "wp"
  refine ⟨ea,c.F,_,_,_,rfl,⟨_,ee3⟩,T.e_BadFrame,rfl,T.i_BadFrame_V,?_⟩
  wtm_at "wp"
  refine ⟨small (show 3≤1000 by decide),fun p2 hp2 => ?_⟩
  wtm_at "wp"
  refine kZ (aC hp2 e3) (by decide) ?_
  refine cr (At.sqL af) (show atI _ _=some (.str "frame") from rfl) ?_
  wtm_at "wp"
  exact q _ (s3.new hp2)
theorem wp {S:List Addr} {H0 H H':Hp} (s:Same H0 H) (k:Kp S H H') (n:∀ x∈S,aK H0 x):Same H0 H':=fun x o e=>k.ot x o (fun z=>(aA (n x z) e) rfl) (s x o e)
structure Bu (c:Cs) (H0 H:Hp) (b:Addr) (F as:List Addr) (ds:List Nd) (t:Nat):Prop where
 same:Same H0 H
 bus:BusAt c H b F as ds t
 newF:∀ x∈F,aK H0 x
section
variable {c:Cs} {H0 H H':Hp} {b:Addr} {F F' as:List Addr} {ds ds':List Nd} {t t':Nat}
theorem Bu.more (h:Bu c H0 H b F as ds t) (s:Same H H'):Bu c H0 H' b F as ds t:=⟨h.same.trans s,h.bus.same s,h.newF⟩
theorem Bu.nF (h:Bu c H0 H b F as ds t) {p:Addr} (hp:aK H p):p∉F:=fun z=>by
 obtain ⟨u,e,_⟩:=h.bus.live p z
 exact (aA hp e) rfl
theorem Bu.busTo (h:Bu c H0 H b F as ds t) (k:Kp F H H') (h':BusAt c H' b F' as ds' t') (f:∀ x∈F',x∈F∨aK H x):Bu c H0 H' b F' as ds' t'∧(∀ p u,At H p u→p∉F→At H' p u∧p∉F'):=by
 refine ⟨⟨wp h.same k h.newF,h',fun x hx => ?_⟩,fun p u e n=>⟨k.get n e,fun z => ?_⟩⟩
 ·rcases f x hx with z | z
  ·exact h.newF x z
  ·exact h.same.fr z
 ·rcases f p z with y | y
  ·exact n y
  ·exact (aA y e) rfl
theorem Bu.upd (h:Bu c H0 H b F as ds t) {p:Addr} {u v:HO} (e:At H p u) (hu:¬ Im u) (n0:aK H0 p) (n1:p∉F):Bu c H0 (L2.upd H p v) b F as ds t:=by
 have k:Kp [p] H (L2.upd H p v):=(Kp.refl _ _).upd (by simp) e hu
 exact ⟨h.same.upF n0,h.bus.kp k fun x hx=>aH fun z=>n1 (z ▸ hx),h.newF⟩
end
theorem An (n:Nat):(List.replicate n [V.int 0]).flatten=(List.replicate n (0:Int)).map V.int:=by
 induction n with
 | zero=>rfl
 | succ n ih=>rw [List.replicate_succ,List.replicate_succ,List.flatten_cons,List.map_cons,ih];rfl
theorem yz {K:PySem.W.Frag} {H0 H:Hp} {v:V} {f:Fr}:Cp H0 H v f→TFr K H v f:=fun ⟨t,r,e,a,b,_⟩=>⟨t,r,e,At.sqT a,At.sqL b⟩
theorem yA {K:PySem.W.Frag} {H:Hp} {v:V} {f:Fr}:FrAt H v f→TFr K H v f:=fun ⟨t,r,_,e,a,b⟩=>⟨t,r,e,At.sqT a,At.sqF b⟩
theorem dR {K:PySem.W.Frag} {H H':Hp} {v:V} {f:Fr} (h:TFr K H v f) (s:Same H H'):TFr K H' v f:=let ⟨t,r,e,a,b⟩:=h;⟨t,r,e,s.tup a,s.seq b⟩
theorem yB {K:PySem.W.Frag} {H:Hp} {a b:Addr} {us vs:List V} {fs:List Fr} {Q:VK} (ea:SqL K H a us) (pa:Paired (TFr K H) us fs) (eb:SqL K H b vs) (pb:Paired (TFr K H) vs fs) (h:Q (.bl false) H):wx K (.ref a) (.ref b) H Q:=by
 refine tw (fs:=fs) ea eb (Paired.length pa) (Paired.length pb) (fun j x f ex ef => ?_) (fun j x f ex ef => ?_) h
 ·obtain ⟨y,ey,hy⟩:=ge pa ex
  rw [ef] at ey
  cases ey
  exact hy
 ·obtain ⟨y,ey,hy⟩:=ge pb ex
  rw [ef] at ey
  cases ey
  exact hy
theorem nQ {K:PySem.W.Frag} {H:Hp} {a b:Addr} {us:List V} {Q:VK} (ea:SqL K H a us) (eb:SqL K H b []) (h:Q (.bl (!decide (us=[]))) H):wx K (.ref a) (.ref b) H Q:=by
 by_cases c:us=[]
 ·subst c
  exact pX (xs:=[]) (ys:=[]) ea eb h
 ·refine ⟨false,fun X e => ?_,?_⟩
  ·subst e
   exact (l6 ea eb (by cases us with | nil=>exact absurd rfl c | cons _ _=>simp)).mono (by omega)
  ·rw [decide_eq_false c] at h
   exact h
def Ao (K:PySem.W.Frag) (H:Hp) (t:T3) (f:Fr):Prop:=SqT K H t.1 [.int f.1,.ref t.2.2]∧t.2.1=f.1∧SqL K H t.2.2 (f.2.map V.int)
theorem yC {K:PySem.W.Frag} {H:Hp}:∀ {us:List V} {fs:List Fr},Paired (TFr K H) us fs→∃ ts:List T3,us=ts.map (fun t=>V.ref t.1)∧Paired (Ao K H) ts fs
 | _,_,.nil=>⟨[],rfl,.nil⟩
 | _,_,.cons (b:=f) h r=>by
  obtain ⟨t,r1,rfl,a,b⟩:=h
  obtain ⟨ts,rfl,p⟩:=yC r
  exact ⟨(t,f.1,r1) :: ts,rfl,.cons ⟨a,rfl,b⟩ p⟩
theorem yD {K:PySem.W.Frag} {H:Hp}:∀ {ts:List T3} {fs:List Fr},Paired (Ao K H) ts fs→Paired (TFr K H) (ts.map fun t=>V.ref t.1) fs
 | _,_,.nil => .nil
 | _,_,.cons h r => .cons ⟨_,_,rfl,h.1,h.2.2⟩ (yD r)
theorem mV {K:PySem.W.Frag} {H:Hp}:∀ {ts:List T3} {fs:List Fr},Paired (Ao K H) ts fs→ts.map (·.2.1)=fs.map (·.1)∧∀ t∈ts,SqT K H t.1 [.int t.2.1,.ref t.2.2]
 | _,_,.nil=>⟨rfl,fun t ht=>(by cases ht)⟩
 | _,_,.cons h r=>by
  obtain ⟨e,g⟩:=mV r
  refine ⟨by rw [List.map_cons,List.map_cons,e,h.2.1],fun t ht => ?_⟩
  rcases List.mem_cons.mp ht with z | z
  ·rw [z,h.2.1];exact h.1
  ·exact g t z
theorem wq {α β:Type} {R:α→β→Prop} {us ts:List α} (h:us.Perm ts):∀ {fs:List β},Paired R ts fs→∃ gs,Paired R us gs∧gs.Perm fs:=by
 induction h with
 | nil=>intro fs p;exact ⟨fs,p,List.Perm.refl _⟩
 | cons x _ ih=>
  intro fs p
  cases p with
  | cons r p=>
   obtain ⟨gs,a,b⟩:=ih p
   exact ⟨_ :: gs,.cons r a,b.cons _⟩
 | swap x y l=>
  intro fs p
  cases p with
  | cons r p=>
   cases p with
   | cons r2 p=>exact ⟨_,.cons r2 (.cons r p),List.Perm.swap _ _ _⟩
 | trans _ _ ih1 ih2=>
  intro fs p
  obtain ⟨gs,a,b⟩:=ih2 p
  obtain ⟨hs,a2,b2⟩:=ih1 a
  exact ⟨hs,a2,b2.trans b⟩
theorem rH {α β:Type} {f:α→Int} {g:β→Int} {S:Int→Int→Prop} {l:List α} {m:List β} (e:l.map f=m.map g):(l.Pairwise fun a b=>S (f a) (f b))↔(m.Pairwise fun a b=>S (g a) (g b)):=by
 rw [← List.pairwise_map (f:=f) (R:=S),← List.pairwise_map (f:=g) (R:=S),e]
theorem nR {K:PySem.W.Frag} {H:Hp} {p:Addr} {us:List V} {fs:List Fr} {Q:VK} (e:SqL K H p us) (h:Paired (TFr K H) us fs) (hl:fs.length≤4) (hn:fs.Pairwise fun a b=>a.1≠b.1)
  (q:∀ D ws gs,aK H D→gs.Perm fs→(gs.Pairwise fun a b=>a.1 < b.1)→Paired (TFr K H) ws gs→Q (.ref D) (upd H D (.lst ws))):qA K [.ref p] H Q:=by
 obtain ⟨ts,rfl,pt⟩:=yC h
 obtain ⟨k1,k2⟩:=mV pt
 refine ⟨p,ts,rfl,e,by rw [Paired.length pt];exact hl,k2,(rH (S:=fun a b=>a≠b) k1).mpr hn,fun D us fD hp hs => ?_⟩
 obtain ⟨gs,a,b⟩:=wq hp pt
 exact q D _ gs fD b ((rH (S:=fun a b=>a < b) (mV a).1).mp hs) (yD a)
def SdAt (H:Hp) (v:V) (x:Snd):Prop:=∃ t ft r o,v = .ref t∧At H t (.tup [.int (x.at_:Nat),.ref ft])∧At H ft (.tup [.int x.f.1,.ref r])∧At H r (.frz o (.lst (x.f.2.map V.int)))
theorem SdAt.kp {S:List Addr} {H H':Hp} {v:V} {x:Snd} (h:SdAt H v x) (k:Kp S H H'):SdAt H' v x:=let ⟨t,ft,r,o,e,a,b,c⟩:=h;⟨t,ft,r,o,e,k.tup a,k.tup b,k.frz c⟩
def Sns (H:Hp):List V→List Snd→Prop:=Paired (SdAt H)
theorem Sns.kp {S:List Addr} {H H':Hp} {vs:List V} {l:List Snd} (h:Sns H vs l) (k:Kp S H H'):Sns H' vs l:=Paired.mapP h fun _ _ z=>z.kp k
theorem Sns.same {H H':Hp} {vs:List V} {l:List Snd} (h:Sns H vs l) (s:Same H H'):Sns H' vs l:=h.kp (S:=[]) (Same.kp s)
structure Lw (c:Cs) (H0 H:Hp) (b S G:Addr) (F as:List Addr) (ds:List Nd) (t:Nat) (vs:List V) (sent:List Snd) (fl:List Int):Prop where
 bu:Bu c H0 H b F as ds t
 eS:At H S (.lst vs)
 nS:S∉F
 sds:Sns H vs sent
 eG:At H G (.lst (fl.map V.int))
 nG:G∉F
section
variable {c:Cs} {H0 H H':Hp} {b S G:Addr} {F F' as:List Addr} {ds ds':List Nd} {t t':Nat} {vs:List V} {sent:List Snd} {fl fl':List Int}
theorem Lw.more (h:Lw c H0 H b S G F as ds t vs sent fl) (s:Same H H'):Lw c H0 H' b S G F as ds t vs sent fl:=⟨h.bu.more s,s.get h.eS,h.nS,h.sds.same s,s.get h.eG,h.nG⟩
theorem Lw.busTo (h:Lw c H0 H b S G F as ds t vs sent fl) (k:Kp F H H') (h':BusAt c H' b F' as ds' t') (f:∀ x∈F',x∈F∨aK H x):Lw c H0 H' b S G F' as ds' t' vs sent fl∧(∀ p u,At H p u→p∉F→At H' p u∧p∉F'):=by
 obtain ⟨a1,a2⟩:=h.bu.busTo k h' f
 obtain ⟨s1,s2⟩:=a2 S _ h.eS h.nS
 obtain ⟨n1,n2⟩:=a2 G _ h.eG h.nG
 exact ⟨⟨a1,s1,s2,h.sds.kp k,n1,n2⟩,a2⟩
theorem Lw.add (h:Lw c H0 H b S G F as ds t vs sent fl) (fS:aK H0 S) (nSG:S≠G) {v:V} {x:Snd} (e:SdAt H v x):Lw c H0 (L2.upd H S (.lst (vs++[v]))) b S G F as ds t (vs++[v]) (sent++[x]) fl:=by
 have k:Kp [S] H (L2.upd H S (.lst (vs++[v]))):=(Kp.refl _ _).upd (by simp) h.eS (fun z=>z)
 exact ⟨h.bu.upd h.eS (fun z=>z) fS h.nS,af,h.nS,jI (h.sds.kp k) (.cons (e.kp k) .nil),aL nSG.symm h.eG,h.nG⟩
theorem Lw.setF (h:Lw c H0 H b S G F as ds t vs sent fl) (fG:aK H0 G) (nSG:S≠G):Lw c H0 (L2.upd H G (.lst (fl'.map V.int))) b S G F as ds t vs sent fl':=by
 have k:Kp [G] H (L2.upd H G (.lst (fl'.map V.int))):=(Kp.refl _ _).upd (by simp) h.eG (fun z=>z)
 exact ⟨h.bu.upd h.eG (fun z=>z) fG h.nG,aL nSG h.eS,h.nS,h.sds.kp k,af,h.nG⟩
end
theorem rJ {ds:List Nd} {k:Nat} {name:Int} (h:∀ d∈ds,name∉d.qu.map (·.1)):bI ds k name=false:=by
 unfold bI
 rw [List.any_eq_false]
 intro d hd hn
 have hn:=of_decide_eq_true hn
 rcases List.mem_append.mp hd with z | z
 ·exact h d (List.mem_of_mem_take z) hn
 ·exact h d (List.mem_of_mem_drop z) hn
theorem yE (z x:Int) (h0:0≤x) (h1:x≤59):∃ y:Nat,atI [V.int 0,V.int 0,V.int 3,V.int x] (z % 4)=some (V.int (y:Nat))∧y≤59:=by
 have:z % 4=0∨z % 4=1∨z % 4=2∨z % 4=3:=by omega
 rcases this with e | e | e | e <;> rw [e]
 ·exact ⟨0,rfl,by decide⟩
 ·exact ⟨0,rfl,by decide⟩
 ·exact ⟨3,rfl,by decide⟩
 ·exact ⟨x.toNat,by rw [Int.toNat_of_nonneg h0];rfl,by omega⟩
theorem mW (x:Int) (l:List Int):inV (.int x) (l.map V.int)=decide (x∈l):=by rw [jY,Bool.eq_iff_iff,List.contains_iff_mem,decide_eq_true_iff]
abbrev yF:Stmt:=(top 59)
abbrev rK (K:PySem.W.Frag) (c:Cs):Sp:=sp1 fun v H Q _=>∃ (a:Addr) (ns:List Int),v = .ref a∧SqL K H a (ns.map V.int)∧∀ H',Q (.bl true) H'
theorem sc_law:FnScope ["_law_script", "_law_many", "_law_bus", "_law_sent", "_law_flips", "_law_last", "_law_k", "_law_name", "_law_row", "_law_at", "_law_ticks", "_law_order", "_law_heard", "_law_due", "_law_one", "_law_other"] ["_law_script"] (ag yF):=aU
theorem yG {f:Addr} {fd:FuncData} (T:Txt K mg c) (F:Fun K "law" "law" yF f fd):FnOk P w K mg base CX0 12 f fd ["_law_script"] (rK K c):=by
 refine F.ok sc_law jU (fun cdv A outer s H vs Q E hr h => ?_)
 obtain ⟨v0,rfl,h⟩:=h
 refine ⟨_,(ae (aN (i:=1) sc_law.nd rfl (by first | exact Or.inl rfl | exact Or.inr rfl) (aB bC ah (aB bQ (cv (bg T) hr az (aa (pv 0) (aa ah ac))) ah)))
   (ae (aN (i:=2) sc_law.nd rfl (by first | exact Or.inl rfl | exact Or.inr rfl) (zR (ja T) hr T.m_Bus az (aa (pv 1) ac)))
   (ae (aN (i:=3) sc_law.nd rfl (by first | exact Or.inl rfl | exact Or.inr rfl) (bn ac))
   (ae (aN (i:=4) sc_law.nd rfl (by first | exact Or.inl rfl | exact Or.inr rfl) (aB kJ (bn (aa ah ac)) (aB eA ah ah)))
   (ae (aN (i:=5) sc_law.nd rfl (by first | exact Or.inl rfl | exact Or.inr rfl) (uE o5 ah))
   (ae (cq PassesOwn.never rfl (bP rfl T.range (aa (aB bQ (cv (bg T) hr az (aa (pv 0) (aa ah ac))) ah) ac)) (bj (i:=6) sc_law.nd rfl (by first | exact Or.inl rfl | exact Or.inr rfl))
    (ae (aN (i:=5) sc_law.nd rfl (by first | exact Or.inl rfl | exact Or.inr rfl) (aB bC (aB bC (pv 5) ah) (aB bQ (aB da (cv (bg T) hr az (aa (pv 0) (aa (aB bC ah (pv 6)) ac))) ah) ah)))
    (ad (aZ (au jL (pv 5) (aI (aJ (K:=K)) rfl T.len PySem.boot_len (aa (pv 4) ac)) (ax _))
     (ad (tT ah (wL (pv 4) (pv 5) se)))
     aD))))
   (ae (cq PassesOwn.never rfl (bP rfl T.range (aa (aB bQ (cv (bg T) hr az (aa (pv 0) (aa ah ac))) ah) ac)) (bj (i:=6) sc_law.nd rfl (by first | exact Or.inl rfl | exact Or.inr rfl))
    (ae (tT (cv (ki T) hr az (aa (pv 0) (aa (aB bC ah (aB eA ah (pv 6))) (aa ah ac)))) (vH (K:=K) rfl (mY (bj (i:=7) sc_law.nd rfl (by first | exact Or.inl rfl | exact Or.inr rfl)) (mY (bj (i:=8) sc_law.nd rfl (by first | exact Or.inl rfl | exact Or.inr rfl)) uA))))
    (vS (ae (aN (i:=9) sc_law.nd rfl (by first | exact Or.inl rfl | exact Or.inr rfl) (aB bQ (aB da (cv (bg T) hr az (aa (pv 0) (aa (aB bC ah (aB eA ah (pv 6))) ac))) ah) (pv 1)))
    (di (aZ (au (fN (K:=K)) (pv 7) (cz [] [] (aR (K:=K) (pv 3)) (fun fp s H=>(bR (bK (K:=K)) (bR (bK (K:=K)) (pv 0) ah (fun _ _=>rfl)) ah (fun _ _=>rfl)))) (by with_unfolding_all rfl))
     (ae (aZ (au nV (cv (lS T) hr az (aa (pv 2) (aa (pv 9) (aa (pv 7) (aa (ix (eK (K:=K)) rfl T.list PyProof.Rows.boot_list (aa (pv 8) ac)) ac))))) il (ax _))
      (ad (aF lV))
      aD)
     (ad (ay (cw (K:=K) PySem.F.plainAttrs_list PySem.F.slot_list_append PySem.F.type_list_append bD (pv 3) (aa (ce (aa (pv 9) (aa (ce (aa (pv 7) (aa (pv 8) ac))) ac))) ac)))))
     aD)
    (ae (aN (i:=10) sc_law.nd rfl (by first | exact Or.inl rfl | exact Or.inr rfl) (bR (br (K:=K)) (bn (aa ah (aa ah (aa ah (aa (aB bQ (aB da (cv (bg T) hr az (aa (pv 0) (aa (aB bC ah (aB eA ah (pv 6))) ac))) ah) ah) ac))))) (aB bQ (cv (bg T) hr az (aa (pv 0) (aa (aB bC ah (aB eA ah (pv 6))) ac))) ah) (fun _ _=>rfl)))
    (ae (ay (cv (nP T) hr az (aa (pv 2) (aa (bY (b4 (K:=K)) (pv 4) gu (bW (pv 10))) ac))))
    (ad (aN (i:=4) sc_law.nd rfl (by first | exact Or.inl rfl | exact Or.inr rfl) (bY (b4 (K:=K)) (pv 4) (bW (pv 10)) gu))))))))))
   (ae (ay (cv (nP T) hr az (aa (pv 2) (aa (pv 4) ac))))
   (ae (cq PassesOwn.never rfl (bP rfl T.range (aa ah ac)) (bj (i:=6) sc_law.nd rfl (by first | exact Or.inl rfl | exact Or.inr rfl))
    (ad (aZ (cC (aI (iB rfl) rfl T.any PyProof.Rows.boot_any (aa (cz ["_law_bus"] [2] (bP rfl T.range (aa (pv 1) ac)) (fun fp s H=>(cc (j0 (K:=K) hr) (eJ T.k_Bus (g7 T) hr az (pv 0) (aa (pv 1) ac)) (bn ac) (ax _)))) ac)))
     (ad (ay (cv (nP T) hr az (aa (pv 2) (aa (aB kJ (bn (aa ah ac)) ah) ac)))))
     aD)))
   (ae (ay (cv (nP T) hr az (aa (pv 2) (aa (aB kJ (bn (aa ah ac)) ah) ac))))
   (ae (aN (i:=11) sc_law.nd rfl (by first | exact Or.inl rfl | exact Or.inr rfl) (bn ac))
   (ae (cq PassesOwn.never rfl (bP rfl T.range (aa (pv 1) ac)) (bj (i:=9) sc_law.nd rfl (by first | exact Or.inl rfl | exact Or.inr rfl))
    (ae (aN (i:=12) sc_law.nd rfl (by first | exact Or.inl rfl | exact Or.inr rfl) (eJ T.k_Bus (lJ T) hr az (pv 2) (aa (pv 9) ac)))
    (ae (sX (i:=13) (fv:=["_law_at"]) (js:=[9]) sc_law.nd rfl (by first | exact Or.inl rfl | exact Or.inr rfl) (aR (K:=K) (pv 3)) (fun fp s H=>(au nV (bR (bK (K:=K)) (pv 1) ah (fun _ _=>rfl)) (pv 0) (ax _))) (fun fp s H=>(bR (bK (K:=K)) (pv 1) ah (fun _ _=>rfl))))
    (ae (aZ (PW.pt (km (au (j0 (K:=K) hr) (aI (iL (K:=K)) rfl T.sorted PyProof.Rows.boot_sorted (aa (pv 12) ac)) (aI (iL (K:=K)) rfl T.sorted PyProof.Rows.boot_sorted (aa (pv 13) ac)) (ax _)) (km (au (j0 (K:=K) hr) (eJ T.k_Bus (g7 T) hr az (pv 2) (aa (pv 9) ac)) (bn ac) (ax _)) (ip (au nV (eJ T.k_Bus (mR T) hr az (pv 2) (aa (pv 9) ac)) il (ax _))))))
     (ad (aF lV))
     aD)
    (ad (ay (cw (K:=K) PySem.F.plainAttrs_list PySem.F.slot_list_append PySem.F.type_list_append bD (pv 11) (aa (cz [] [] (aR (K:=K) (pv 12)) (fun fp s H=>(bR (bK (K:=K)) (pv 0) ah (fun _ _=>rfl)))) ac))))))))
   (ae (cq PassesOwn.never rfl (aR (K:=K) (pv 11)) (bj (i:=14) sc_law.nd rfl (by first | exact Or.inl rfl | exact Or.inr rfl))
    (ad (cq PassesOwn.never rfl (aR (K:=K) (pv 11)) (bj (i:=15) sc_law.nd rfl (by first | exact Or.inl rfl | exact Or.inr rfl))
     (ad (aZ (au (j0 (K:=K) hr) (nh ["_law_other"] [15] (aR (K:=K) (pv 14)) (fun fp s H=>(au (gz (K:=K)) (pv 1) (pv 0) (by with_unfolding_all rfl))) (fun fp s H=>(pv 1))) (nh ["_law_one"] [14] (aR (K:=K) (pv 15)) (fun fp s H=>(au (gz (K:=K)) (pv 1) (pv 0) (by with_unfolding_all rfl))) (fun fp s H=>(pv 1))) (ax _))
      (ad (aF lV))
      aD)))))
   (ad (aF lV))))))))))))))),?_⟩
 try dsimp only [bt,Cx.nox,Cx.wish]
 refine aj (s2:=[some v0,none,none,none,none,none,none,none,none,none,none,none,none,none,none,none]) rfl ?_
 obtain ⟨a,ns,rfl,hS,q⟩:=h
 wtm_at "wp"
 refine ⟨a,ns,0,rfl,rfl,hS,fun z0 y0 y1 => ?_⟩
 obtain ⟨m,hm⟩:∃ m:Nat,2+z0 % 3=(m:Int):=⟨(2+z0 % 3).toNat,by omega⟩
 have m1:2≤m:=by omega
 have m3:m≤4:=by omega
 wtm_at "wp"
 rw [hm]
 wtm_at "wp"
 intro b dx hb hdx ndx
 refine ⟨_,_,rfl,b,dx,m,rfl,rfl,af,by omega,by omega,fun H1 F as k1 f1 la h1=>⟨rfl,?_⟩⟩
 have U1:Bu c H H1 b F as (List.replicate m Nd.new) 0:=⟨Chg.made hb hdx k1,h1,fun x hx=>by
  rcases f1 x hx with rfl | z
  ·exact hb
  ·exact ub z⟩
 clear k1 f1 h1
 have hne:as≠[]:=fun z=>by rw [z] at la;have la:0=m:=la;omega
 wtm_at "wp"
 refine ⟨small (show 0≤1000 by decide),fun S hS1 => ?_⟩
 have U2:=U1.more (aq hS1 (.lst []))
 have fS:aK H S:=U1.same.fr hS1
 have nS:=U1.nF hS1
 have eS:At (upd H1 S (.lst [])) S (.lst []):=af
 generalize upd H1 S (.lst [])=H2 at *
 wtm_at "wp"
 refine ⟨small (show 1≤1000 by decide),fun p0 hp0 => ?_⟩
 wtm_at "wp"
 refine kT af (by decide) (by decide) (small (by decide)) (fun G hG => ?_)
 rw [show ((60:Int) * 5).toNat=300 from rfl,An]
 have eS0:=aC (x := .lst [.int 0]) hp0 eS
 have U3:=U2.more (aq hp0 (.lst [.int 0]))
 have fG:aK H G:=U3.same.fr hG
 have nSG:S≠G:=aE eS0 hG
 have L:Lw c H (upd (upd H2 p0 (.lst [.int 0])) G (.lst ((List.replicate 300 (0:Int)).map V.int))) b S G F as (List.replicate m Nd.new) 0 [] [] (List.replicate 300 0):=⟨U3.more (aq hG _),aC hG eS0,nS,.nil,af,U3.nF hG⟩
 generalize upd (upd H2 p0 (.lst [.int 0])) G (.lst ((List.replicate 300 (0:Int)).map V.int))=H3 at *
 clear U1 U2 U3 eS0 eS nS
 wtm_at "wp"
 refine iF ?_
 wtm_at "wp"
 refine ⟨a,ns,1,rfl,rfl,L.bu.same.seq hS,fun z1 x0 x1 => ?_⟩
 wtm_at "wp"
 refine fL (z1 % 5).toNat (fun i σ H4=>∃ (fl:List Int) (last:Int) (v6:Option V),σ=[some (.ref a),some (.int (m:Int)),some (.ref b),some (.ref S),some (.ref G),some (.int last),v6,none,none,none,none,none,none,none,none,none]∧Lw c H H4 b S G F as (List.replicate m Nd.new) 0 [] [] fl∧Fl fl last ∧ -60≤last∧last ≤ -60+121 * (i:Int)) rfl (by omega) ⟨_,-60,none,rfl,L,Fl.start,by decide,by decide⟩ ?_ ?_
 ·rintro i σ H4 hi ⟨fl,last,v6,rfl,L4,F4,l1,l2⟩
  have eG4:=L4.eG
  wtm_at "wp"
  refine ⟨a,ns,_,rfl,rfl,L4.bu.same.seq hS,fun z2 _ _ => ?_⟩
  wtm_at "wp"
  rw [List.length_map,F4.len]
  obtain ⟨k,hk⟩:∃ k:Nat,last+61+z2 / 8 % 60=(k:Int):=⟨(last+61+z2 / 8 % 60).toNat,by omega⟩
  rw [hk]
  refine aO (fun c1 => ?_) (fun c1 => ?_)
  ·wtm_at "wp"
   refine vM eG4 (by rw [List.length_map,F4.len];exact vt (by omega)) ?_
   wtm_at "wp"
   have L5:=L4.setF (fl':=fl.set k 1) fG nSG
   rw [← map_set] at L5
   exact ⟨fl.set k 1,k,_,rfl,L5,F4.set (by omega) (by omega),by omega,by omega⟩
  ·wtm_at "wp"
   exact ⟨fl,k,_,rfl,L4,F4.skip (by omega),by omega,by omega⟩
 rintro σ H4 ⟨fl,last,v6,rfl,L4,F4,l1,l2⟩
 have sp4:=F4.sp
 have fl300:=F4.len
 clear L
 wtm_at "wp"
 refine iF ?_
 wtm_at "wp"
 refine ⟨a,ns,2,rfl,rfl,L4.bu.same.seq hS,fun z3 w0 w1 => ?_⟩
 wtm_at "wp"
 refine fL (z3 % 5).toNat (fun i σ H5=>∃ (F:List Addr) (ds:List Nd) (t:Nat) (vs:List V) (sent:List Snd) (G:Addr) (fl:List Int) (c5 v:Nat) (v6 v7 v8 v9 v10:Option V),σ=[some (.ref a),some (.int (m:Int)),some (.ref b),some (.ref S),some (.ref G),some (.int last),v6,v7,v8,v9,v10,none,none,none,none,none]∧Lw c H H5 b S G F as ds t vs sent fl∧S≠G∧Bus2 ds sent c5 v∧Spd c5 fl∧fl.length≤300∧ds.length=m∧sent.length≤i∧bB sent) rfl (by omega) ⟨F,_,0,[],[],G,fl,60,0,v6,none,none,none,none,rfl,L4,nSG,Bus2.new m1,sp4,by omega,List.length_replicate,Nat.le_refl _,List.Pairwise.nil⟩ ?_ ?_
 ·rintro i σ H5 hi ⟨F5,ds,t,vs,sent,G5,fl5,c5,v5,v6,v7,v8,v9,v10,rfl,L5,nSG5,B5,sp5,fl3,dl,sl,na⟩
  clear L4 F4
  have hi4:i≤3:=by omega
  wtm_at "wp"
  refine ⟨a,ns,_,2,rfl,rfl,rfl,L5.bu.same.seq hS,by decide,fun name row tr r H6 s6 ft fr et er g hl => ?_⟩
  wtm_at "wp"
  refine vT er (fun o => ?_)
  have s7:Same H5 (upd H6 r (.frz o (.lst (row.map V.int)))):=s6.upF fr
  have er7:At (upd H6 r (.frz o (.lst (row.map V.int)))) r _:=af
  generalize upd H6 r (.frz o (.lst (row.map V.int)))=H7 at *
  have L7:=L5.more s7
  clear L5 s6 et er ft fr s7
  wtm_at "wp"
  refine ⟨a,ns,_,rfl,rfl,L7.bu.same.seq hS,fun z4 u0 u1 => ?_⟩
  wtm_at "wp"
  obtain ⟨p0,hp0,hpm⟩:∃ p:Nat,z4 / 4 % (m:Int)=(p:Int)∧p < m:=by
   have h1:=Int.emod_nonneg (z4 / 4) (show (m:Int)≠0 by omega)
   have h2:=Int.emod_lt_of_pos (z4 / 4) (show (0:Int) < m by omega)
   exact ⟨(z4 / 4 % (m:Int)).toNat,by omega,by omega⟩
  rw [hp0]
  have al:=L7.bu.bus.len
  have vl:vs.length=sent.length:=Paired.length L7.sds
  refine gU (fun σ H8=>∃ (F:List Addr) (ds:List Nd) (vs:List V) (sent:List Snd) (v:Nat),σ=[some (.ref a),some (.int (m:Int)),some (.ref b),some (.ref S),some (.ref G5),some (.int last),some (.int (i:Int)),some (.int name),some (.ref r),some (.int (p0:Nat)),v10,none,none,none,none,none]∧Lw c H H8 b S G5 F as ds t vs sent fl5∧Bus2 ds sent c5 v∧ds.length=m∧sent.length≤i+1∧bB sent) ?_ ?_
  ·have eS7:=L7.eS
   have sd7:=L7.sds
   wtm_at "wp"
   refine bF ?_
   wtm_at "wp"
   refine fP (xs:=vs) (fun D j ys H8=>Same H7 H8∧aK H7 D∧At H8 D (.lst ys)∧ys=((sent.take j).map (fun x=>x.f.1)).map V.int∧ys.length≤j) (At.sqL eS7) (small (by omega)) (fun D hD=>⟨aq hD _,hD,af,rfl,Nat.le_refl _⟩) (fun D j ys H8 hj ⟨s8,f8,e8,ey,hy⟩=>⟨e8,At.sqL (s8.get eS7),hy⟩) (fun D j x ys H8 hx ⟨s8,f8,e8,ey,hy⟩ => ?_) (fun D ys H8 ⟨s8,f8,e8,ey,hy⟩ => ?_)
   ·obtain ⟨y,hyl,t2,ft,r2,o2,rfl,a1,a2,a3⟩:=ge sd7 hx
    have hj:j < vs.length:=(List.getElem?_eq_some_iff.mp hx).1
    have b1:=s8.get a1
    have b2:=s8.get a2
    show tOp _ _ _ [some (.ref t2)] _ _
    wtm_at "wp"
    refine j2 hj e8 ⟨s8.upF f8,f8,af,?_,by rw [List.length_append,List.length_singleton];omega⟩
    rw [aY hyl,List.map_append,List.map_append,← ey]
    rfl
   rw [vl,List.take_of_length_le (Nat.le_refl _)] at ey
   rw [ey] at e8
   have L8:=L7.more s8
   have er8:=s8.get er7
   refine vq (.inl (At.sqL e8)) rfl (dh _) ?_
   rw [mW]
   refine ⟨!decide (name∈sent.map (fun x=>x.f.1)),rfl,?_⟩
   refine dg (fun c1 => ?_) (fun c1 => ?_)
   ·have hn:∀ y∈sent,y.f.1≠name:=fun y hy z=>c1 (List.mem_map.mpr ⟨y,hy,z⟩)
    wtm_at "wp"
    intro x9 hx9
    have L9:=L8.more (aq hx9 (.lst (row.map V.int)))
    have er9:=aC (x := .lst (row.map V.int)) hx9 er8
    have e9:At (upd H8 x9 (.lst (row.map V.int))) x9 _:=af
    generalize upd H8 x9 (.lst (row.map V.int))=H9 at *
    have few9:=B5.few
    wtm_at "wp"
    refine ⟨b,x9,F5,as,ds,t,(p0:Nat),name,row,rfl,rfl,rfl,rfl,L9.bu.bus,by omega,fun d hd=>by have:=(few9 d hd).1;omega,At.sqL e9,bT (by omega) (by omega),bT (by have:=g.1;omega) (by have:=g.1;omega),fun y hy=>bT (by have:=g.2.2 y hy;omega) (by have:=g.2.2 y hy;omega),fun z=>absurd ⟨by omega,by omega⟩ z,fun k d ek ed => ?_⟩
    have ekp:k=p0:=by omega
    subst ekp
    refine ⟨fun z => ?_,fun g' e' HA FA kA hA fA => ?_⟩
    ·rcases z with y | y
     ·exact absurd g y
     ·rw [rJ (B5.noname hn)] at y
      cases y
    obtain ⟨LA,_⟩:=L9.busTo kA hA fA
    have erA:=kA.frz er9
    have BA:=B5.send (x:=⟨t,k,(name,row),i⟩) ed g (by omega) hn
    have naA:bB (sent++[⟨t,k,(name,row),i⟩]):=List.pairwise_append.mpr ⟨na,List.pairwise_singleton _ _,fun y hy z hz=>by rw [List.mem_singleton.mp hz];exact hn y hy⟩
    have eSA:=LA.eS
    clear L9 er9 e9 kA hA fA L8 er8 e8 L7
    wtm_at "wp"
    refine dg (fun z=>absurd rfl z) (fun _ => ?_)
    wtm_at "wp"
    refine ⟨small (show 2≤1000 by decide),fun n1 hn1 => ?_⟩
    wtm_at "wp"
    refine ⟨small (show 2≤1000 by decide),fun n2 hn2 => ?_⟩
    have LB:=(LA.more (aq hn1 (.tup [.int name,.ref r]))).more (aq hn2 (.tup [.int (k:Nat),.ref n1]))
    have sx:SdAt (upd (upd HA n1 (.tup [.int name,.ref r])) n2 (.tup [.int (k:Nat),.ref n1])) (.ref n2) ⟨t,k,(name,row),i⟩:=⟨n2,n1,r,o,rfl,af,aC hn2 af,aC hn2 (aC hn1 erA)⟩
    generalize upd (upd HA n1 (.tup [.int name,.ref r])) n2 (.tup [.int (k:Nat),.ref n1])=HB at *
    wtm_at "wp"
    refine bE LB.eS (bo (by omega)) ?_
    wtm_at "wp"
    exact ⟨FA,_,_,_,_,rfl,LB.add fS nSG5 sx,BA,by rw [List.length_set];exact dl,by rw [List.length_append,List.length_singleton];omega,naA⟩
   ·wtm_at "wp"
    exact ⟨F5,ds,vs,sent,v5,rfl,L8,B5,dl,by omega,na⟩
  clear L7 B5 al vl
  rintro σ H8 ⟨F8,ds8,vs8,sent8,v8',rfl,L8,B8,dl8,sl8,na8⟩
  have al:=L8.bu.bus.len
  wtm_at "wp"
  refine ⟨a,ns,_,rfl,rfl,L8.bu.same.seq hS,fun z5 _ _ => ?_⟩
  wtm_at "wp"
  refine ⟨small (show 4≤1000 by decide),fun pc hpc => ?_⟩
  wtm_at "wp"
  refine ⟨a,ns,_,rfl,rfl,(L8.bu.same.new hpc).seq hS,fun z6 _ _ => ?_⟩
  wtm_at "wp"
  obtain ⟨y,hy,hy9⟩:=yE z6 (z5 / 8 % 60) (by omega) (by omega)
  refine cr (At.sqL af) hy ?_
  have L9:=L8.more (aq hpc (.lst [.int 0,.int 0,.int 3,.int (z5 / 8 % 60)]))
  generalize upd H8 pc (.lst [.int 0,.int 0,.int 3,.int (z5 / 8 % 60)])=H9 at *
  clear L8 hy
  have eG9:=L9.eG
  wtm_at "wp"
  refine fK (At.sqL eG9) (show jw _ none (some (y:Int))=(fl5.take y).map V.int by rw [pW,List.map_take]) (fun p hp => ?_)
  have LA:=L9.more (aq hp (.lst ((fl5.take y).map V.int)))
  have nf:=L9.bu.nF hp
  have ef:At (upd H9 p (.lst ((fl5.take y).map V.int))) p _:=af
  generalize upd H9 p (.lst ((fl5.take y).map V.int))=HA at *
  clear L9 eG9
  have tl:(fl5.take y).length≤59:=by rw [List.length_take];omega
  wtm_at "wp"
  refine ⟨b,p,F8,as,ds8,t,fl5.take y,rfl,rfl,LA.bu.bus,hne,by omega,B8.ok,⟨sent8.length,B8.few.mono (by omega) (Nat.le_refl _),by omega⟩,At.sqL ef,fun xs _=>nf,fun D3 HE FE kE fD3 eD3 nD3 hE fE => ?_⟩
  obtain ⟨LE,_⟩:=LA.busTo kE hE fE
  have eGE:=LE.eG
  clear LA ef kE hE fE
  wtm_at "wp"
  refine fK (At.sqL eGE) (show jw _ (some (y:Int)) none=(fl5.drop y).map V.int by rw [nr,List.map_drop]) (fun p2 hp2 => ?_)
  have spc:Spd c5 (fl5.take y++fl5.drop y):=by rw [List.take_append_drop];exact sp5
  obtain ⟨spa,spb⟩:=Spd.app.mp spc
  obtain ⟨v9',B9⟩:=B8.run spa
  wtm_at "wp"
  exact ⟨FE,_,_,vs8,sent8,p2,fl5.drop y,_,v9',_,_,_,_,_,rfl,⟨LE.bu.more (aq hp2 _),aC hp2 LE.eS,LE.nS,LE.sds.same (aq hp2 _),af,LE.bu.nF hp2⟩,aE LE.eS hp2,B9,spb,by rw [List.length_drop];omega,by rw [dO];exact dl8,by omega,na8⟩
 rintro σ H5 ⟨F5,ds,t,vs,sent,G5,fl5,c5,v5,v6,v7,v8,v9,v10,rfl,L5,nSG5,B5,sp5,fl3,dl,sl,na⟩
 clear L4 F4
 have sl4:sent.length≤4:=by omega
 have al5:=L5.bu.bus.len
 wtm_at "wp"
 refine ⟨b,G5,F5,as,ds,t,fl5,rfl,rfl,L5.bu.bus,hne,by omega,B5.ok,⟨sent.length,B5.few.mono (by omega) (Nat.le_refl _),by omega⟩,At.sqL L5.eG,fun xs _=>L5.nG,fun D3 H6 F6 k6 fD3 eD3 nD3 h6 f6 => ?_⟩
 obtain ⟨L6,_⟩:=L5.busTo k6 h6 f6
 obtain ⟨v6',B6⟩:=B5.run sp5
 have B6:=B6.top
 have dl6:(bA ds fl5).length=m:=by rw [dO];exact dl
 clear L5 k6 h6 f6 B5 eD3
 generalize bA ds fl5=ds6 at *
 generalize up c5 fl5=c6 at *
 generalize t+fl5.length=t6 at *
 wtm_at "wp"
 refine iF ?_
 wtm_at "wp"
 refine fL 10 (fun i σ H7=>∃ (F:List Addr) (ds:List Nd) (t c7 v:Nat) (v6:Option V),σ=[some (.ref a),some (.int (m:Int)),some (.ref b),some (.ref S),some (.ref G5),some (.int last),v6,v7,v8,v9,v10,none,none,none,none,none]∧Lw c H H7 b S G5 F as ds t vs sent fl5∧Bus2 ds sent c7 v∧ds.length=m∧(v≤23∨v+100 * i≤1000)) rfl (by decide) ⟨F6,ds6,t6,c6,_,v6,rfl,L6,B6,dl6,.inr (by omega)⟩ ?_ ?_
 ·rintro i σ H7 hi ⟨F7,ds,t,c7,v,v6,rfl,L7,B7,dl,hv⟩
  clear L6 B6 dl6
  have al:=L7.bu.bus.len
  have few7:=B7.few
  wtm_at "wp"
  refine jX ?_
  wtm_at "wp"
  refine kX m (fun D j ys H8=>Same H7 H8∧aK H7 D∧At H8 D (.lst ys)∧ys=((ds.take j).map (fun d:Nd => !decide (d.qu=[]))).map V.bl∧ys.length≤j) (by omega) (by omega) (small (by omega)) (fun D hD=>⟨aq hD _,hD,af,rfl,Nat.le_refl _⟩) (fun D j ys H8 hj ⟨s8,f8,e8,ey,hy⟩=>⟨e8,hy⟩) (fun D j ys H8 hj ⟨s8,f8,e8,ey,hy⟩ => ?_) (fun D ys H8 ⟨s8,f8,e8,ey,hy⟩ => ?_)
  ·have L8:=L7.more s8
   have hid:j < ds.length:=by omega
   have ed:=List.getElem?_eq_getElem hid
   have fw:=(few7 _ (List.getElem_mem hid)).1
   generalize ds[j]=d at *
   obtain ⟨_,_,_,_,e1,_⟩:=id L8.bu.bus.ex
   show tOp _ _ _ [some (.ref b),some (.int (j:Int))] _ _
   wtm_at "wp"
   refine ⟨_,_,rfl,b,F7,as,ds,t,j,d,rfl,rfl,L8.bu.bus,by omega,ed,by omega,fun D4 us4 H9 s9 fD4 eD4 pD4 => ?_⟩
   wtm_at "wp"
   refine ⟨small (show 0≤1000 by decide),fun p5 hp5 => ?_⟩
   refine nQ (At.sqL (aC hp5 eD4)) (At.sqL af) ?_
   have hul:=Paired.length pD4
   have eu:decide (us4=[])=decide (d.qu=[]):=decide_eq_decide.mpr ⟨fun z=>List.length_eq_zero_iff.mp (by rw [← hul,z];rfl),fun z=>List.length_eq_zero_iff.mp (by rw [hul,z];rfl)⟩
   rw [eu]
   refine j2 hj (aC hp5 (s9.get e8)) ⟨((s8.trans s9).new hp5).upF f8,f8,af,?_,by rw [List.length_append,List.length_singleton];omega⟩
   rw [aY ed,List.map_append,List.map_append,← ey]
   rfl
  rw [List.take_of_length_le (by omega)] at ey
  rw [ey] at e8
  have L8:=L7.more s8
  wtm_at "wp"
  refine ⟨D,ds.map (fun d:Nd => !decide (d.qu=[])),rfl,e8,?_⟩
  by_cases hq:∀ d∈ds,d.qu=[]
  ·have ea:(ds.map (fun d:Nd => !decide (d.qu=[]))).any id=false:=by
    rw [List.any_map,List.any_eq_false]
    intro d hd
    show ¬ (!decide (d.qu=[]))=true
    rw [decide_eq_true (hq d hd)]
    decide
   rw [ea]
   wtm_at "wp"
   exact ⟨F7,ds,t,c7,23,_,rfl,L8,B7.calm hq,dl,.inl (Nat.le_refl _)⟩
  ·have ea:(ds.map (fun d:Nd => !decide (d.qu=[]))).any id=true:=by
    cases z:(ds.map (fun d:Nd => !decide (d.qu=[]))).any id with
    | true=>rfl
    | false=>
     refine absurd (fun d hd => ?_) hq
     rw [List.any_map,List.any_eq_false] at z
     have:=z d hd
     by_cases y:d.qu=[]
     ·exact y
     ·exact absurd (by show (!decide (d.qu=[]))=true;rw [decide_eq_false y];rfl) this
   rw [ea]
   wtm_at "wp"
   refine ⟨small (show 1≤1000 by decide),fun p4 hp4 => ?_⟩
   wtm_at "wp"
   refine kT af (by decide) (by decide) (small (by decide)) (fun f hf => ?_)
   rw [show (100:Int).toNat=100 from rfl,An]
   have L9:=(L8.more (aq hp4 (.lst [.int 0]))).more (aq hf (.lst ((List.replicate 100 (0:Int)).map V.int)))
   have nf:=(L8.more (aq hp4 (.lst [.int 0]))).bu.nF hf
   have ef:At (upd (upd H8 p4 (.lst [.int 0])) f (.lst ((List.replicate 100 (0:Int)).map V.int))) f _:=af
   generalize upd (upd H8 p4 (.lst [.int 0])) f (.lst ((List.replicate 100 (0:Int)).map V.int))=H9 at *
   wtm_at "wp"
   refine ⟨b,f,F7,as,ds,t,List.replicate 100 0,rfl,rfl,L9.bu.bus,hne,by omega,B7.ok,⟨sent.length,B7.few.mono (by omega) (Nat.le_refl _),by rw [List.length_replicate];omega⟩,At.sqL ef,fun xs _=>nf,fun D3 HF FF kF fD3 eD3 nD3 hF fF => ?_⟩
   obtain ⟨LF,_⟩:=L9.busTo kF hF fF
   wtm_at "wp"
   exact ⟨FF,_,_,_,_,_,rfl,LF,B7.zeros 100,by rw [dO];exact dl,by omega⟩
 rintro σ H7 ⟨F7,ds,t,c7,v,v6,rfl,L7,B7,dl,hv⟩
 clear L6 B6 dl6
 have al:=L7.bu.bus.len
 have B7:=B7.mono (show v≤23 by omega)
 wtm_at "wp"
 refine ⟨small (show 1≤1000 by decide),fun p4 hp4 => ?_⟩
 wtm_at "wp"
 refine kT af (by decide) (by decide) (small (by decide)) (fun f hf => ?_)
 rw [show (30:Int).toNat=30 from rfl,An]
 have L7b:=(L7.more (aq hp4 (.lst [.int 0]))).more (aq hf (.lst ((List.replicate 30 (0:Int)).map V.int)))
 have nf:=(L7.more (aq hp4 (.lst [.int 0]))).bu.nF hf
 have ef:At (upd (upd H7 p4 (.lst [.int 0])) f (.lst ((List.replicate 30 (0:Int)).map V.int))) f _:=af
 generalize upd (upd H7 p4 (.lst [.int 0])) f (.lst ((List.replicate 30 (0:Int)).map V.int))=H7b at *
 wtm_at "wp"
 refine ⟨b,f,F7,as,ds,t,List.replicate 30 0,rfl,rfl,L7b.bu.bus,hne,by omega,B7.ok,⟨sent.length,B7.few.mono (by omega) (Nat.le_refl _),by rw [List.length_replicate];omega⟩,At.sqL ef,fun xs _=>nf,fun D3 H8 F8 k8 fD3 eD3 nD3 h8 f8 => ?_⟩
 obtain ⟨L8,_⟩:=L7b.busTo k8 h8 f8
 have few8:=(B7.zeros 30).few
 obtain ⟨free,done,pm,nad,tk⟩:=(B7.zeros 30).over
 have dl8:(bA ds (List.replicate 30 0)).length=m:=by rw [dO];exact dl
 clear L7 L7b k8 h8 f8 B7 ef eD3
 generalize bA ds (List.replicate 30 0)=ds8 at *
 generalize t+(List.replicate 30 (0:Int)).length=t8 at *
 have al8:=L8.bu.bus.len
 wtm_at "wp"
 refine ⟨small (show 0≤1000 by decide),fun O hO => ?_⟩
 have s8o:=aq (o := .lst []) hO
 have eO0:At (upd H8 O (.lst [])) O (.lst []):=af
 generalize upd H8 O (.lst [])=H8o at *
 wtm_at "wp"
 refine iF ?_
 wtm_at "wp"
 refine fL m (fun i σ H9=>∃ (os:List Addr) (v9 v12 v13:Option V),σ=[some (.ref a),some (.int (m:Int)),some (.ref b),some (.ref S),some (.ref G5),some (.int last),v6,v7,v8,v9,v10,some (.ref O),v12,v13,none,none]∧Same H8 H9∧At H9 O (.lst (os.map V.ref))∧os.length=i∧∀ (j:Nat) x,os[j]? = some x→At H9 x (.lst (((done.filter fun x=>decide (x.at_≠j)).map nm).map V.int))∧x≠O) (by omega) (by omega) ⟨[],v9,none,none,rfl,s8o,eO0,rfl,fun j x e=>by simp at e⟩ ?_ ?_
 ·rintro i σ H9 hi ⟨os,v9',v12,v13,rfl,s9,eO,ol,hos⟩
  have L9:=L8.more s9
  have hid:i < ds8.length:=by omega
  have ed:=List.getElem?_eq_getElem hid
  have fw:=few8 _ (List.getElem_mem hid)
  have fr:=free _ (List.getElem_mem hid)
  have tki:=tk i _ ed
  generalize ds8[i]=d at *
  obtain ⟨_,_,_,_,e1,_⟩:=id L9.bu.bus.ex
  wtm_at "wp"
  refine ⟨b,F8,as,ds8,t8,i,d,rfl,rfl,L9.bu.bus,by omega,ed,by omega,fun D us HA sA fD eD pD => ?_⟩
  have LA:=L9.more sA
  have eSA:=LA.eS
  have sdA:=LA.sds
  have vl:vs.length=sent.length:=Paired.length sdA
  wtm_at "wp"
  refine bF ?_
  wtm_at "wp"
  refine iJ (xs:=vs) (fun D2 j ys HB=>Same HA HB∧aK HA D2∧At HB D2 (.lst ys)∧Frs HB ys (((sent.take j).filter fun x=>decide (x.at_≠i)).map (·.f))∧ys.length≤j) (At.sqL eSA) (small (by omega)) (fun D2 hD2=>⟨aq hD2 _,hD2,af,.nil,Nat.le_refl _⟩) (fun D2 j ys HB hj ⟨sB,fB,eB,sy,hy⟩=>⟨eB,At.sqL (sB.get eSA),hy⟩) (fun D2 j x ys HB hx ⟨sB,fB,eB,sy,hy⟩ => ?_) (fun D2 ys HB ⟨sB,fB,eB,sy,hy⟩ => ?_)
  ·obtain ⟨y,hyl,t2,ft,r,o,rfl,a1,a2,a3⟩:=ge sdA hx
   have hj:j < vs.length:=(List.getElem?_eq_some_iff.mp hx).1
   have b1:=sB.get a1
   show nX _ [some (.int (i:Int)),some (.ref t2)] _ _
   wtm_at "wp"
   refine dg (fun c1 => ?_) (fun c1 => ?_)
   ·show tOp _ _ _ [some (.int (i:Int)),some (.ref t2)] _ _
    wtm_at "wp"
    have kD:Kp [D2] HB (upd HB D2 (.lst (ys++[.ref ft]))):=(Kp.refl _ _).upd (by simp) eB (fun z=>z)
    refine j2 hj eB ⟨sB.upF fB,fB,af,?_,by rw [List.length_append,List.length_singleton];omega⟩
    rw [aY hyl,List.filter_append,List.filter_cons_of_pos (p:=fun x:Snd=>decide (x.at_≠i)) (decide_eq_true (show y.at_≠i by omega)),List.map_append]
    exact jI (sy.kp kD) (.cons ⟨ft,r,o,rfl,kD.tup (sB.get a2),kD.frz (sB.get a3)⟩ .nil)
   ·refine vP hj eB ⟨sB,fB,eB,?_,by omega⟩
    rw [aY hyl,List.filter_append,List.filter_cons_of_neg (by rw [decide_eq_false (show ¬ y.at_≠i by omega)];decide),List.filter_nil,List.append_nil]
    exact sy
  rw [vl,List.take_of_length_le (Nat.le_refl _)] at sy
  have pmi:(((done.filter fun x=>decide (x.at_≠i)).map (·.f)).Perm ((sent.filter fun x=>decide (x.at_≠i)).map (·.f))):=(pm.filter _).map _
  have nsi:((sent.filter fun x=>decide (x.at_≠i)).map (·.f)).Pairwise (fun a b:Fr=>a.1≠b.1):=by
   rw [List.pairwise_map]
   exact List.Pairwise.sublist List.filter_sublist na
  have ndi:((done.filter fun x=>decide (x.at_≠i)).map (·.f)).Pairwise (fun a b:Fr=>a.1≠b.1):=by
   rw [List.pairwise_map]
   exact List.Pairwise.sublist List.filter_sublist nad
  have lsi:((sent.filter fun x=>decide (x.at_≠i)).map (·.f)).length≤4:=by
   rw [List.length_map]
   exact Nat.le_trans (List.length_filter_le _ _) sl4
  have ldi:((done.filter fun x=>decide (x.at_≠i)).map (·.f)).length≤4:=by rw [pmi.length_eq];exact lsi
  have tnm:(d.tk.map (·.1))=(done.filter fun x=>decide (x.at_≠i)).map nm:=by rw [tki,List.map_map];rfl
  rw [← tki] at pmi ndi ldi
  have ps:Paired (TFr K HB) us d.tk:=Paired.mapP pD fun _ _ z=>dR (yz z) sB
  have py:Paired (TFr K HB) ys ((sent.filter fun x=>decide (x.at_≠i)).map (·.f)):=Paired.mapP sy fun _ _ z=>yA z
  have LB:=LA.more sB
  have eDB:=sB.get eD
  have ul:us.length=d.tk.length:=Paired.length pD
  have s9B:=(s9.trans sA).trans sB
  have eOB:=(sA.trans sB).get eO
  have hosB:∀ (j:Nat) x,os[j]? = some x→At HB x (.lst (((done.filter fun x=>decide (x.at_≠j)).map nm).map V.int))∧x≠O:=fun j x e=>⟨(sA.trans sB).get (hos j x e).1,(hos j x e).2⟩
  clear LA L9 eSA sdA sy hos eO e1
  wtm_at "wp"
  refine nR (At.sqL eDB) ps ldi ndi (fun E1 w1 g1 fE1 q1 o1 t1 => ?_)
  have sC:=aq (o := .lst w1) fE1
  have e1C:At (upd HB E1 (.lst w1)) E1 (.lst w1):=af
  generalize upd HB E1 (.lst w1)=HC at *
  have t1C:=Paired.mapP t1 fun _ _ z=>dR z sC
  have pyC:=Paired.mapP py fun _ _ z=>dR z sC
  wtm_at "wp"
  refine nR (At.sqL (sC.get eB)) pyC lsi nsi (fun E2 w2 g2 fE2 q2 o2 t2 => ?_)
  have sD:=aq (o := .lst w2) fE2
  have e2D:At (upd HC E2 (.lst w2)) E2 (.lst w2):=af
  generalize upd HC E2 (.lst w2)=HD at *
  have eg:g1=g2:=nL (q1.trans (pmi.trans q2.symm)) o1 o2
  subst eg
  have LD:=LB.more (sC.trans sD)
  obtain ⟨_,_,_,_,e1,_⟩:=id LD.bu.bus.ex
  refine yB (At.sqL (sD.get e1C)) (Paired.mapP t1C fun _ _ z=>dR z sD) (At.sqL e2D) (Paired.mapP t2 fun _ _ z=>dR z sD) ?_
  wtm_at "wp"
  refine ⟨b,F8,as,ds8,t8,i,d,rfl,rfl,LD.bu.bus,by omega,ed,by omega,fun D4 us4 HE sE fD4 eD4 pD4 => ?_⟩
  rw [fr.2] at pD4
  cases pD4
  have e1E:=sE.get e1
  wtm_at "wp"
  refine ⟨small (show 0≤1000 by decide),fun p5 hp5 => ?_⟩
  refine nQ (At.sqL (aC hp5 eD4)) (At.sqL af) ?_
  have sF:=sE.new (o := .lst []) hp5
  have e1F:=aC (x := .lst []) hp5 e1E
  generalize upd HE p5 (.lst [])=HF at *
  rw [decide_eq_true rfl]
  wtm_at "wp"
  refine ⟨b,F8,as,ds8,t8,i,d,rfl,rfl,LD.bu.bus.same sF,by omega,ed,?_⟩
  wtm_at "wp"
  rw [fr.1]
  refine dg (fun z=>absurd rfl z) (fun _ => ?_)
  have sBF:=sC.trans (sD.trans sF)
  have eOF:=sBF.get eOB
  have eDF:=sBF.get eDB
  have pDF:Paired (TFr K HF) us d.tk:=Paired.mapP ps fun _ _ z=>dR z sBF
  wtm_at "wp"
  refine bF ?_
  wtm_at "wp"
  refine fP (xs:=us) (fun D6 j ys HG=>Same HF HG∧aK HF D6∧At HG D6 (.lst ys)∧ys=((d.tk.take j).map (·.1)).map V.int∧ys.length≤j) (At.sqL eDF) (small (by omega)) (fun D6 h6=>⟨aq h6 _,h6,af,rfl,Nat.le_refl _⟩) (fun D6 j ys HG hj ⟨sG,fG6,eG6,ey,hy⟩=>⟨eG6,At.sqL (sG.get eDF),hy⟩) (fun D6 j x ys HG hx ⟨sG,fG6,eG6,ey,hy⟩ => ?_) (fun D6 ys HG ⟨sG,fG6,eG6,ey,hy⟩ => ?_)
  ·obtain ⟨g,hg,t3,r3,rfl,a1,a2⟩:=ge pDF hx
   have hj:j < us.length:=(List.getElem?_eq_some_iff.mp hx).1
   have b1:=sG.tup a1
   show tOp _ _ _ [some (.ref t3)] _ _
   wtm_at "wp"
   refine j2 hj eG6 ⟨sG.upF fG6,fG6,af,?_,by rw [List.length_append,List.length_singleton];omega⟩
   rw [aY hg,List.map_append,List.map_append,← ey]
   rfl
  rw [ul,List.take_of_length_le (Nat.le_refl _),tnm] at ey
  rw [ey] at eG6
  have eOG:=sG.get eOF
  have nD6:D6≠O:=(aE eOF fG6).symm
  have sAll:=(s9B.trans sBF).trans sG
  wtm_at "wp"
  refine bE eOG (bo (by rw [List.length_map];omega)) ?_
  wtm_at "wp"
  refine ⟨os++[D6],_,_,_,rfl,sAll.upF hO,by rw [List.map_append];exact af,by rw [List.length_append,ol];rfl,fun j x e => ?_⟩
  rcases Nat.lt_or_ge j os.length with z | z
  ·rw [List.getElem?_append_left z] at e
   exact ⟨aL (hosB j x e).2 ((sBF.trans sG).get (hosB j x e).1),(hosB j x e).2⟩
  ·have hj:j=os.length:=by
    have:=(List.getElem?_eq_some_iff.mp e).1
    rw [List.length_append,List.length_singleton] at this
    omega
   subst hj
   rw [List.getElem?_append_right (Nat.le_refl _),Nat.sub_self] at e
   cases e
   rw [ol]
   exact ⟨aL nD6 eG6,nD6⟩
 rintro σ H9 ⟨os,v9',v12,v13,rfl,s9,eO,ol,hos⟩
 wtm_at "wp"
 refine cO ?_
 wtm_at "wp"
 refine bZ (xs:=os.map V.ref) (fun j σ HA=>∃ v14 v15:Option V,σ=[some (.ref a),some (.int (m:Int)),some (.ref b),some (.ref S),some (.ref G5),some (.int last),v6,v7,v8,v9',v10,some (.ref O),v12,v13,v14,v15]∧Same H9 HA) (At.sqL eO) ⟨none,none,rfl,Same.refl _⟩ (fun j σ HA _ ⟨_,_,_,s⟩=>At.sqL (s.get eO)) ?_ ?_
 rotate_left
 ·rintro σ HA ⟨v14,v15,rfl,sA⟩
  wtm_at "wp"
  exact q _
 rintro j x σ HA hx ⟨v14,v15,rfl,sA⟩
 obtain ⟨x1,hx1,rfl⟩:∃ x1,os[j]? = some x1∧V.ref x1=x:=by rw [List.getElem?_map] at hx;exact Option.map_eq_some_iff.mp hx
 have eOA:=sA.get eO
 wtm_at "wp"
 refine cO ?_
 wtm_at "wp"
 refine bZ (xs:=os.map V.ref) (fun k σ HB=>∃ v15:Option V,σ=[some (.ref a),some (.int (m:Int)),some (.ref b),some (.ref S),some (.ref G5),some (.int last),v6,v7,v8,v9',v10,some (.ref O),v12,v13,some (.ref x1),v15]∧Same HA HB) (At.sqL eOA) ⟨v15,rfl,Same.refl _⟩ (fun k σ HB _ ⟨_,_,s⟩=>At.sqL (s.get eOA)) ?_ ?_
 rotate_left
 ·rintro σ HB ⟨v15',rfl,sB⟩
  exact ⟨_,_,rfl,sA.trans sB⟩
 rintro k y σ HB hy ⟨v15',rfl,sB⟩
 obtain ⟨y1,hy1,rfl⟩:∃ y1,os[k]? = some y1∧V.ref y1=y:=by rw [List.getElem?_map] at hy;exact Option.map_eq_some_iff.mp hy
 have e1:=(sA.trans sB).get (hos j x1 hx1).1
 have e2:=(sA.trans sB).get (hos k y1 hy1).1
 have same:=oE nad (fun x=>decide (x.at_≠j)) (fun x=>decide (x.at_≠k))
 have len:∀ j:Nat,((done.filter fun x=>decide (x.at_≠j)).map nm).length≤4:=fun j=>by
  rw [List.length_map]
  exact Nat.le_trans (List.length_filter_le _ _) (by rw [pm.length_eq];exact sl4)
 have l1:=len j
 have l2:=len k
 generalize (done.filter fun x=>decide (x.at_≠j)).map nm=n1 at *
 generalize (done.filter fun x=>decide (x.at_≠k)).map nm=n2 at *
 have m1':(n1.map V.int).length=n1.length:=List.length_map _
 have m2':(n2.map V.int).length=n2.length:=List.length_map _
 wtm_at "wp"
 refine bF ?_
 wtm_at "wp"
 refine iJ (xs:=n1.map V.int) (fun D i ys HC=>Same HB HC∧aK HB D∧At HC D (.lst ys)∧ys=((n1.take i).filter (fun n=>decide (n∈n2))).map V.int∧ys.length≤i) (At.sqL e1) (by rw [m1'];exact small (by omega)) (fun D hD=>⟨aq hD _,hD,af,rfl,Nat.le_refl _⟩) (fun D i ys HC hi ⟨sC,fC,eC,ey,hl⟩=>⟨eC,At.sqL (sC.get e1),hl⟩) (fun D i x ys HC hx ⟨sC,fC,eC,ey,hl⟩ => ?_) (fun D ys HC ⟨sC,fC,eC,ey,hl⟩ => ?_)
 ·obtain ⟨n,hn,rfl⟩:=cA hx
  have hi:i < (n1.map V.int).length:=(List.getElem?_eq_some_iff.mp hx).1
  show nX _ [some (.ref y1),some (.int n)] _ _
  wtm_at "wp"
  refine vq (.inl (At.sqL (sC.get e2))) rfl (dh _) ?_
  rw [mW]
  refine ⟨decide (n∈n2),rfl,?_⟩
  refine aO (fun c1 => ?_) (fun c1 => ?_)
  ·show jb 1 [some (.ref y1),some (.int n)] _ _
   wtm_at "wp"
   refine j2 hi eC ⟨sC.upF fC,fC,af,?_,by rw [List.length_append,List.length_singleton];omega⟩
   rw [aY hn,List.filter_append,List.filter_cons_of_pos (p:=fun n=>decide (n∈n2)) (decide_eq_true c1),List.map_append,← ey]
   rfl
  ·refine vP hi eC ⟨sC,fC,eC,?_,by omega⟩
   rw [aY hn,List.filter_append,List.filter_cons_of_neg (by rw [decide_eq_false c1];decide),List.filter_nil,List.append_nil]
   exact ey
 rw [m1',List.take_of_length_le (Nat.le_refl _)] at ey
 rw [ey] at eC
 have e1C:=sC.get e1
 have e2C:=sC.get e2
 wtm_at "wp"
 refine bF ?_
 wtm_at "wp"
 refine iJ (xs:=n2.map V.int) (fun D2 i zs HD=>Same HC HD∧aK HC D2∧At HD D2 (.lst zs)∧zs=((n2.take i).filter (fun n=>decide (n∈n1))).map V.int∧zs.length≤i) (At.sqL e2C) (by rw [m2'];exact small (by omega)) (fun D hD=>⟨aq hD _,hD,af,rfl,Nat.le_refl _⟩) (fun D i ys HD hi ⟨sD,fD,eD,ey,hl⟩=>⟨eD,At.sqL (sD.get e2C),hl⟩) (fun D i x zs HD hx ⟨sD,fD,eD,ez,hl⟩ => ?_) (fun D2 zs HD ⟨sD,fD,eD,ez,hl⟩ => ?_)
 ·obtain ⟨n,hn,rfl⟩:=cA hx
  have hi:i < (n2.map V.int).length:=(List.getElem?_eq_some_iff.mp hx).1
  show nX _ [some (.ref x1),some (.int n)] _ _
  wtm_at "wp"
  refine vq (.inl (At.sqL (sD.get e1C))) rfl (dh _) ?_
  rw [mW]
  refine ⟨decide (n∈n1),rfl,?_⟩
  refine aO (fun c1 => ?_) (fun c1 => ?_)
  ·show jb 1 [some (.ref x1),some (.int n)] _ _
   wtm_at "wp"
   refine j2 hi eD ⟨sD.upF fD,fD,af,?_,by rw [List.length_append,List.length_singleton];omega⟩
   rw [aY hn,List.filter_append,List.filter_cons_of_pos (p:=fun n=>decide (n∈n1)) (decide_eq_true c1),List.map_append,← ez]
   rfl
  ·refine vP hi eD ⟨sD,fD,eD,?_,by omega⟩
   rw [aY hn,List.filter_append,List.filter_cons_of_neg (by rw [decide_eq_false c1];decide),List.filter_nil,List.append_nil]
   exact ez
 rw [m2',List.take_of_length_le (Nat.le_refl _)] at ez
 rw [ez] at eD
 refine pX (At.sqL (sD.get eC)) (At.sqL eD) ?_
 rw [decide_eq_true same]
 wtm_at "wp"
 exact ⟨_,rfl,sB.trans (sC.trans sD)⟩
end BB
set_option maxHeartbeats 4000000
set_option maxRecDepth 100000
set_option linter.unusedVariables false
namespace BB
open PySem L2
theorem gQ {K:PySem.W.Frag} {C:Addr} {b:Value} {r:Bool} (h:PySem.W.mroIn K C b=some r):(PySem.W.clsIn K C).isSome=true:=by
 obtain ⟨cd,a,_⟩:=Option.bind_eq_some_iff.mp h
 rw [a]
 rfl
def Fd (K:PySem.W.Frag) (f:Addr) (x q:Str) (st:Stmt):Prop:=∃ fd,Fun K x q st f fd
section
variable {K:PySem.W.Frag} {h:Heap} {mg:Str→Option Value} {f C:Addr} {x q:Str} {st:Stmt}
theorem fd_mk {oc:Value} {od an:Option Addr} {sl:Array (Option Value)} {kV dc pm cd ct:Value} (l:K.lookup f=some ⟨oc,od,.func (PySem.W.fnOf x q (gw st) (bJ st) (ag st) .none kV dc pm an cd ct),sl⟩) (c:PySem.W.codeIn K cd q=true) (k:PySem.W.keepIn K (.ref f)=true):Fd K f x q st:=⟨_,w9 (st:=st) l c k⟩
theorem Fd.df (l:Fd K f x x st) (X:K.In h) (G:h.Ns mainGlobals mg) (a:PySem.W.nsIn K mainGlobals x=some (some (.ref f))):DefAt K mg x st:=let ⟨_,F⟩:=l;⟨_,_,F,PySem.W.mg_of X G a⟩
theorem Fd.mt (l:Fd K f x q st) (a:PySem.W.findIn K (.ref C) x=some (some (.ref f))) (b:PySem.W.isFn K (.ref f)=true):MethAt K C x q st:=let ⟨_,F⟩:=l;⟨_,_,F,⟨a,b,F.kp⟩⟩
theorem Fd.ini (l:Fd K f "__init__" q st) (z:PySem.W.makesIn K C=true) (a:PySem.W.findIn K (.ref C) "__init__" = some (some (.ref f))) (b:PySem.W.isFn K (.ref f)=true) (p:PySem.W.keepIn K (.ref C)=true):InitAt K C q st:=let ⟨_,F⟩:=l;⟨_,_,F,⟨z,a,b,p⟩⟩
end
open PySem.W in
theorem txt_mk {K:PySem.W.Frag} {h:Heap} {mg:Str→Option Value} {cE cF cN cB cR cD cU:Addr} (X:K.In h) (G:h.Ns mainGlobals mg)
  {t11 t12 t13 t14 t15 t16 t17 t18 t19 t20 t21 t22 t23 t24 t25 t26 t27 t28 t29 t30 t31 t32 t33 t34:Tok} {f42 f43 f44 f45 f46 f47 f48 f49 f50 f51 f52 f53 f54 f55 f56 f57 f58 f59 f60 f61 f62 f63 f64 f65 f66 f67 f68 f69 f70 f71 f72 f73 f74 f75 f76 f77 f78 f79 f80 f81 f82 f83 f84 f85 f86 f87 f88 f89 f90 f91 f92:Addr}
  (z1:nsIn K mainGlobals "range" = some none)
  (z2:nsIn K mainGlobals "len" = some none)
  (z3:nsIn K mainGlobals "isinstance" = some none)
  (z4:nsIn K mainGlobals "any" = some none)
  (z5:nsIn K mainGlobals "int" = some none)
  (z6:nsIn K mainGlobals "bool" = some none)
  (z7:nsIn K mainGlobals "list" = some none)
  (z8:nsIn K mainGlobals "min" = some none)
  (z9:nsIn K mainGlobals "sorted" = some none)
  (z10:nsIn K mainGlobals "ValueError" = some none)
  (g11:nsIn K mainGlobals "HIGHEST_NAME" = some (some (.int 2047 t11)))
  (g12:nsIn K mainGlobals "HIGHEST_BYTE" = some (some (.int 255 t12)))
  (g13:nsIn K mainGlobals "MOST_BYTES" = some (some (.int 8 t13)))
  (g14:nsIn K mainGlobals "NAME_BITS" = some (some (.int 11 t14)))
  (g15:nsIn K mainGlobals "COUNT_BITS" = some (some (.int 4 t15)))
  (g16:nsIn K mainGlobals "BYTE_BITS" = some (some (.int 8 t16)))
  (g17:nsIn K mainGlobals "CHECK_BITS" = some (some (.int 15 t17)))
  (g18:nsIn K mainGlobals "CHECK_TURNS" = some (some (.int 17817 t18)))
  (g19:nsIn K mainGlobals "CHECK_HIGHEST" = some (some (.int 32767 t19)))
  (g20:nsIn K mainGlobals "MOST_LIKE_BITS" = some (some (.int 5 t20)))
  (g21:nsIn K mainGlobals "NAME_AT" = some (some (.int 1 t21)))
  (g22:nsIn K mainGlobals "COUNT_AT" = some (some (.int 12 t22)))
  (g23:nsIn K mainGlobals "ROW_AT" = some (some (.int 16 t23)))
  (g24:nsIn K mainGlobals "FREE" = some (some (.str "free" t24)))
  (g25:nsIn K mainGlobals "FRAME" = some (some (.str "frame" t25)))
  (g26:nsIn K mainGlobals "CRY" = some (some (.str "cry" t26)))
  (g27:nsIn K mainGlobals "DAZED" = some (some (.str "dazed" t27)))
  (g28:nsIn K mainGlobals "REST" = some (some (.str "rest" t28)))
  (g29:nsIn K mainGlobals "CRIED_BITS" = some (some (.int 6 t29)))
  (g30:nsIn K mainGlobals "DAZED_ONES" = some (some (.int 8 t30)))
  (g31:nsIn K mainGlobals "REST_ONES" = some (some (.int 3 t31)))
  (g32:nsIn K mainGlobals "ANSWER_AT" = some (some (.int 1 t32)))
  (g33:nsIn K mainGlobals "BITS_BEHIND" = some (some (.int 10 t33)))
  (g34:nsIn K mainGlobals "MOST_NODES" = some (some (.int 8 t34)))
  (m35:nsIn K mainGlobals "BusError" = some (some (.ref cE)))
  (m36:nsIn K mainGlobals "BadFrame" = some (some (.ref cF)))
  (m37:nsIn K mainGlobals "NoNode" = some (some (.ref cN)))
  (m38:nsIn K mainGlobals "BadBits" = some (some (.ref cB)))
  (m39:nsIn K mainGlobals "Reading" = some (some (.ref cR)))
  (m40:nsIn K mainGlobals "Node" = some (some (.ref cD)))
  (m41:nsIn K mainGlobals "Bus" = some (some (.ref cU)))
  (a42:nsIn K mainGlobals "in_bits" = some (some (.ref f42)))
  (l42:Fd K f42 "in_bits" "in_bits" (top 20))
  (a43:nsIn K mainGlobals "number_of" = some (some (.ref f43)))
  (l43:Fd K f43 "number_of" "number_of" (top 21))
  (a44:nsIn K mainGlobals "check_of" = some (some (.ref f44)))
  (l44:Fd K f44 "check_of" "check_of" (top 22))
  (a45:nsIn K mainGlobals "refuse_bad_frame" = some (some (.ref f45)))
  (l45:Fd K f45 "refuse_bad_frame" "refuse_bad_frame" (top 23))
  (a46:nsIn K mainGlobals "bits_of" = some (some (.ref f46)))
  (l46:Fd K f46 "bits_of" "bits_of" (top 24))
  (a47:nsIn K mainGlobals "is_one_due" = some (some (.ref f47)))
  (l47:Fd K f47 "is_one_due" "is_one_due" (top 25))
  (a48:nsIn K mainGlobals "stuffed" = some (some (.ref f48)))
  (l48:Fd K f48 "stuffed" "stuffed" (top 26))
  (a49:nsIn K mainGlobals "head_choices" = some (some (.ref f49)))
  (l49:Fd K f49 "head_choices" "head_choices" (top 27))
  (a50:nsIn K mainGlobals "check_place" = some (some (.ref f50)))
  (l50:Fd K f50 "check_place" "check_place" (top 28))
  (a51:nsIn K mainGlobals "plain_choices" = some (some (.ref f51)))
  (l51:Fd K f51 "plain_choices" "plain_choices" (top 29))
  (a52:nsIn K mainGlobals "choices_behind" = some (some (.ref f52)))
  (l52:Fd K f52 "choices_behind" "choices_behind" (top 30))
  (a53:nsIn K mainGlobals "parts_of" = some (some (.ref f53)))
  (l53:Fd K f53 "parts_of" "parts_of" (top 31))
  (a54:findIn K (.ref cR) "__init__" = some (some (.ref f54)))
  (b54:isFn K (.ref f54)=true)
  (q54:makesIn K cR=true)
  (p54:keepIn K (.ref cR)=true)
  (l54:Fd K f54 "__init__" "Reading.__init__" (ai (top 32) 0))
  (a55:findIn K (.ref cR) "take" = some (some (.ref f55)))
  (b55:isFn K (.ref f55)=true)
  (l55:Fd K f55 "take" "Reading.take" (ai (top 32) 1))
  (a56:findIn K (.ref cR) "is_over" = some (some (.ref f56)))
  (b56:isFn K (.ref f56)=true)
  (l56:Fd K f56 "is_over" "Reading.is_over" (ai (top 32) 2))
  (a57:findIn K (.ref cR) "is_at_name" = some (some (.ref f57)))
  (b57:isFn K (.ref f57)=true)
  (l57:Fd K f57 "is_at_name" "Reading.is_at_name" (ai (top 32) 3))
  (a58:findIn K (.ref cD) "__init__" = some (some (.ref f58)))
  (b58:isFn K (.ref f58)=true)
  (q58:makesIn K cD=true)
  (p58:keepIn K (.ref cD)=true)
  (l58:Fd K f58 "__init__" "Node.__init__" (ai (top 44) 0))
  (a59:findIn K (.ref cD) "has_waiting" = some (some (.ref f59)))
  (b59:isFn K (.ref f59)=true)
  (l59:Fd K f59 "has_waiting" "Node.has_waiting" (ai (top 44) 1))
  (a60:findIn K (.ref cD) "let_wait" = some (some (.ref f60)))
  (b60:isFn K (.ref f60)=true)
  (l60:Fd K f60 "let_wait" "Node.let_wait" (ai (top 44) 2))
  (a61:findIn K (.ref cD) "begin_if_free" = some (some (.ref f61)))
  (b61:isFn K (.ref f61)=true)
  (l61:Fd K f61 "begin_if_free" "Node.begin_if_free" (ai (top 44) 3))
  (a62:findIn K (.ref cD) "put" = some (some (.ref f62)))
  (b62:isFn K (.ref f62)=true)
  (l62:Fd K f62 "put" "Node.put" (ai (top 44) 4))
  (a63:findIn K (.ref cD) "put_in_frame" = some (some (.ref f63)))
  (b63:isFn K (.ref f63)=true)
  (l63:Fd K f63 "put_in_frame" "Node.put_in_frame" (ai (top 44) 5))
  (a64:findIn K (.ref cD) "hear" = some (some (.ref f64)))
  (b64:isFn K (.ref f64)=true)
  (l64:Fd K f64 "hear" "Node.hear" (ai (top 44) 6))
  (a65:findIn K (.ref cD) "hear_in_frame" = some (some (.ref f65)))
  (b65:isFn K (.ref f65)=true)
  (l65:Fd K f65 "hear_in_frame" "Node.hear_in_frame" (ai (top 44) 7))
  (a66:findIn K (.ref cD) "hear_stuffed" = some (some (.ref f66)))
  (b66:isFn K (.ref f66)=true)
  (l66:Fd K f66 "hear_stuffed" "Node.hear_stuffed" (ai (top 44) 8))
  (a67:findIn K (.ref cD) "hears_another" = some (some (.ref f67)))
  (b67:isFn K (.ref f67)=true)
  (l67:Fd K f67 "hears_another" "Node.hears_another" (ai (top 44) 9))
  (a68:findIn K (.ref cD) "hear_behind" = some (some (.ref f68)))
  (b68:isFn K (.ref f68)=true)
  (l68:Fd K f68 "hear_behind" "Node.hear_behind" (ai (top 44) 10))
  (a69:findIn K (.ref cD) "is_wrong_behind" = some (some (.ref f69)))
  (b69:isFn K (.ref f69)=true)
  (l69:Fd K f69 "is_wrong_behind" "Node.is_wrong_behind" (ai (top 44) 11))
  (a70:findIn K (.ref cD) "hear_dazed" = some (some (.ref f70)))
  (b70:isFn K (.ref f70)=true)
  (l70:Fd K f70 "hear_dazed" "Node.hear_dazed" (ai (top 44) 12))
  (a71:findIn K (.ref cD) "hear_between" = some (some (.ref f71)))
  (b71:isFn K (.ref f71)=true)
  (l71:Fd K f71 "hear_between" "Node.hear_between" (ai (top 44) 13))
  (a72:findIn K (.ref cD) "enter_frame" = some (some (.ref f72)))
  (b72:isFn K (.ref f72)=true)
  (l72:Fd K f72 "enter_frame" "Node.enter_frame" (ai (top 44) 14))
  (a73:findIn K (.ref cD) "end_frame" = some (some (.ref f73)))
  (b73:isFn K (.ref f73)=true)
  (l73:Fd K f73 "end_frame" "Node.end_frame" (ai (top 44) 15))
  (a74:findIn K (.ref cD) "drop_first" = some (some (.ref f74)))
  (b74:isFn K (.ref f74)=true)
  (l74:Fd K f74 "drop_first" "Node.drop_first" (ai (top 44) 16))
  (a75:findIn K (.ref cD) "cry_out" = some (some (.ref f75)))
  (b75:isFn K (.ref f75)=true)
  (l75:Fd K f75 "cry_out" "Node.cry_out" (ai (top 44) 17))
  (a76:findIn K (.ref cD) "pass_one" = some (some (.ref f76)))
  (b76:isFn K (.ref f76)=true)
  (l76:Fd K f76 "pass_one" "Node.pass_one" (ai (top 44) 18))
  (a77:findIn K (.ref cD) "turn_to" = some (some (.ref f77)))
  (b77:isFn K (.ref f77)=true)
  (l77:Fd K f77 "turn_to" "Node.turn_to" (ai (top 44) 19))
  (a78:nsIn K mainGlobals "copies_of" = some (some (.ref f78)))
  (l78:Fd K f78 "copies_of" "copies_of" (top 47))
  (a79:findIn K (.ref cU) "__init__" = some (some (.ref f79)))
  (b79:isFn K (.ref f79)=true)
  (q79:makesIn K cU=true)
  (p79:keepIn K (.ref cU)=true)
  (l79:Fd K f79 "__init__" "Bus.__init__" (ai (top 48) 0))
  (a80:findIn K (.ref cU) "node_at" = some (some (.ref f80)))
  (b80:isFn K (.ref f80)=true)
  (l80:Fd K f80 "node_at" "Bus.node_at" (ai (top 48) 1))
  (a81:findIn K (.ref cU) "heard" = some (some (.ref f81)))
  (b81:isFn K (.ref f81)=true)
  (l81:Fd K f81 "heard" "Bus.heard" (ai (top 48) 3))
  (a82:findIn K (.ref cU) "waits" = some (some (.ref f82)))
  (b82:isFn K (.ref f82)=true)
  (l82:Fd K f82 "waits" "Bus.waits" (ai (top 48) 4))
  (a83:findIn K (.ref cU) "mode" = some (some (.ref f83)))
  (b83:isFn K (.ref f83)=true)
  (l83:Fd K f83 "mode" "Bus.mode" (ai (top 48) 6))
  (a84:nsIn K mainGlobals "waits_elsewhere" = some (some (.ref f84)))
  (l84:Fd K f84 "waits_elsewhere" "waits_elsewhere" (top 49))
  (a85:nsIn K mainGlobals "send" = some (some (.ref f85)))
  (l85:Fd K f85 "send" "send" (top 50))
  (a86:nsIn K mainGlobals "step" = some (some (.ref f86)))
  (l86:Fd K f86 "step" "step" (top 51))
  (a87:nsIn K mainGlobals "run" = some (some (.ref f87)))
  (l87:Fd K f87 "run" "run" (top 52))
  (a88:nsIn K mainGlobals "_law_cell" = some (some (.ref f88)))
  (l88:Fd K f88 "_law_cell" "_law_cell" (top 54))
  (a89:nsIn K mainGlobals "_law_mix" = some (some (.ref f89)))
  (l89:Fd K f89 "_law_mix" "_law_mix" (top 55))
  (a90:nsIn K mainGlobals "_law_frame" = some (some (.ref f90)))
  (l90:Fd K f90 "_law_frame" "_law_frame" (top 57))
  (a91:nsIn K mainGlobals "_law_told" = some (some (.ref f91)))
  (l91:Fd K f91 "_law_told" "_law_told" (top 58))
  (a92:nsIn K mainGlobals "law" = some (some (.ref f92)))
  (l92:Fd K f92 "law" "law" (top 59))
  (w93a:plainGet K cR Str.empty=true)
  (w93b:hasDictIn K cR=true)
  (w93c:plainOver K cR=true)
  (w93d:findIn K (.ref cR) "__setattr__" = some (some (.builtin "object.__setattr__")))
  (n94:findIn K (.ref cR) "wire" = some none)
  (n95:findIn K (.ref cR) "plain" = some none)
  (n96:findIn K (.ref cR) "choices" = some none)
  (w97a:plainGet K cD Str.empty=true)
  (w97b:hasDictIn K cD=true)
  (w97c:plainOver K cD=true)
  (w97d:findIn K (.ref cD) "__setattr__" = some (some (.builtin "object.__setattr__")))
  (n98:findIn K (.ref cD) "state" = some none)
  (n99:findIn K (.ref cD) "passed" = some none)
  (n100:findIn K (.ref cD) "reading" = some none)
  (n101:findIn K (.ref cD) "sending" = some none)
  (n102:findIn K (.ref cD) "queue" = some none)
  (n103:findIn K (.ref cD) "taken" = some none)
  (n104:findIn K (.ref cD) "fault_count" = some none)
  (w105a:plainGet K cU Str.empty=true)
  (w105b:hasDictIn K cU=true)
  (w105c:plainOver K cU=true)
  (w105d:findIn K (.ref cU) "__setattr__" = some (some (.builtin "object.__setattr__")))
  (n106:findIn K (.ref cU) "nodes" = some none)
  (n107:findIn K (.ref cU) "bits_past" = some none)
  (y108:kitOne K (.type "int") (.type "bool")=some false)
  (x109:excIn K cF [.type "ValueError",.type "Exception",.type "BaseException",.type "object"] "ValueError.__new__" = true)
  (u110:mroIn K cF (.ref cE)=some true)
  (e111_0:findIn K (.ref cF) "__getattribute__" = some (some (.builtin "BaseException.__getattribute__")))
  (e111_1:findIn K (.ref cF) "__getattr__" = some none)
  (e111_2:findIn K (.ref cF) "__class__" = some (some (.builtin "object.__class__")))
  (e111_3:specialIn K (.builtin "object.__class__") "__get__" = some (some (.builtin "getset_descriptor.__get__")))
  (e111_4:takesIn K (.builtin "object.__class__")=some true)
  (e111_5:mroIn K cF (.type "object")=some true)
  (e111_6:mroIn K cF (.type "BaseException")=some true)
  (x112:excIn K cN [.type "ValueError",.type "Exception",.type "BaseException",.type "object"] "ValueError.__new__" = true)
  (u113:mroIn K cN (.ref cE)=some true)
  (e114_0:findIn K (.ref cN) "__getattribute__" = some (some (.builtin "BaseException.__getattribute__")))
  (e114_1:findIn K (.ref cN) "__getattr__" = some none)
  (e114_2:findIn K (.ref cN) "__class__" = some (some (.builtin "object.__class__")))
  (e114_3:specialIn K (.builtin "object.__class__") "__get__" = some (some (.builtin "getset_descriptor.__get__")))
  (e114_4:takesIn K (.builtin "object.__class__")=some true)
  (e114_5:mroIn K cN (.type "object")=some true)
  (e114_6:mroIn K cN (.type "BaseException")=some true)
  (y115:kitOne K (.ref cF) (.ref cF)=some true)
  (y116:kitOne K (.ref cF) (.ref cN)=some false)
  (y117:kitOne K (.ref cF) (.ref cB)=some false)
  (y118:kitOne K (.ref cF) (.type "ValueError")=some true)
  (y119:kitOne K (.ref cN) (.ref cF)=some false)
  (y120:kitOne K (.ref cN) (.ref cN)=some true)
  (y121:kitOne K (.ref cN) (.ref cB)=some false)
  (y122:kitOne K (.ref cN) (.type "ValueError")=some true)
  (y123:kitAny K (.ref cF) [.ref cB,.ref cN]=some false)
  (u124:typeIn K (.ref cE)=some (.type "type"))
  (u125:mroIn K cE (.type "object")=some true)
  (u126:mroIn K cE (.type "BaseException")=some true)
  : ∃ (c:Cs) (f:Addr) (fd:FuncData),Txt K mg c∧Fun K "law" "law" (top 59) f fd∧mg "law" = some (.ref f)∧(∀ (s:Shared) (v:Value),BindsTo s fd ⟨[v],[]⟩ [("_law_script",v)]):=by
 have T:Txt K mg ⟨cE,cF,cN,cB,cR,cD,cU⟩:=by
  constructor
  ·exact PySem.W.mg_none_of X G z1
  ·exact PySem.W.mg_none_of X G z2
  ·exact PySem.W.mg_none_of X G z3
  ·exact PySem.W.mg_none_of X G z4
  ·exact PySem.W.mg_none_of X G z5
  ·exact PySem.W.mg_none_of X G z6
  ·exact PySem.W.mg_none_of X G z7
  ·exact PySem.W.mg_none_of X G z8
  ·exact PySem.W.mg_none_of X G z9
  ·exact PySem.W.mg_none_of X G z10
  ·exact ⟨_,PySem.W.mg_of X G g11⟩
  ·exact ⟨_,PySem.W.mg_of X G g12⟩
  ·exact ⟨_,PySem.W.mg_of X G g13⟩
  ·exact ⟨_,PySem.W.mg_of X G g14⟩
  ·exact ⟨_,PySem.W.mg_of X G g15⟩
  ·exact ⟨_,PySem.W.mg_of X G g16⟩
  ·exact ⟨_,PySem.W.mg_of X G g17⟩
  ·exact ⟨_,PySem.W.mg_of X G g18⟩
  ·exact ⟨_,PySem.W.mg_of X G g19⟩
  ·exact ⟨_,PySem.W.mg_of X G g20⟩
  ·exact ⟨_,PySem.W.mg_of X G g21⟩
  ·exact ⟨_,PySem.W.mg_of X G g22⟩
  ·exact ⟨_,PySem.W.mg_of X G g23⟩
  ·exact ⟨_,PySem.W.mg_of X G g24⟩
  ·exact ⟨_,PySem.W.mg_of X G g25⟩
  ·exact ⟨_,PySem.W.mg_of X G g26⟩
  ·exact ⟨_,PySem.W.mg_of X G g27⟩
  ·exact ⟨_,PySem.W.mg_of X G g28⟩
  ·exact ⟨_,PySem.W.mg_of X G g29⟩
  ·exact ⟨_,PySem.W.mg_of X G g30⟩
  ·exact ⟨_,PySem.W.mg_of X G g31⟩
  ·exact ⟨_,PySem.W.mg_of X G g32⟩
  ·exact ⟨_,PySem.W.mg_of X G g33⟩
  ·exact ⟨_,PySem.W.mg_of X G g34⟩
  ·exact PySem.W.mg_of X G m35
  ·exact PySem.W.mg_of X G m36
  ·exact PySem.W.mg_of X G m37
  ·exact PySem.W.mg_of X G m38
  ·exact PySem.W.mg_of X G m39
  ·exact PySem.W.mg_of X G m40
  ·exact PySem.W.mg_of X G m41
  ·exact l42.df X G a42
  ·exact l43.df X G a43
  ·exact l44.df X G a44
  ·exact l45.df X G a45
  ·exact l46.df X G a46
  ·exact l47.df X G a47
  ·exact l48.df X G a48
  ·exact l49.df X G a49
  ·exact l50.df X G a50
  ·exact l51.df X G a51
  ·exact l52.df X G a52
  ·exact l53.df X G a53
  ·exact l54.ini q54 a54 b54 p54
  ·exact l55.mt a55 b55
  ·exact l56.mt a56 b56
  ·exact l57.mt a57 b57
  ·exact l58.ini q58 a58 b58 p58
  ·exact l59.mt a59 b59
  ·exact l60.mt a60 b60
  ·exact l61.mt a61 b61
  ·exact l62.mt a62 b62
  ·exact l63.mt a63 b63
  ·exact l64.mt a64 b64
  ·exact l65.mt a65 b65
  ·exact l66.mt a66 b66
  ·exact l67.mt a67 b67
  ·exact l68.mt a68 b68
  ·exact l69.mt a69 b69
  ·exact l70.mt a70 b70
  ·exact l71.mt a71 b71
  ·exact l72.mt a72 b72
  ·exact l73.mt a73 b73
  ·exact l74.mt a74 b74
  ·exact l75.mt a75 b75
  ·exact l76.mt a76 b76
  ·exact l77.mt a77 b77
  ·exact l78.df X G a78
  ·exact l79.ini q79 a79 b79 p79
  ·exact l80.mt a80 b80
  ·exact l81.mt a81 b81
  ·exact l82.mt a82 b82
  ·exact l83.mt a83 b83
  ·exact l84.df X G a84
  ·exact l85.df X G a85
  ·exact l86.df X G a86
  ·exact l87.df X G a87
  ·exact l88.df X G a88
  ·exact l89.df X G a89
  ·exact l90.df X G a90
  ·exact l91.df X G a91
  ·exact l92.df X G a92
  ·exact ⟨w93a,w93b,w93c,w93d⟩
  ·exact n94
  ·exact n95
  ·exact n96
  ·exact ⟨w97a,w97b,w97c,w97d⟩
  ·exact n98
  ·exact n99
  ·exact n100
  ·exact n101
  ·exact n102
  ·exact n103
  ·exact n104
  ·exact ⟨w105a,w105b,w105c,w105d⟩
  ·exact n106
  ·exact n107
  ·exact y108
  ·exact x109
  ·exact u110
  ·exact ⟨e111_0,e111_1,e111_2,e111_3,e111_4,e111_5,e111_6,gQ e111_6⟩
  ·exact x112
  ·exact u113
  ·exact ⟨e114_0,e114_1,e114_2,e114_3,e114_4,e114_5,e114_6,gQ e114_6⟩
  ·exact y115
  ·exact y116
  ·exact y117
  ·exact y118
  ·exact y119
  ·exact y120
  ·exact y121
  ·exact y122
  ·exact y123
  ·exact u124
  ·exact gQ u125
  ·exact u126
 obtain ⟨fd,F⟩:=l92
 obtain ⟨⟨oc,od,kV,dc,pm,an,cd,ct,sl,rfl,e⟩,_⟩:=id F
 exact ⟨_,_,_,T,F,PySem.W.mg_of X G a92,fun s v => .of_eq rfl⟩
theorem law_fn {l:PySem.W.OpenLaw} {w:World} {K:PySem.W.Frag} {mg:Str→Option Value} {fa:Addr} (hfa:mg "law" = some (.ref fa))
  (Z:∃ (c:Cs) (f:Addr) (fd:FuncData),Txt K mg c∧Fun K "law" "law" (top 59) f fd∧mg "law" = some (.ref f)∧(∀ (s:Shared) (v:Value),BindsTo s fd ⟨[v],[]⟩ [("_law_script",v)])) :
  ∃ (c:Cs) (fd:FuncData),(∀ (s:Shared) (v:Value),BindsTo s fd ⟨[v],[]⟩ [("_law_script",v)])∧∀ base:Heap,K.In base→base.Ns mainGlobals mg→FnOk l.prog w K mg base CX0 12 fa fd ["_law_script"] (rK K c):=by
 obtain ⟨c,f,fd,T,F,m,b⟩:=Z
 have e:=hfa.symm.trans m
 cases e
 exact ⟨c,fd,b,fun base _ _=>yG T F⟩
def Ap (K:PySem.W.Frag):Sp:=sp1 fun v H Q _=>∃ (a:Addr) (ns:List Int),v = .ref a∧SqL K H a (ns.map V.int)∧ns.length≤63∧∀ H',Q (.bl true) H'
theorem walk {l:PySem.W.OpenLaw} {q:Program} {loose:List Str} {XP:(Str→Option Value)→Heap→Prop} {YP:World→Heap→Prop} {d:DefRec} {K:Params→PySem.W.Frag} (hn:l.most=some 63) (hdf:d.params.defaults=[])
  (hY:∀ (w:World) (h:Heap),YP w h→(K w.params).In h)
  (F:∀ (w:World) (mg:Str→Option Value) (fa:Addr) (h:Heap),(K w.params).In h→h.Ns mainGlobals mg→mg d.name=some (.ref fa) →
   ∃ (c:Cs) (fd:FuncData),(∀ (s:Shared) (u:Value),BindsTo s fd ⟨[u],[]⟩ [("_law_script",u)])∧∀ base:Heap,(K w.params).In base→base.Ns mainGlobals mg→FnOk l.prog w (K w.params) mg base CX0 12 fa fd ["_law_script"] (rK (K w.params) c)) :
  PySem.W.WalkO q loose XP YP l.row.toRowW d [] (fun f vs=>PySem.call f vs):=
 L2.walk_of (n:=63) (k:=12) (x := "_law_script") (CX:=fun _=>CX0) (sp:=fun w=>Ap (K w.params)) hn (by decide) hdf ⟨rfl,by decide,by decide⟩ hY
  (fun w mg fa h a b m=>let ⟨_,fd,e,f⟩:=F w mg fa h a b m;⟨fd,e,fun base x y=>(f base x y).imp fun vs H Q E ⟨v,e1,a,ns,e2,e3,_,e4⟩=>⟨v,e1,a,ns,e2,e3,e4⟩⟩)
  (fun _ _ a ns hl _ hS=>⟨_,rfl,a,ns,rfl,hS,hl,fun _=>rfl⟩) fun _ _ _ _ _ z=>z
end BB
set_option Elab.async true
namespace PySem.Challenge.cw_bitbus_k21_whole_just_once_holds
theorem tw16412065981649050656:0=0:=rfl
theorem tw7476395069313162368:0=0:=rfl
theorem tw4654715058482796672:0=0:=rfl
theorem tw7023127879916520672:0=0:=rfl
theorem tw7013257115824089376:0=0:=rfl
theorem tw4318268056652591456:0=0:=rfl
theorem tw2178093377542496640:0=0:=rfl
theorem tw16164659410024960448:0=0:=rfl
theorem tw1787737282526759360:0=0:=rfl
theorem tw5773303179900573312:0=0:=rfl
theorem tw3582587076146497184:0=0:=rfl
theorem tw8853056141801074336:0=0:=rfl
theorem tw12753125175212214144:0=0:=rfl
theorem tw11264365724416326528:0=0:=rfl
theorem tw423399827697209280:0=0:=rfl
theorem tw7633006703877010400:0=0:=rfl
theorem tw678745399881805025:0=0:=rfl
theorem tw16375917183665320353:0=0:=rfl
theorem tw16867921732459487649:0=0:=rfl
theorem tw7579982923573964321:0=0:=rfl
theorem tw14054147878810949345:0=0:=rfl
theorem tw7932317594049677057:0=0:=rfl
theorem tw13214030428562142017:0=0:=rfl
theorem tw13324693082143866753:0=0:=rfl
theorem tw12648570307439722369:0=0:=rfl
theorem tw12682872790132239265:0=0:=rfl
theorem tw4756053810421742529:0=0:=rfl
theorem tw4978781924774091842:0=0:=rfl
theorem tw11304496391600959554:0=0:=rfl
theorem tw7584673429446771842:0=0:=rfl
theorem tw11703741553681599650:0=0:=rfl
theorem tw11394894727258101922:0=0:=rfl
theorem tw17473161487176539330:0=0:=rfl
theorem tw3503530128303955234:0=0:=rfl
theorem tw17829317218657667394:0=0:=rfl
theorem tw74082417758633346:0=0:=rfl
theorem tw14487271938623136226:0=0:=rfl
theorem tw14131013226976302658:0=0:=rfl
theorem tw10431060319406153378:0=0:=rfl
theorem tw12090630659046214338:0=0:=rfl
theorem tw16859315633827433186:0=0:=rfl
theorem tw13737343758294112002:0=0:=rfl
theorem tw4042464566049733410:0=0:=rfl
theorem tw2398082965462714178:0=0:=rfl
theorem tw18275332878277756770:0=0:=rfl
theorem tw9299231911745191810:0=0:=rfl
theorem tw4303751615300536258:0=0:=rfl
theorem tw7313974776879197219:0=0:=rfl
theorem tw16352217705449156707:0=0:=rfl
theorem tw11567232016805811619:0=0:=rfl
theorem tw15957920733335637475:0=0:=rfl
theorem tw15663620664105633315:0=0:=rfl
theorem tw3362367187489815139:0=0:=rfl
theorem tw13807142224530128515:0=0:=rfl
theorem tw2106079195849663171:0=0:=rfl
theorem tw8934765202987444931:0=0:=rfl
theorem tw17921740410520975075:0=0:=rfl
theorem tw2767426973903124227:0=0:=rfl
theorem tw10200198103259025187:0=0:=rfl
theorem tw10372612879388843971:0=0:=rfl
theorem tw14252973543788365763:0=0:=rfl
theorem tw11080186574156286947:0=0:=rfl
theorem tw4659824648099301380:0=0:=rfl
theorem tw12965962973027483716:0=0:=rfl
theorem tw15492908285573020804:0=0:=rfl
theorem tw9828293607797507204:0=0:=rfl
theorem tw9643911524083026052:0=0:=rfl
theorem tw9647417799883782308:0=0:=rfl
theorem tw2616132719214615812:0=0:=rfl
theorem tw1633138396967108900:0=0:=rfl
theorem tw9804905548384131364:0=0:=rfl
theorem tw13403449630842660228:0=0:=rfl
theorem tw7186628638896798116:0=0:=rfl
theorem tw2163417962928839364:0=0:=rfl
theorem tw3285367892488746692:0=0:=rfl
theorem tw13442071428721989412:0=0:=rfl
theorem tw4477926043117631332:0=0:=rfl
theorem tw1585439622471390084:0=0:=rfl
theorem tw17168140059118615428:0=0:=rfl
theorem tw3803280791068768132:0=0:=rfl
theorem tw12023275563724705700:0=0:=rfl
theorem tw9439711465194789860:0=0:=rfl
theorem tw654362428819187684:0=0:=rfl
theorem tw7260646418727195620:0=0:=rfl
theorem tw2664919562389043205:0=0:=rfl
theorem tw11346330610549621797:0=0:=rfl
theorem tw10032568116540799077:0=0:=rfl
theorem tw9670474110161267909:0=0:=rfl
theorem tw1898616076307334437:0=0:=rfl
theorem tw1947882400031448389:0=0:=rfl
theorem tw14280600711219454277:0=0:=rfl
theorem tw2412489933983946085:0=0:=rfl
theorem tw5843958204864047525:0=0:=rfl
theorem tw17159042151868214725:0=0:=rfl
theorem tw12013005610728919525:0=0:=rfl
theorem tw4717735702317649477:0=0:=rfl
theorem tw12786481594744485:0=0:=rfl
theorem tw10127172767444445893:0=0:=rfl
theorem tw15221416907613925125:0=0:=rfl
theorem tw10006126491358016293:0=0:=rfl
theorem tw17884667916382861189:0=0:=rfl
theorem tw9322997183710453669:0=0:=rfl
theorem tw11063740748213825477:0=0:=rfl
theorem tw2032237816090818533:0=0:=rfl
theorem tw9897275079298757702:0=0:=rfl
theorem tw7354782035596296294:0=0:=rfl
theorem tw12399983201577193574:0=0:=rfl
theorem tw4029280896822038662:0=0:=rfl
theorem tw83143057864366278:0=0:=rfl
theorem tw13868899555843052774:0=0:=rfl
theorem tw9727251912103086310:0=0:=rfl
theorem tw8471904582430884262:0=0:=rfl
theorem tw909123327851466182:0=0:=rfl
theorem tw8488604106889768454:0=0:=rfl
theorem tw9562525417417597638:0=0:=rfl
theorem tw9275390520583907078:0=0:=rfl
theorem tw8690600289394609990:0=0:=rfl
theorem tw18282302134521067334:0=0:=rfl
theorem tw5796208302131574630:0=0:=rfl
theorem tw10185249084835063911:0=0:=rfl
theorem tw1178123562216852711:0=0:=rfl
theorem tw8538497067461565703:0=0:=rfl
theorem tw1208731868349320583:0=0:=rfl
theorem tw9723723784606761383:0=0:=rfl
theorem tw1527166285422655911:0=0:=rfl
theorem tw18132597173083808231:0=0:=rfl
theorem tw13810116549023046215:0=0:=rfl
theorem tw5563878045696043591:0=0:=rfl
theorem tw17961768195404294727:0=0:=rfl
theorem tw326479262740109927:0=0:=rfl
theorem tw15341634965468374631:0=0:=rfl
theorem tw14437767428001730215:0=0:=rfl
theorem tw14296110983346176679:0=0:=rfl
theorem tw8239980967459055271:0=0:=rfl
theorem tw11289301918276119239:0=0:=rfl
theorem tw1695656366177443559:0=0:=rfl
theorem tw11393566947848126279:0=0:=rfl
theorem tw4649054912071439239:0=0:=rfl
theorem tw6453890111414911943:0=0:=rfl
theorem tw10136221902809221095:0=0:=rfl
theorem tw6951562295604437064:0=0:=rfl
theorem tw4196974858066489416:0=0:=rfl
theorem tw1888638040891445512:0=0:=rfl
theorem tw9581949846015658408:0=0:=rfl
theorem tw4686353086489992680:0=0:=rfl
theorem tw12044139059395708424:0=0:=rfl
theorem tw13665032865322585672:0=0:=rfl
theorem tw1145378918289653416:0=0:=rfl
theorem tw6781238373677509352:0=0:=rfl
theorem tw425939881408711432:0=0:=rfl
theorem tw6523687225130824520:0=0:=rfl
theorem tw16613943634644975464:0=0:=rfl
theorem tw5315003956275485608:0=0:=rfl
theorem tw16847320465979240424:0=0:=rfl
theorem tw7549261911661114377:0=0:=rfl
theorem tw14911007902855221545:0=0:=rfl
theorem tw11839458744630916457:0=0:=rfl
theorem tw14084449860204696969:0=0:=rfl
theorem tw99126940668453321:0=0:=rfl
theorem tw16928416963677207017:0=0:=rfl
theorem tw11655324033225511401:0=0:=rfl
theorem tw13459821339944502793:0=0:=rfl
theorem tw4770686936867313193:0=0:=rfl
theorem tw254011836291783241:0=0:=rfl
theorem tw7815386675551540841:0=0:=rfl
theorem tw45700258386644617:0=0:=rfl
theorem tw1042834089604588169:0=0:=rfl
theorem tw15375374021375945353:0=0:=rfl
theorem tw13143877614629178089:0=0:=rfl
theorem tw1449514241083753514:0=0:=rfl
theorem tw7221284348362837194:0=0:=rfl
theorem tw17716719782155908362:0=0:=rfl
theorem tw692071269027200298:0=0:=rfl
theorem tw1438644248337278250:0=0:=rfl
theorem tw5582550222752481610:0=0:=rfl
theorem tw10524710629030662570:0=0:=rfl
theorem tw8519679200709241386:0=0:=rfl
theorem tw5564548022859171402:0=0:=rfl
theorem tw3135609248862174794:0=0:=rfl
theorem tw7005987281152948842:0=0:=rfl
theorem tw10210227931109454442:0=0:=rfl
theorem tw15419701929894814474:0=0:=rfl
theorem tw17664316436727335754:0=0:=rfl
theorem tw18169826337312332618:0=0:=rfl
theorem tw15806403100442480554:0=0:=rfl
theorem tw7996666540415672234:0=0:=rfl
theorem tw14766610409392021450:0=0:=rfl
theorem tw310214382371482570:0=0:=rfl
theorem tw2748160131377870826:0=0:=rfl
theorem tw4537809636565174250:0=0:=rfl
theorem tw4573402101288115211:0=0:=rfl
theorem tw393711405668644971:0=0:=rfl
theorem tw6036930247563644075:0=0:=rfl
theorem tw13212693555716284587:0=0:=rfl
theorem tw10607188672222104779:0=0:=rfl
theorem tw7571740555057515755:0=0:=rfl
theorem tw4607099293124360427:0=0:=rfl
theorem tw14214100746416304395:0=0:=rfl
theorem tw13852408322469181803:0=0:=rfl
theorem tw4533685357839295083:0=0:=rfl
theorem tw14404704510185885387:0=0:=rfl
theorem tw5141564664099050219:0=0:=rfl
theorem tw17663176905675292427:0=0:=rfl
theorem tw13276542461547118379:0=0:=rfl
theorem tw9779960125770945387:0=0:=rfl
theorem tw14509244271336417163:0=0:=rfl
theorem tw10817403899418069963:0=0:=rfl
theorem tw17567010007625300971:0=0:=rfl
theorem tw6180029883161316428:0=0:=rfl
theorem tw18209475163934396492:0=0:=rfl
theorem tw6129444217239059596:0=0:=rfl
theorem tw1095453222466032812:0=0:=rfl
theorem tw12763526317309433196:0=0:=rfl
theorem tw3342601824472647084:0=0:=rfl
theorem tw9379867887134460428:0=0:=rfl
theorem tw6857484054238771788:0=0:=rfl
theorem tw17403111707034161804:0=0:=rfl
theorem tw5102584657257370316:0=0:=rfl
theorem tw2882269472987697868:0=0:=rfl
theorem tw14315806360593575692:0=0:=rfl
theorem tw17208046054244793164:0=0:=rfl
theorem tw212331411916839756:0=0:=rfl
theorem tw3525761489713264460:0=0:=rfl
theorem tw7154862737112749964:0=0:=rfl
theorem tw17445192826364169164:0=0:=rfl
theorem tw16286108310173116396:0=0:=rfl
theorem tw8986383208369062925:0=0:=rfl
theorem tw17049616045574871085:0=0:=rfl
theorem tw14963048571899100237:0=0:=rfl
theorem tw8578318087228831885:0=0:=rfl
theorem tw15339575621451870349:0=0:=rfl
theorem tw10929666237216331949:0=0:=rfl
theorem tw8771859621852415213:0=0:=rfl
theorem tw8983892027568795917:0=0:=rfl
theorem tw12508401720675858733:0=0:=rfl
theorem tw17788529229353906573:0=0:=rfl
theorem tw1197139401179468269:0=0:=rfl
theorem tw7655393480879028749:0=0:=rfl
theorem tw13019785620334955085:0=0:=rfl
theorem tw1111494207689582157:0=0:=rfl
theorem tw4228607461475366509:0=0:=rfl
theorem tw14544356309501701773:0=0:=rfl
theorem tw3556776588671817421:0=0:=rfl
theorem tw559365142723052301:0=0:=rfl
theorem tw5275918063084815181:0=0:=rfl
theorem tw3368199229457460045:0=0:=rfl
theorem tw16430915775482487661:0=0:=rfl
theorem tw16930613795930138509:0=0:=rfl
theorem tw12112138469579029453:0=0:=rfl
theorem tw1572850529089326190:0=0:=rfl
theorem tw13414835842154315886:0=0:=rfl
theorem tw1894096663721203950:0=0:=rfl
theorem tw12512868334418877678:0=0:=rfl
theorem tw14943264255957728558:0=0:=rfl
theorem tw13146295015077570894:0=0:=rfl
theorem tw16442588287497702862:0=0:=rfl
theorem tw16464080999759532494:0=0:=rfl
theorem tw8582619148263271022:0=0:=rfl
theorem tw14265309817133722222:0=0:=rfl
theorem tw15389674384216187566:0=0:=rfl
theorem tw8148196955408108270:0=0:=rfl
theorem tw9394121771807773422:0=0:=rfl
theorem tw7848728259139133198:0=0:=rfl
theorem tw3348047537711244142:0=0:=rfl
theorem tw2410316821628942286:0=0:=rfl
theorem tw3519337527643047918:0=0:=rfl
theorem tw6324804593181656079:0=0:=rfl
theorem tw14427233631425210383:0=0:=rfl
theorem tw13246895116501040143:0=0:=rfl
theorem tw7673612895187749935:0=0:=rfl
theorem tw5310349201258798223:0=0:=rfl
theorem tw5039990395202028719:0=0:=rfl
theorem tw13983722272245965999:0=0:=rfl
theorem tw1793260275731461327:0=0:=rfl
theorem tw1674237245466001711:0=0:=rfl
theorem tw6476546114714581327:0=0:=rfl
theorem tw12496157017260837327:0=0:=rfl
theorem tw775055146047395279:0=0:=rfl
theorem tw16915560916648751599:0=0:=rfl
theorem tw1476463095790004783:0=0:=rfl
theorem tw604653596506074703:0=0:=rfl
theorem tw6590615899939209935:0=0:=rfl
theorem tw3681877611474872047:0=0:=rfl
theorem tw8042146127656291119:0=0:=rfl
theorem tw7338932719981105999:0=0:=rfl
theorem tw4312072280418973519:0=0:=rfl
theorem tw15747515496161437551:0=0:=rfl
theorem tw16947994812631949199:0=0:=rfl
theorem tw7848187540639216527:0=0:=rfl
theorem tw8053777752573024272:0=0:=rfl
theorem tw4520886112108394512:0=0:=rfl
theorem tw17707675211649157168:0=0:=rfl
theorem tw16664745686282238064:0=0:=rfl
theorem tw1340399001815939280:0=0:=rfl
theorem tw2505121818829198576:0=0:=rfl
theorem tw2341108506558789904:0=0:=rfl
theorem tw9986570998289185104:0=0:=rfl
theorem tw12288350137669051728:0=0:=rfl
theorem tw14825518665926800752:0=0:=rfl
theorem tw10256463642058408336:0=0:=rfl
theorem tw1561632601953550768:0=0:=rfl
theorem tw1859254149752867312:0=0:=rfl
theorem tw10658757243840525808:0=0:=rfl
theorem tw12148229061912694288:0=0:=rfl
theorem tw7983140699402802832:0=0:=rfl
theorem tw17804137186085150352:0=0:=rfl
theorem tw13844310681106807440:0=0:=rfl
theorem tw9168754437338103440:0=0:=rfl
theorem tw1953989403646115504:0=0:=rfl
theorem tw14328636675721773808:0=0:=rfl
theorem tw12012911839661825808:0=0:=rfl
theorem tw10251243363166673680:0=0:=rfl
theorem tw9622883057041477488:0=0:=rfl
theorem tw17337751509639490448:0=0:=rfl
theorem tw1752395186477905840:0=0:=rfl
theorem tw6806045664360398800:0=0:=rfl
theorem tw6987100701781710832:0=0:=rfl
theorem tw9440474195785426961:0=0:=rfl
theorem tw7217134133967236145:0=0:=rfl
theorem tw13074078878296000593:0=0:=rfl
theorem tw16126137511540447345:0=0:=rfl
theorem tw13004084869926205777:0=0:=rfl
theorem tw12946201529588393393:0=0:=rfl
theorem tw10231983551934348721:0=0:=rfl
theorem tw11633861036601757265:0=0:=rfl
theorem tw740700034455729777:0=0:=rfl
theorem tw18360687315595038417:0=0:=rfl
theorem tw5270738863338710737:0=0:=rfl
theorem tw10179277999071235825:0=0:=rfl
theorem tw12440670999587915569:0=0:=rfl
theorem tw15653222827907978033:0=0:=rfl
theorem tw17197039183761912625:0=0:=rfl
theorem tw11252932318219552593:0=0:=rfl
theorem tw14481502720337423249:0=0:=rfl
theorem tw14821910529370843218:0=0:=rfl
theorem tw18093328542593360050:0=0:=rfl
theorem tw14395117904900478226:0=0:=rfl
theorem tw7942635923641399634:0=0:=rfl
theorem tw11981390926668174770:0=0:=rfl
theorem tw246279711242699186:0=0:=rfl
theorem tw9961261071921476018:0=0:=rfl
theorem tw6057338999723549138:0=0:=rfl
theorem tw3795160432296798706:0=0:=rfl
theorem tw4044666689384031794:0=0:=rfl
theorem tw6241961170752785970:0=0:=rfl
theorem tw17714039594555883090:0=0:=rfl
theorem tw2639166431726585426:0=0:=rfl
theorem tw7709578336195299954:0=0:=rfl
theorem tw14078151865316482706:0=0:=rfl
theorem tw12022336821743803058:0=0:=rfl
theorem tw18099126802573898514:0=0:=rfl
theorem tw7120141467863211858:0=0:=rfl
theorem tw5554728087265506130:0=0:=rfl
theorem tw2523048087212105618:0=0:=rfl
theorem tw13959659756307199890:0=0:=rfl
theorem tw13132219518578387890:0=0:=rfl
theorem tw4421382593490012179:0=0:=rfl
theorem tw9084285242725600307:0=0:=rfl
theorem tw10472187618201446515:0=0:=rfl
theorem tw12546522065923018899:0=0:=rfl
theorem tw9964489684177216659:0=0:=rfl
theorem tw4316490613432617459:0=0:=rfl
theorem tw9282064972683999731:0=0:=rfl
theorem tw966915473910618771:0=0:=rfl
theorem tw13435765362079530771:0=0:=rfl
theorem tw17369924213254424435:0=0:=rfl
theorem tw18184328137317822323:0=0:=rfl
theorem tw7977302777277140883:0=0:=rfl
theorem tw5590797528397848531:0=0:=rfl
theorem tw8263544824617399283:0=0:=rfl
theorem tw4964228343927245844:0=0:=rfl
theorem tw10351813668956057620:0=0:=rfl
theorem tw406013383611539476:0=0:=rfl
theorem tw8527609018487770356:0=0:=rfl
theorem tw2357624524551475444:0=0:=rfl
theorem tw11231415616241744212:0=0:=rfl
theorem tw908602561211168116:0=0:=rfl
theorem tw13688768276338642356:0=0:=rfl
theorem tw1637996514822308276:0=0:=rfl
theorem tw2256198844202679796:0=0:=rfl
theorem tw8062483582598452756:0=0:=rfl
theorem tw11877210331377107540:0=0:=rfl
theorem tw3735372535589217876:0=0:=rfl
theorem tw296783012848042644:0=0:=rfl
theorem tw8777359595402274452:0=0:=rfl
theorem tw6870072742284611252:0=0:=rfl
theorem tw1145486702642238228:0=0:=rfl
theorem tw4053501638966262580:0=0:=rfl
theorem tw11959149244334763988:0=0:=rfl
theorem tw6898553023299235861:0=0:=rfl
theorem tw8534430013985322005:0=0:=rfl
theorem tw15534860863305997365:0=0:=rfl
theorem tw8932870999493219477:0=0:=rfl
theorem tw12237335232439595221:0=0:=rfl
theorem tw17004126002283740373:0=0:=rfl
theorem tw6431787274330659125:0=0:=rfl
theorem tw9684891219801922933:0=0:=rfl
theorem tw4871055462128349749:0=0:=rfl
theorem tw10553347107291017813:0=0:=rfl
theorem tw17146684007108801173:0=0:=rfl
theorem tw12411283441765235381:0=0:=rfl
theorem tw3386700707144647381:0=0:=rfl
theorem tw12797578958114896629:0=0:=rfl
theorem tw16956102467490145013:0=0:=rfl
theorem tw9588379255918716661:0=0:=rfl
theorem tw12134848756502277909:0=0:=rfl
theorem tw10892849616637811477:0=0:=rfl
theorem tw13896311494719602453:0=0:=rfl
theorem tw3603327817586900757:0=0:=rfl
theorem tw14925328156492605333:0=0:=rfl
theorem tw13240881566878212182:0=0:=rfl
theorem tw2067101963067406422:0=0:=rfl
theorem tw1357164896981263478:0=0:=rfl
theorem tw7878755362904818870:0=0:=rfl
theorem tw3516569826857155894:0=0:=rfl
theorem tw13365772082825209174:0=0:=rfl
theorem tw14826844577629634966:0=0:=rfl
theorem tw1978188906738072982:0=0:=rfl
theorem tw17899047824918017462:0=0:=rfl
theorem tw16308833287230275062:0=0:=rfl
theorem tw1622182669581128214:0=0:=rfl
theorem tw11004596632182345238:0=0:=rfl
theorem tw14635999178170116662:0=0:=rfl
theorem tw6281540761564810870:0=0:=rfl
theorem tw15183177219039558294:0=0:=rfl
theorem tw7231879713360920246:0=0:=rfl
theorem tw10163810712133487286:0=0:=rfl
theorem tw15990223219009146550:0=0:=rfl
theorem tw23138819385607894:0=0:=rfl
theorem tw9915615130934016854:0=0:=rfl
theorem tw14960644113217782742:0=0:=rfl
theorem tw17543532143789881302:0=0:=rfl
theorem tw10703652683377918999:0=0:=rfl
theorem tw3591558632809974839:0=0:=rfl
theorem tw745448391363448951:0=0:=rfl
theorem tw2879185957208286359:0=0:=rfl
theorem tw3346868805306823863:0=0:=rfl
theorem tw12252894297855547703:0=0:=rfl
theorem tw5326676755787520343:0=0:=rfl
theorem tw12021375290426471767:0=0:=rfl
theorem tw12119620270302705175:0=0:=rfl
theorem tw15208880397970478647:0=0:=rfl
theorem tw10039498018174322455:0=0:=rfl
theorem tw243598010540903255:0=0:=rfl
theorem tw9566332460455712695:0=0:=rfl
theorem tw7962211503891592151:0=0:=rfl
theorem tw7682879089421244375:0=0:=rfl
theorem tw7496169636766865464:0=0:=rfl
theorem tw5650034613393108056:0=0:=rfl
theorem tw4682922450553096280:0=0:=rfl
theorem tw5155961443817909368:0=0:=rfl
theorem tw15950208677116016760:0=0:=rfl
theorem tw5778780943495595160:0=0:=rfl
theorem tw14438966595058094264:0=0:=rfl
theorem tw12549474165506987192:0=0:=rfl
theorem tw1602136788829000952:0=0:=rfl
theorem tw13641988592079245592:0=0:=rfl
theorem tw7566797006577929528:0=0:=rfl
theorem tw2441232997493642552:0=0:=rfl
theorem tw6960532222895048216:0=0:=rfl
theorem tw2775806776899950136:0=0:=rfl
theorem tw5651635449992452792:0=0:=rfl
theorem tw10594227974802117336:0=0:=rfl
theorem tw10753481359486005976:0=0:=rfl
theorem tw11399033276787575512:0=0:=rfl
theorem tw8038896900085541592:0=0:=rfl
theorem tw16758468467392207608:0=0:=rfl
theorem tw3020290637292027704:0=0:=rfl
theorem tw44941006989831096:0=0:=rfl
theorem tw14584102167452971960:0=0:=rfl
theorem tw10915518870128790585:0=0:=rfl
theorem tw1101676057232692281:0=0:=rfl
theorem tw5437956268820316249:0=0:=rfl
theorem tw17838792149773211737:0=0:=rfl
theorem tw12471977390997669017:0=0:=rfl
theorem tw4110852214358296729:0=0:=rfl
theorem tw9310510302942071993:0=0:=rfl
theorem tw8877500050246755513:0=0:=rfl
theorem tw2784350097658829017:0=0:=rfl
theorem tw18223342424091322585:0=0:=rfl
theorem tw9792419136545922329:0=0:=rfl
theorem tw3954548572308463961:0=0:=rfl
theorem tw16399843096696448441:0=0:=rfl
theorem tw13363691717626138297:0=0:=rfl
theorem tw14825742651608205017:0=0:=rfl
theorem tw17031826489810898745:0=0:=rfl
theorem tw18115207555471890233:0=0:=rfl
theorem tw10353921556686187353:0=0:=rfl
theorem tw15244858122734284761:0=0:=rfl
theorem tw11028465188780437465:0=0:=rfl
theorem tw14811305114672989177:0=0:=rfl
theorem tw595545917302895706:0=0:=rfl
theorem tw3670609652434771066:0=0:=rfl
theorem tw7245799162959119482:0=0:=rfl
theorem tw15298862221781923962:0=0:=rfl
theorem tw9679149749046215834:0=0:=rfl
theorem tw9404514808893788442:0=0:=rfl
theorem tw16478245980124704122:0=0:=rfl
theorem tw946947597041626618:0=0:=rfl
theorem tw3711723020407108090:0=0:=rfl
theorem tw1477268539602752026:0=0:=rfl
theorem tw7675509804975458906:0=0:=rfl
theorem tw6326603039348993690:0=0:=rfl
theorem tw1050932838957211290:0=0:=rfl
theorem tw16430172966315653850:0=0:=rfl
theorem tw10338198477356078842:0=0:=rfl
theorem tw8161621369745093370:0=0:=rfl
theorem tw2140907169003589402:0=0:=rfl
theorem tw7724606512057320250:0=0:=rfl
theorem tw14659201566381029242:0=0:=rfl
theorem tw2033853410446055483:0=0:=rfl
theorem tw15832437718021825627:0=0:=rfl
theorem tw11731212098483422363:0=0:=rfl
theorem tw10487986804808442075:0=0:=rfl
theorem tw3952875670691668187:0=0:=rfl
theorem tw1352563024228177147:0=0:=rfl
theorem tw5573685251926888731:0=0:=rfl
theorem tw11472738509312883163:0=0:=rfl
theorem tw13921225569589981787:0=0:=rfl
theorem tw12705504712827140731:0=0:=rfl
theorem tw11061568771036856059:0=0:=rfl
theorem tw5660326997550680955:0=0:=rfl
theorem tw8065213765085447067:0=0:=rfl
theorem tw16569769994908356539:0=0:=rfl
theorem tw13018365455894121467:0=0:=rfl
theorem tw8179362250165757980:0=0:=rfl
theorem tw4436698035520302108:0=0:=rfl
theorem tw6551096027830355068:0=0:=rfl
theorem tw5591959967831758076:0=0:=rfl
theorem tw15650376203436148988:0=0:=rfl
theorem tw7417044950122218780:0=0:=rfl
theorem tw13186881898842406204:0=0:=rfl
theorem tw8039704014686834044:0=0:=rfl
theorem tw12341157824430881340:0=0:=rfl
theorem tw1034151823360473660:0=0:=rfl
theorem tw5625586181437299292:0=0:=rfl
theorem tw9811546382811844188:0=0:=rfl
theorem tw1990201537176487548:0=0:=rfl
theorem tw1032568736743308956:0=0:=rfl
theorem tw16514972896261987004:0=0:=rfl
theorem tw7171041394452707068:0=0:=rfl
theorem tw6212905347059087100:0=0:=rfl
theorem tw15461695112842275612:0=0:=rfl
theorem tw103627580748768092:0=0:=rfl
theorem tw4011679561009780636:0=0:=rfl
theorem tw12331165907074677724:0=0:=rfl
theorem tw13482902512171416572:0=0:=rfl
theorem tw16409888785249938493:0=0:=rfl
theorem tw13186540336178523197:0=0:=rfl
theorem tw4814420760142966909:0=0:=rfl
theorem tw8644494474619395229:0=0:=rfl
theorem tw12077162620743887037:0=0:=rfl
theorem tw11808343547051731133:0=0:=rfl
theorem tw5317837997034865885:0=0:=rfl
theorem tw8564949216901713149:0=0:=rfl
theorem tw3513024519428668669:0=0:=rfl
theorem tw8633709905476091261:0=0:=rfl
theorem tw2538022751300430237:0=0:=rfl
theorem tw17694721991350532541:0=0:=rfl
theorem tw2546212105151946205:0=0:=rfl
theorem tw9554351953656653469:0=0:=rfl
theorem tw7518950465565969053:0=0:=rfl
theorem tw15661673425559208637:0=0:=rfl
theorem tw8745658555365113629:0=0:=rfl
theorem tw8202927961846690813:0=0:=rfl
theorem tw10354546052857886717:0=0:=rfl
theorem tw8834106865356597310:0=0:=rfl
theorem tw5113353734876984446:0=0:=rfl
theorem tw11399633249415168158:0=0:=rfl
theorem tw4635782426272184510:0=0:=rfl
theorem tw8105752353628464478:0=0:=rfl
theorem tw11220914781816762750:0=0:=rfl
theorem tw17330686049671113118:0=0:=rfl
theorem tw6967676279242785310:0=0:=rfl
theorem tw10442245200253643294:0=0:=rfl
theorem tw389646929003087486:0=0:=rfl
theorem tw6258635289187241598:0=0:=rfl
theorem tw14193653326557752990:0=0:=rfl
theorem tw9265343336425819838:0=0:=rfl
theorem tw17087565679552453310:0=0:=rfl
theorem tw5070542517416913630:0=0:=rfl
theorem tw18010978289764806430:0=0:=rfl
theorem tw7886135198791125822:0=0:=rfl
theorem tw9372948587521416030:0=0:=rfl
theorem tw2344278980478465886:0=0:=rfl
theorem tw5368545991426409342:0=0:=rfl
theorem tw16224909170388444062:0=0:=rfl
theorem tw16661940563304005534:0=0:=rfl
theorem tw10854103173132755999:0=0:=rfl
theorem tw14163155258667637887:0=0:=rfl
theorem tw11699455756102160607:0=0:=rfl
theorem tw16407653006803505471:0=0:=rfl
theorem tw5761572516588877151:0=0:=rfl
theorem tw14062512480680842655:0=0:=rfl
theorem tw6393534217057178047:0=0:=rfl
theorem tw14396040208038250943:0=0:=rfl
theorem tw2244552896358061535:0=0:=rfl
theorem tw15543884645057763903:0=0:=rfl
theorem tw339336099457606271:0=0:=rfl
theorem tw6163880791253704351:0=0:=rfl
theorem tw7580540677659293407:0=0:=rfl
theorem tw16416676093869403967:0=0:=rfl
theorem tw4912430888307554207:0=0:=rfl
theorem tw17798726881739615199:0=0:=rfl
theorem tw12567315336378339439:0=0:=rfl
end PySem.Challenge.cw_bitbus_k21_whole_just_once_holds
open PySem PySem.W PyProof.Rows
set_option maxRecDepth 100000 in
set_option maxHeartbeats 0 in
theorem PySem.Challenge.cw_bitbus_k21_whole_just_once_holds : PySem.Challenge.rw_bitbus_k21_whole_just_once.Holds := by
 w_on;o_law;k_head;(case hw=>w_witness2)
 k_fill
 refine BB.walk (l:=PySem.Challenge.rw_bitbus_k21_whole_just_once) rfl rfl (fun w h Y=>PySem.W.kIn_of Y) ?F
 case F=>
  intro w mg fa h KX G hmg
  refine BB.law_fn hmg ?_
  refine' BB.txt_mk KX G ?_ ?_ ?_ ?_ ?_ ?_ ?_ ?_ ?_ ?_ ?_ ?_ ?_ ?_ ?_ ?_ ?_ ?_ ?_ ?_ ?_ ?_ ?_ ?_ ?_ ?_ ?_ ?_ ?_ ?_ ?_ ?_ ?_ ?_ ?_ ?_ ?_ ?_ ?_ ?_ ?_ ?_ ?_ ?_ ?_ ?_ ?_ ?_ ?_ ?_ ?_ ?_ ?_ ?_ ?_ ?_ ?_ ?_ ?_ ?_ ?_ ?_ ?_ ?_ ?_ ?_ ?_ ?_ ?_ ?_ ?_ ?_ ?_ ?_ ?_ ?_ ?_ ?_ ?_ ?_ ?_ ?_ ?_ ?_ ?_ ?_ ?_ ?_ ?_ ?_ ?_ ?_ ?_ ?_ ?_ ?_ ?_ ?_ ?_ ?_ ?_ ?_ ?_ ?_ ?_ ?_ ?_ ?_ ?_ ?_ ?_ ?_ ?_ ?_ ?_ ?_ ?_ ?_ ?_ ?_ ?_ ?_ ?_ ?_ ?_ ?_ ?_ ?_ ?_ ?_ ?_ ?_ ?_ ?_ ?_ ?_ ?_ ?_ ?_ ?_ ?_ ?_ ?_ ?_ ?_ ?_ ?_ ?_ ?_ ?_ ?_ ?_ ?_ ?_ ?_ ?_ ?_ ?_ ?_ ?_ ?_ ?_ ?_ ?_ ?_ ?_ ?_ ?_ ?_ ?_ ?_ ?_ ?_ ?_ ?_ ?_ ?_ ?_ ?_ ?_ ?_ ?_ ?_ ?_ ?_ ?_ ?_ ?_ ?_ ?_ ?_ ?_ ?_ ?_ ?_ ?_ ?_ ?_ ?_ ?_ ?_ ?_ ?y108 ?x109 ?_ ?_ ?_ ?_ ?_ ?_ ?_ ?_ ?x112 ?_ ?_ ?_ ?_ ?_ ?_ ?_ ?_ ?y115 ?y116 ?y117 ?y118 ?y119 ?y120 ?y121 ?y122 ?y123 ?_ ?_ ?_
  all_goals first | k_is | exact BB.fd_mk (by k_is) (by k_is) (by k_is) | skip
  (case y108=>kit_is)
  (case x109=>k_exc)
  (case x112=>k_exc)
  (case y115=>kit_is)
  (case y116=>kit_is)
  (case y117=>kit_is)
  (case y118=>kit_is)
  (case y119=>kit_is)
  (case y120=>kit_is)
  (case y121=>kit_is)
  (case y122=>kit_is)
  (case y123=>kit_is)
