import PyProof.Rows.All
import Wide.All
import OpenK.AllK
import Wide.FinOn
import Lean
import PyProof.EqAt
import PyProof.EqKinds
import PyProof.TupleCall
import PySem.Challenge.RW_bitbus_k10_wire
set_option Elab.async false
set_option linter.all false
set_option maxRecDepth 100000
namespace L2
open PySem PySem.Spec PyProof.Rows
abbrev Key:=Sum Int Str
def rX:Key→Value→Bool
 | .inl k,v=>Value.isInt k v
 | .inr x,v=>Value.isStrOf x v
def EI (w:World):Key→Int
 | .inl k=>hashInt k
 | .inr x=>hashStr w x
theorem bD:∀ {k:Key} {v:Value},rX k v=true→(∃ i t,k=Sum.inl i∧v=Value.int i t)∨(∃ x t,k=Sum.inr x∧v=Value.str x t)
 | .inl i,v,h=>by
  obtain ⟨t,e⟩:=Value.isInt_shape (k:=i) (v:=v) h
  exact .inl ⟨i,t,rfl,e⟩
 | .inr x,v,h=>by
  obtain ⟨t,e⟩:=Value.isStrOf_shape (x:=x) (v:=v) h
  exact .inr ⟨x,t,rfl,e⟩
theorem tw (i:Int) (t:Tok):rX (.inl i) (.int i t)=true:=by simp [rX,Value.isInt]
theorem tz (x:Str) (t:Tok):rX (.inr x) (.str x t)=true:=by simp [rX,Value.isStrOf]
theorem Ae (a b:Int):decide ((Sum.inl a:Key)=Sum.inl b)=(a == b):=by
 by_cases e:a=b
 ·subst e;simp
 ·have h:¬ (Sum.inl a:Key)=Sum.inl b:=fun q=>e (Sum.inl.inj q)
  rw [decide_eq_false h]
  exact (beq_eq_false_iff_ne.mpr e).symm
theorem Af (a b:Str):decide ((Sum.inr a:Key)=Sum.inr b)=decide (a=b):=by
 by_cases e:a=b
 ·subst e;simp
 ·have h:¬ (Sum.inr a:Key)=Sum.inr b:=fun q=>e (Sum.inr.inj q)
  rw [decide_eq_false h,decide_eq_false e]
theorem Ag (a:Int) (b:Str):decide ((Sum.inl a:Key)=Sum.inr b)=false:=decide_eq_false (fun q=>nomatch q)
theorem Ah (a:Str) (b:Int):decide ((Sum.inr a:Key)=Sum.inl b)=false:=decide_eq_false (fun q=>nomatch q)
def bJ (prog:Program) (w:World):PySem.KeyKind prog w Key where
 is:=rX
 hash:=EI w
 inj:=fun v a b ha hb=>by
  rcases bD ha with ⟨i,t,rfl,rfl⟩ | ⟨x,t,rfl,rfl⟩
  ·rcases bD hb with ⟨j,u,rfl,e⟩ | ⟨y,u,rfl,e⟩
   ·injection e with e1 _;rw [e1]
   ·exact nomatch e
  ·rcases bD hb with ⟨j,u,rfl,e⟩ | ⟨y,u,rfl,e⟩
   ·exact nomatch e
   ·injection e with e1 _;rw [e1]
 byValue:=fun k v h=>by
  rcases bD h with ⟨i,t,rfl,rfl⟩ | ⟨x,t,rfl,rfl⟩ <;> rfl
 pyHash:=fun hv h=>by
  rcases bD hv with ⟨i,t,rfl,rfl⟩ | ⟨x,t,rfl,rfl⟩
  ·exact wpAny_pyHash_int h
  ·exact wpAny_pyHash_str h
 eqBool:=fun hu hv h=>by
  rcases bD hu with ⟨i,t,rfl,rfl⟩ | ⟨x,t,rfl,rfl⟩
  ·rcases bD hv with ⟨j,u,rfl,rfl⟩ | ⟨y,u,rfl,rfl⟩
   ·rw [Ae] at h;exact wpAny_eqBool_int h
   ·rw [Ag] at h;exact SeqAt.EqAt.int_str i t y u _ _ _ _ h
  ·rcases bD hv with ⟨j,u,rfl,rfl⟩ | ⟨y,u,rfl,rfl⟩
   ·rw [Ah] at h;exact SeqAt.EqAt.str_int x t j u _ _ _ _ h
   ·rw [Af] at h;exact wpAny_eqBool_str h
 «strs»:=fun k x t v h=>by
  rcases bD h with ⟨i,u,rfl,e⟩ | ⟨y,u,rfl,e⟩
  ·exact nomatch e
  ·injection e with e1 _
   subst e1
   cases v <;> rfl
theorem o8 (prog:Program) (w:World) (i:Int) (t:Tok):(bJ prog w).is (.inl i) (.int i t)=true:=tw i t
theorem o9 (prog:Program) (w:World) (x:Str) (t:Tok):(bJ prog w).is (.inr x) (.str x t)=true:=tz x t
end L2
namespace L2
open PySem PySem.Spec PyProof.Rows
inductive V where
 | non | bl (b:Bool) | int (i:Int) | str (x:Str) | byt (b:Array UInt8) | flt (b:UInt64) | ref (a:Addr) | ty (n:String)
 deriving DecidableEq
def RelV:V→Value→Prop
 | .non,u=>u=Value.none
 | .bl b,u=>u=Value.bool b
 | .int i,u=>∃ t,u=Value.int i t
 | .str x,u=>∃ t,u=Value.str x t
 | .byt b,u=>∃ t,u=Value.bytes b t
 | .flt b,u=>∃ t,u=Value.float b t
 | .ref a,u=>u=Value.ref a
 | .ty n,u=>u=Value.type n
abbrev Vals:List V→List Value→Prop:=Paired RelV
theorem Vals.length {xs:List V} {us:List Value} (r:Vals xs us):xs.length=us.length:=Paired.length r
theorem Vals.get:∀ {xs:List V} {us:List Value} {i:Nat} {x:V},Vals xs us→xs[i]? = some x→∃ u,us[i]? = some u∧RelV x u
 | _,_,_,_,.nil,e=>by simp at e
 | _,_,0,_,.cons r _,e=>by simp at e;subst e;exact ⟨_,rfl,r⟩
 | _,_,i+1,x,.cons _ t,e=>by
  obtain ⟨u,h1,h2⟩:=Vals.get (i:=i) (x:=x) t (by simpa using e)
  exact ⟨u,by simpa using h1,h2⟩
theorem Vals.set {x:V} {u:Value} (r:RelV x u):∀ {xs:List V} {us:List Value} (i:Nat),Vals xs us→Vals (xs.set i x) (us.set i u)
 | _,_,_,.nil => .nil
 | _,_,0,.cons _ t => .cons r t
 | _,_,i+1,.cons q t => .cons q (Vals.set r i t)
theorem Vals.append:∀ {xs ys:List V} {us ws:List Value},Vals xs us→Vals ys ws→Vals (xs++ys) (us++ws)
 | _,_,_,_,.nil,s=>s
 | _,_,_,_,.cons r t,s => .cons r (Vals.append t s)
theorem Vals.take:∀ {xs:List V} {us:List Value} (n:Nat),Vals xs us→Vals (xs.take n) (us.take n)
 | _,_,0,_ => .nil
 | _,_,_+1,.nil => .nil
 | _,_,n+1,.cons r t => .cons r (Vals.take n t)
theorem Vals.drop:∀ {xs:List V} {us:List Value} (n:Nat),Vals xs us→Vals (xs.drop n) (us.drop n)
 | _,_,0,r=>r
 | _,_,_+1,.nil => .nil
 | _,_,n+1,.cons _ t=>Vals.drop n t
def RelO:Option V→Option Value→Prop
 | some v,some u=>RelV v u
 | none,none=>True
 | _,_=>False
def KV {κ:Type}:List (κ×V)→List (κ×Value)→Prop:=Paired fun (p:κ×V) (q:κ×Value)=>p.1=q.1∧RelV p.2 q.2
def kV:Key→V
 | .inl i => .int i
 | .inr x => .str x
inductive HO where
 | lst (xs:List V)
 | tup (xs:List V)
 | dK (kvs:List (Key×V)) | dT (kvs:List (List Key×V))
 | set (S:Int→Bool) (n:Nat)
 | ins (C dx:Addr) (fs:List (Str×V))
 | own (x:Addr)
 | xd (fs:List (Str×V))
 | met (f x:Addr)
 | rng (lo hi:Int)
 | frz (o:Obj) (u:HO)
 | tbl (ps:Array Value)
 | ext (φ:Heap→Prop)
abbrev Hp:=Addr→Option HO
def upd (H:Hp) (a:Addr) (o:HO):Hp:=fun b=>if b=a then some o else H b
theorem bA {H:Hp} {a:Addr} {o:HO}:upd H a o a=some o:=by unfold upd;rw [if_pos rfl]
theorem aX {H:Hp} {a b:Addr} {o:HO} (h:b≠a):upd H a o b=H b:=by unfold upd;rw [if_neg h]
theorem da {H:Hp} {a:Addr} {o u:HO}:upd (upd H a o) a u=upd H a u:=by
 funext b;unfold upd;split <;> rfl
theorem Ai {H:Hp} {a b:Addr} {o u:HO} (h:H a=some o) (h':H b=some u) (d:o≠u):a≠b:=by
 intro e;subst e;rw [h] at h';exact d (Option.some.inj h')
theorem aB {H:Hp} {a b:Addr} {o:HO} (h:H a=some o) (h':H b=none):a≠b:=by
 intro e;subst e;rw [h] at h';cases h'
section
variable (P:Program) (w:World)
def ObjOk (H:Hp) (h:Heap) (a:Addr):HO→Prop
 | .lst xs=>xs.length≤sizeLine∧∃ (its:List Value) (n:Nat),Vals xs its∧h.get? a=some {cls := .type "list",data := .seq its.toArray n}
 | .tup xs=>xs.length≤sizeLine∧∃ its:List Value,Vals xs its∧IsTup h a its.toArray
 | .dK kvs=>kvs.length≤sizeLine∧(a == sysModules)=false∧∃ vs,KV kvs vs∧h.DictOf (bJ P w) a vs
 | .dT kvs=>kvs.length≤sizeLine∧(a == sysModules)=false∧∃ xs:List (List Key×Addr×Value),
   Paired (fun (p:List Key×V) (q:List Key×Addr×Value)=>p.1=q.1∧H q.2.1=some (.tup (p.1.map kV))∧RelV p.2 q.2.2) kvs xs ∧
   ∃ o es ep,h.get? a=some o∧o.ExactDict∧o.data = .dict es ep∧es.toList=xs.map (entryOfKey (tupleKind (bJ P w)))∧(xs.map (·.1)).Nodup
 | .set S n=>h.SetOf (intKind P w) a S n
 | .ins C dx fs=>H dx=some (.own a)∧fs.length≤1000∧dx≠a∧h.get? a=some (PySem.W.instObj C dx) ∧
   ∃ mA,h.Ns1 dx mA∧(∀ f,RelO (fs.lookup f) (mA f))∧PySem.Within mA (fs.map (·.1))
 | .own _=>∃ o,h.get? a=some o
 | .xd fs=>∃ mA,h.Ns1 a mA∧∀ f,RelO (fs.lookup f) (mA f)
 | .rng lo hi=>∃ t u v,h.get? a=some {cls := .type "range",data := .fields #[.int lo t,.int hi u,.int 1 v]}
 | .frz o u=>h.get? a=some o∧ObjOk H h a u
 | .tbl ps=>h.get? a=some {cls := .none,data := .fields ps}
 | .met f x=>h.get? a=some (PySem.W.methodObj (.ref f) (.ref x))
 | .ext φ=>φ h∧(∃ o,h.get? a=some o)∧∀ h1 h2:Heap,φ h1→(∀ o,h1.get? a=some o→h2.get? a=some o)→φ h2
def HOk (H:Hp) (h:Heap):Prop:=∀ a o,H a=some o→ObjOk P w H h a o
end
section
variable {P:Program} {w:World} {H H':Hp} {h h':Heap} {a:Addr} {o:HO}
theorem ObjOk.lt (x:ObjOk P w H h a o):a < h.objs.size:=by
 cases o with
 | lst xs=>obtain ⟨_,_,_,_,e⟩:=x;exact Heap.lt_size e
 | tup xs=>obtain ⟨_,_,_,p⟩:=x;exact p.lt
 | dK kvs=>obtain ⟨_,_,_,_,o,_,_,e,_⟩:=x;exact Heap.lt_size e
 | dT kvs=>obtain ⟨_,_,_,_,o,_,_,e,_⟩:=x;exact Heap.lt_size e
 | set S n=>obtain ⟨o,_,_,_,e,_⟩:=x;exact Heap.lt_size e
 | ins C dx fs=>obtain ⟨_,_,_,e,_⟩:=x;exact Heap.lt_size e
 | own y=>obtain ⟨_,e⟩:=x;exact Heap.lt_size e
 | xd fs=>obtain ⟨_,⟨_,_,_,e,_⟩,_⟩:=x;exact Heap.lt_size e
 | rng lo hi=>obtain ⟨_,_,_,e⟩:=x;exact Heap.lt_size e
 | frz ob u=>obtain ⟨e,_⟩:=x;exact Heap.lt_size e
 | tbl ps=>exact Heap.lt_size (show h.get? a=some _ from x)
 | met f y=>exact Heap.lt_size (show h.get? a=some _ from x)
 | ext φ=>obtain ⟨_,⟨_,e⟩,_⟩:=x;exact Heap.lt_size e
theorem Paired.mapP {α β:Type} {F G:α→β→Prop}:∀ {l₁:List α} {l₂:List β},Paired F l₁ l₂→(∀ a b,F a b→G a b)→Paired G l₁ l₂
 | _,_,.nil,_ => .nil
 | _,_,.cons r t,f => .cons (f _ _ r) (Paired.mapP t f)
theorem ObjOk.stay (x:ObjOk P w H h a o) (k:∀ b u,(b=a∨H b=some (.own a))→h.get? b=some u→h'.get? b=some u)
  (ho:∀ b,H b=some (.own a)→H' b=some (.own a)) (ht:∀ b xs,H b=some (.tup xs)→H' b=some (.tup xs)):ObjOk P w H' h' a o:=by
 induction o with
 | lst xs=>obtain ⟨z,its,n,r,e⟩:=x;exact ⟨z,its,n,r,k _ _ (.inl rfl) e⟩
 | tup xs=>obtain ⟨z,its,r,ob,e,c⟩:=x;exact ⟨z,its,r,ob,k _ _ (.inl rfl) e,c⟩
 | dK kvs=>obtain ⟨z,y,vs,r,ob,es,ep,e,c⟩:=x;exact ⟨z,y,vs,r,ob,es,ep,k _ _ (.inl rfl) e,c⟩
 | dT kvs=>
  obtain ⟨z,y,xs,r,ob,es,ep,e,c⟩:=x
  exact ⟨z,y,xs,Paired.mapP r fun p q z=>⟨z.1,ht _ _ z.2.1,z.2.2⟩,ob,es,ep,k _ _ (.inl rfl) e,c⟩
 | set S n=>obtain ⟨ob,es,ep,t,e,c⟩:=x;exact ⟨ob,es,ep,t,k _ _ (.inl rfl) e,c⟩
 | ins C dx fs=>
  obtain ⟨d,z,ne,e,mA,⟨od,es,ep,e2,c⟩,r⟩:=x
  exact ⟨ho _ d,z,ne,k _ _ (.inl rfl) e,mA,⟨od,es,ep,k _ _ (.inr d) e2,c⟩,r⟩
 | own y=>obtain ⟨ob,e⟩:=x;exact ⟨ob,k _ _ (.inl rfl) e⟩
 | xd fs=>obtain ⟨mA,⟨od,es,ep,e,c⟩,r⟩:=x;exact ⟨mA,⟨od,es,ep,k _ _ (.inl rfl) e,c⟩,r⟩
 | rng lo hi=>obtain ⟨t,u,v,e⟩:=x;exact ⟨t,u,v,k _ _ (.inl rfl) e⟩
 | frz ob u ih=>obtain ⟨e,q⟩:=x;exact ⟨k _ _ (.inl rfl) e,ih q⟩
 | tbl ps=>
  have e:h.get? a=some {cls := .none,data := .fields ps}:=x
  show h'.get? a=some {cls := .none,data := .fields ps}
  exact k a _ (.inl rfl) e
 | met f y=>
  have e:h.get? a=some (PySem.W.methodObj (.ref f) (.ref y)):=x
  show h'.get? a=some (PySem.W.methodObj (.ref f) (.ref y))
  exact k a _ (.inl rfl) e
 | ext φ=>obtain ⟨p,⟨o,e⟩,st⟩:=x;exact ⟨st _ _ p fun o q=>k _ _ (.inl rfl) q,⟨o,k _ _ (.inl rfl) e⟩,st⟩
theorem HOk.lt (x:HOk P w H h) (e:H a=some o):a < h.objs.size:=(x a o e).lt
theorem HOk.fresh (x:HOk P w H h) (e:h.objs.size≤a):H a=none:=by
 cases q:H a with
 | none=>rfl
 | some u=>exact absurd (Nat.lt_of_lt_of_le (x.lt q) e) (Nat.lt_irrefl _)
theorem HOk.kept (x:HOk P w H h) (k:∀ b u,h.get? b=some u→h'.get? b=some u):HOk P w H h':=fun a o e=>
 (x a o e).stay (fun b u _ q=>k b u q) (fun _ q=>q) fun _ _ q=>q
theorem HOk.laid (x:HOk P w H h) (k:∀ b u,h.get? b=some u→h'.get? b=some u) (hp:h.objs.size≤a) (new:ObjOk P w (upd H a o) h' a o):HOk P w (upd H a o) h':=fun b u e=>by
 have hn:=x.fresh hp
 by_cases hb:b=a
 ·subst hb;rw [bA] at e;cases e;exact new
 ·rw [aX hb] at e
  exact (x b u e).stay (fun c v _ q=>k c v q) (fun c q=>by rw [aX (aB q hn)];exact q) fun c xs q=>by rw [aX (aB q hn)];exact q
end
def Rd (H:Hp) (a:Addr) (u:HO):Prop:=H a=some u∨∃ o,H a=some (.frz o u)
theorem Rd.ok {P:Program} {w:World} {H:Hp} {h:Heap} {a:Addr} {u:HO} (r:Rd H a u) (x:HOk P w H h):ObjOk P w H h a u:=by
 rcases r with r | ⟨o,r⟩
 ·exact x a u r
 ·obtain ⟨_,q⟩:=x a _ r
  exact q
def Mut:Option HO→Prop
 | some (.lst _)=>True
 | some (.dK _)=>True
 | some (.dT _)=>True
 | some (.set _ _)=>True
 | some (.ins _ _ _)=>True
 | some (.ext _)=>True
 | _=>False
section
variable {P:Program} {w:World} {H:Hp} {h h':Heap} {x e:Addr} {o':HO}
theorem HOk.write (ok:HOk P w H h) (mu:Mut (H x)) (he:e=x∨H e=some (.own x)) (k:∀ b u,b≠e→h.get? b=some u→h'.get? b=some u) (heo:∃ u,h'.get? e=some u)
  (new:ObjOk P w (upd H x o') h' x o'):HOk P w (upd H x o') h':=fun b u q=>by
 have nown:∀ c y,H c=some (.own y)→c≠x:=fun c y r z=>by subst z;rw [r] at mu;exact mu
 have ntup:∀ c xs,H c=some (.tup xs)→c≠x:=fun c xs r z=>by subst z;rw [r] at mu;exact mu
 by_cases hb:b=x
 ·subst hb;rw [bA] at q;cases q;exact new
 ·rw [aX hb] at q
  by_cases hbe:b=e
  ·have q':H b=some (.own x):=by
    rcases he with z | z
    ·exact absurd (hbe.trans z) hb
    ·rw [hbe];exact z
   rw [q] at q';cases q'
   obtain ⟨v,hv⟩:=heo
   exact ⟨v,by rw [hbe];exact hv⟩
  ·refine (ok b u q).stay (fun c v hc r=>k c v ?_ r) (fun c r=>by rw [aX (nown c b r)];exact r) fun c xs r=>by rw [aX (ntup c xs r)];exact r
   rcases hc with rfl | hc
   ·exact hbe
   ·rintro rfl
    rcases he with z | z
    ·exact nown c b hc z
    ·rw [hc] at z;cases z;exact hb rfl
end
structure Un (fs ex:List Addr) (H H':Hp) (h h':Heap):Prop where
 keep:∀ b o,h.get? b=some o→H b=none→b∉fs→b∉ex→h'.get? b=some o
 slot:∀ b o,h.get? b=some o→H b=none→b∈fs→b∉ex→∃ sl,h'.get? b=some {o with slots:=sl}
 free:∀ b o,h.get? b=some o→H b=none→b∉ex→H' b=none
 there:∀ b o,h.get? b=some o→b∉ex→∃ o',h'.get? b=some o'
 tups:∀ b xs,H b=some (.tup xs)→H' b=some (.tup xs)
 frzs:∀ b o u,H b=some (.frz o u)→H' b=some (.frz o u)
 tbls:∀ b ps,H b=some (.tbl ps)→∃ more,H' b=some (.tbl (ps++more))
section
variable {fs fs' ex ex':List Addr} {H H1 H2:Hp} {h h1 h2 h':Heap} {a x e:Addr} {o:HO}
theorem Un.any (u:Un fs ex H H1 h h1) {b:Addr} {ob:Obj} (q:h.get? b=some ob) (n:H b=none) (hx:b∉ex):∃ sl,h1.get? b=some {ob with slots:=sl}:=by
 by_cases hb:b∈fs
 ·exact u.slot b ob q n hb hx
 ·exact ⟨ob.slots,u.keep b ob q n hb hx⟩
theorem Un.kept (k:∀ b u,h.get? b=some u→h'.get? b=some u):Un fs ex H H h h':=
 ⟨fun b ob q _ _ _=>k b ob q,fun b ob q _ _ _=>⟨ob.slots,k b ob q⟩,fun _ _ _ n _=>n,fun b ob q _=>⟨ob,k b ob q⟩,fun _ _ q=>q,fun _ _ _ q=>q,fun _ ps q=>⟨#[],by rw [q];simp⟩⟩
theorem Un.refl:Un fs ex H H h h:=Un.kept fun _ _ q=>q
theorem Un.laid (k:∀ b u,h.get? b=some u→h'.get? b=some u) (hp:h.objs.size≤a) (hn:H a=none):Un fs ex H (upd H a o) h h' where
 keep:=fun b u q _ _ _=>k b u q
 slot:=fun b u q _ _ _=>⟨u.slots,k b u q⟩
 free:=fun b u q n _=>by rw [aX (Nat.ne_of_lt (Nat.lt_of_lt_of_le (Heap.lt_size q) hp))];exact n
 there:=fun b u q _=>⟨u,k b u q⟩
 tups:=fun b xs q=>by rw [aX (aB q hn)];exact q
 frzs:=fun b u xs q=>by rw [aX (aB q hn)];exact q
 tbls:=fun b ps q=>⟨#[],by rw [aX (aB q hn),q];simp⟩
theorem Un.write (mu:Mut (H x)) (he:e=x∨H e=some (.own x)) (k:∀ b u,b≠e→h.get? b=some u→h'.get? b=some u) (heo:∃ u,h'.get? e=some u):Un fs ex H (upd H x o) h h':=by
 have hx:∀ b,H b=none→b≠x:=fun b n z=>by subst z;rw [n] at mu;exact mu
 have hb:∀ b,H b=none→b≠e:=fun b n z=>by
  subst z
  rcases he with r | r
  ·exact hx b n r
  ·rw [n] at r;cases r
 have hm:∀ b u,H b=some u→¬ Mut (some u)→b≠x:=fun b u q nm z=>by subst z;rw [q] at mu;exact nm mu
 refine ⟨fun b u q n _ _=>k b u (hb b n) q,fun b u q n _ _=>⟨u.slots,k b u (hb b n) q⟩,fun b u q n _=>by rw [aX (hx b n)];exact n,fun b u q _ => ?_,
  fun b xs q=>by rw [aX (hm b _ q fun z=>z)];exact q,fun b u xs q=>by rw [aX (hm b _ q fun z=>z)];exact q,fun b ps q=>⟨#[],by rw [aX (hm b _ q fun z=>z),q];simp⟩⟩
 by_cases hbe:b=e
 ·subst hbe;exact heo
 ·exact ⟨u,k b u hbe q⟩
end
def trk (h:Heap) (H:Hp):List Addr:=(List.range h.objs.size).filter fun a=>(H a).isSome
def vI (h:Heap) (H:Hp):Heap:=PySem.W.hideAll h (trk h H)
theorem tD (h:Heap) (H:Hp):(vI h H).objs.size=h.objs.size:=PySem.W.hideAll_size _ _
theorem vJ {h:Heap} {H:Hp} {b:Addr} {o:Obj} (e:h.get? b=some o) (n:H b=none):(vI h H).get? b=some o:=
 PySem.W.hideAll_get _ e fun hm=>by
  have q:(H b).isSome=true:=(List.mem_filter.mp hm).2
  rw [n] at q;simp at q
theorem xT {h:Heap} {H:Hp} {b:Addr} {o:Obj} (e:(vI h H).get? b=some o):h.get? b=some o∧H b=none:=by
 have e':h.get? b=some o:=PySem.W.of_hideAll (trk h H) e
 refine ⟨e',?_⟩
 cases q:H b with
 | none=>rfl
 | some x=>
  have hm:b∈trk h H:=List.mem_filter.mpr ⟨List.mem_range.mpr (Heap.lt_size e'),by simp [q]⟩
  have z:(vI h H).get? b=none:=PySem.W.hideAll_none (trk h H) hm
  rw [z] at e;cases e
def xU (g h:Heap) (L:Addr):List (Addr×Obj):=(List.range h.objs.size).filterMap fun a=>if a=L∨(g.get? a).isSome=true then none else (h.get? a).map fun o=>(a,o)
def rest (g h:Heap) (L d:Addr):List (Addr×Obj):=(xU g h L).filter fun p=>decide (p.1≠d)
end L2
namespace L2
open PySem PySem.Spec PyProof.Rows
structure Mod (K:PySem.W.Frag) (mg:Str→Option Value) (base:Heap):Prop where
 kin:K.In base
 glob:base.Ns mainGlobals mg
 blt:∃ mb,base.Ns builtinsNs mb∧∀ x:Str,x ≠ "__name__" → mb x=bootBuiltins x
 nolimit:base.NoLimit
structure Cx where
 prog:Program
 w:World
 K:PySem.W.Frag
 mg:Str→Option Value
 base:Heap
 A:Around
 N:List Str
 s₀:Shared
 H₀:Hp
 env:Env
 outer:List Env
 stack:List Env
 ex:List Addr
 fn:Str→Bool
 calm:Bool
 pn:List (Addr×Obj)
 xe:Value→Shared→Prop
def frs (l:List Env):List Addr:=l.filterMap (·.frame)
abbrev Cx.fs (X:Cx):List Addr:=frs X.outer
def Vis (sc:Scope) (x:Str):Prop:=sc.names.lookup x=some .local∨sc.names.lookup x=some .cell∨sc.names.lookup x=some .free
def Loc (sc:Scope) (x:Str):Prop:=sc.names.lookup x=some .local∨sc.names.lookup x=some .cell
def CJ (env:Env) (h:Heap) (m:Str→Option Value) (x:Str) (u:Value):Prop:=
 (env.kindOf x=some .local∧m x=some u)∨((env.kindOf x=some .cell∨env.kindOf x=some .free)∧∃ c,env.cells.lookup x=some c∧h.IsCell c (some u))
structure Cx.Ok (X:Cx):Prop where
 mod:Mod X.K X.mg X.base
 kind:X.env.scope.kind = .function
 glob:X.env.globals=mainGlobals
 blt:X.env.builtins=builtinsNs
 above:X.s₀.heap.objs.size≤X.env.locals
 inj:∀ x y c,X.env.cells.lookup x=some c→X.env.cells.lookup y=some c→x=y
 has:∀ x,(X.env.kindOf x=some .cell∨X.env.kindOf x=some .free)→∃ c,X.env.cells.lookup x=some c
 cab:∀ x c,X.fn x=true→X.env.cells.lookup x=some c→X.s₀.heap.objs.size≤c
 hd:X.calm=true→X.A.handled=none
 frames:X.A.frames=some X.stack
 stk:X.stack=X.outer∨(X.stack=X.env :: X.outer∧X.env.frame=some X.env.locals)
 exf:∀ b∈X.ex,b≠X.env.locals∧∀ x c,X.env.cells.lookup x=some c→c≠b
 bs:∀ b o,X.base.get? b=some o→X.s₀.heap.get? b=some o∧X.H₀ b=none
 bsz:X.base.objs.size≤X.s₀.heap.objs.size
 noex:∀ b o,X.base.get? b=some o→b∉X.ex
 exfs:∀ b∈X.ex,b∉X.fs
 funs:X.s₀.heap.FunFrames X.base X.outer
 frf:∀ b∈X.fs,X.H₀ b=none
structure Inv (X:Cx) (pins:List (Addr×Obj)) (σ:List (Option V)) (H:Hp) (s:Shared):Prop where
 ok:X.Ok
 os:s.os=X.s₀.os
 bare:AllBare s.gens
 base:Un X.fs X.ex X.H₀ H X.s₀.heap s.heap
 loc:∃ m,s.heap.Ns X.env.locals m∧∀ (i:Nat) (x:Str) (v:V),X.N[i]? = some x→σ[i]? = some (some v)→Vis X.env.scope x→∃ u,RelV v u∧CJ X.env s.heap m x u
 cell:∀ x c,X.env.cells.lookup x=some c→∃ v,s.heap.IsCell c v
 free:H X.env.locals=none
 freeC:∀ x c,X.env.cells.lookup x=some c→H c=none
 pin:∀ p∈X.pn++pins,s.heap.get? p.1=some p.2∧H p.1=none∧p.1≠X.env.locals∧p.1∉X.fs∧∀ v,p.2.data ≠ .cell v
 hok:HOk X.prog X.w H s.heap
 len:σ.length=X.N.length
section
variable {X:Cx} {pins:List (Addr×Obj)} {σ:List (Option V)} {H H':Hp} {s:Shared} {h':Heap}
theorem Cx.Ok.nofr (ok:X.Ok) {b:Addr} {o:Obj} (e:X.base.get? b=some o):b∉X.fs:=fun hb=>by
 have:=(ok.funs.mem hb).1
 rw [e] at this;cases this
theorem Inv.bs (I:Inv X pins σ H s):∀ b o,X.base.get? b=some o→s.heap.get? b=some o∧H b=none:=fun b o e=>
 ⟨I.base.keep b o (I.ok.bs b o e).1 (I.ok.bs b o e).2 (I.ok.nofr e) (I.ok.noex b o e),I.base.free b o (I.ok.bs b o e).1 (I.ok.bs b o e).2 (I.ok.noex b o e)⟩
theorem Inv.bk (I:Inv X pins σ H s):∀ b o,X.base.get? b=some o→s.heap.get? b=some o:=fun b o e=>(I.bs b o e).1
theorem Inv.mod (I:Inv X pins σ H s):Mod X.K X.mg X.base:=I.ok.mod
theorem Inv.kIn (I:Inv X pins σ H s):X.K.In s.heap:=I.ok.mod.kin.keeps I.bk
theorem Inv.lt (I:Inv X pins σ H s):X.env.locals < s.heap.objs.size:=let ⟨_,hn,_⟩:=I.loc;hn.lt
theorem Inv.sz (I:Inv X pins σ H s):X.s₀.heap.objs.size≤s.heap.objs.size:=Nat.le_trans I.ok.above (Nat.le_of_lt I.lt)
theorem Inv.nofs (I:Inv X pins σ H s) {a:Addr} (h:s.heap.objs.size≤a):a∉X.fs:=fun hb=>by
 obtain ⟨_,o,ho,_⟩:=I.ok.funs.mem hb
 exact absurd (Nat.lt_of_lt_of_le (Heap.lt_size ho) (Nat.le_trans I.sz h)) (Nat.lt_irrefl _)
theorem Inv.cne (I:Inv X pins σ H s):∀ x c,X.env.cells.lookup x=some c→c≠X.env.locals:=fun x c e z=>by
 obtain ⟨v,o,ho,hd⟩:=I.cell x c e
 obtain ⟨m,⟨o',es,ep,ho',hd',_⟩,_⟩:=I.loc
 rw [z,ho'] at ho;cases ho;rw [hd'] at hd;cases hd
theorem Inv.funs (I:Inv X pins σ H s):s.heap.FunFrames X.base X.outer:=by
 have all:∀ (l:List Env),(∀ b∈frs l,b∈X.fs)→X.s₀.heap.FunFrames X.base l→s.heap.FunFrames X.base l:=by
  intro l
  induction l with
  | nil=>intro _ _;trivial
  | cons env r ih=>
   intro hs hl
   obtain ⟨hk,⟨L,o,hf,hn,ho,hd⟩,hr⟩:=hl
   have hL:L∈X.fs:=hs L (by unfold frs;rw [List.filterMap_cons,hf];exact List.mem_cons_self)
   obtain ⟨sl,e⟩:=I.base.slot L o ho (I.ok.frf L hL) hL fun z=>I.ok.exfs L z hL
   exact ⟨hk,⟨L,_,hf,hn,e,hd⟩,ih (fun b hb=>hs b (by unfold frs;rw [List.filterMap_cons,hf];exact List.mem_cons_of_mem _ hb)) hr⟩
 exact all X.outer (fun _ hb=>hb) I.ok.funs
theorem Inv.stack (I:Inv X pins σ H s):s.heap.FunFrames X.base X.stack:=by
 rcases I.ok.stk with e | ⟨e,hf⟩
 ·rw [e];exact I.funs
 ·rw [e]
  obtain ⟨m,hn,_⟩:=I.loc
  refine .cons (by rw [I.ok.kind];decide) hf hn ?_ I.funs
  exact Heap.get?_none_of_le (Nat.le_trans I.ok.bsz I.ok.above)
theorem Inv.stkSub (I:Inv X pins σ H s):∀ b∈frs X.stack,b∈X.env.locals :: X.fs:=fun b hb=>by
 rcases I.ok.stk with e | ⟨e,hf⟩
 ·rw [e] at hb;exact List.mem_cons_of_mem _ hb
 ·rw [e] at hb
  unfold frs at hb
  rw [List.filterMap_cons,hf] at hb
  exact hb
theorem Inv.stkFree (I:Inv X pins σ H s):∀ b∈frs X.stack,H b=none:=fun b hb=>by
 rcases List.mem_cons.mp (I.stkSub b hb) with e | hb
 ·rw [e];exact I.free
 ·obtain ⟨_,o,ho,_⟩:=I.ok.funs.mem hb
  exact I.base.free b o ho (I.ok.frf b hb) fun z=>I.ok.exfs b z hb
theorem Inv.step {g':Array GenState} {t':Nat} {d':Drawn} {ch:List Addr} (I:Inv X pins σ H s)
  (hch:∀ b∈ch,(b∈X.ex∨X.s₀.heap.objs.size≤b)∧b≠X.env.locals∧(∀ x c,X.env.cells.lookup x=some c→c≠b)∧∀ p∈X.pn++pins,p.1≠b)
  (keep:∀ b o,b≠X.env.locals→b∉X.fs→b∉ch→s.heap.get? b=some o→H b=none→h'.get? b=some o)
  (slot:∀ b o,b≠X.env.locals→b∈X.fs→b∉ch→s.heap.get? b=some o→H b=none→∃ sl,h'.get? b=some {o with slots:=sl}) (free:∀ b o,b∉ch→s.heap.get? b=some o→H b=none→H' b=none)
  (there:∀ b o,b∉ch→s.heap.get? b=some o→∃ o',h'.get? b=some o')
  (tups:∀ b xs,H b=some (.tup xs)→H' b=some (.tup xs)) (frzs:∀ b o u,H b=some (.frz o u)→H' b=some (.frz o u)) (tbls:∀ b ps,H b=some (.tbl ps)→∃ more,H' b=some (.tbl (ps++more)))
  (ns:∀ m,s.heap.Ns X.env.locals m→h'.Ns X.env.locals m) (hok:HOk X.prog X.w H' h') (hg:AllBare g') :
  Inv X pins σ H' {s with heap:=h',gens:=g',drawn:=d',toks:=t'}:=by
 have neL:∀ b o,X.s₀.heap.get? b=some o→b≠X.env.locals:=fun b o e=>Nat.ne_of_lt (Nat.lt_of_lt_of_le (Heap.lt_size e) I.ok.above)
 have neC:∀ b o,X.s₀.heap.get? b=some o→b∉X.ex→b∉ch:=fun b o e hx hb=>by
  rcases (hch b hb).1 with z | z
  ·exact hx z
  ·exact absurd (Nat.lt_of_lt_of_le (Heap.lt_size e) z) (Nat.lt_irrefl _)
 have cellK:∀ x c,X.env.cells.lookup x=some c→∀ v,s.heap.IsCell c v→h'.IsCell c v:=fun x c e v ⟨o,ho,hd⟩=>by
  have nch:c∉ch:=fun z=>(hch c z).2.2.1 x c e rfl
  by_cases hc:c∈X.fs
  ·obtain ⟨sl,q⟩:=slot c o (I.cne x c e) hc nch ho (I.freeC x c e)
   exact ⟨_,q,hd⟩
  ·exact ⟨o,keep c o (I.cne x c e) hc nch ho (I.freeC x c e),hd⟩
 refine ⟨I.ok,I.os,hg,⟨fun b o e n hb hx => ?_,fun b o e n hb hx => ?_,fun b o e n hx => ?_,fun b o e hx => ?_,fun b xs e=>tups b xs (I.base.tups b xs e),fun b o xs e=>frzs b o xs (I.base.frzs b o xs e),fun b ps e => ?_⟩,?_,fun x c e => ?_,?_,fun x c e => ?_,fun p hp => ?_,hok,I.len⟩
 ·exact keep b o (neL b o e) hb (neC b o e hx) (I.base.keep b o e n hb hx) (I.base.free b o e n hx)
 ·obtain ⟨sl,e1⟩:=I.base.slot b o e n hb hx
  obtain ⟨sl',e2⟩:=slot b _ (neL b o e) hb (neC b o e hx) e1 (I.base.free b o e n hx)
  exact ⟨sl',e2⟩
 ·obtain ⟨o',e1⟩:=I.base.there b o e hx
  exact free b o' (neC b o e hx) e1 (I.base.free b o e n hx)
 ·obtain ⟨o',e1⟩:=I.base.there b o e hx
  exact there b o' (neC b o e hx) e1
 ·obtain ⟨m1,e1⟩:=I.base.tbls b ps e
  obtain ⟨m2,e2⟩:=tbls b _ e1
  exact ⟨m1++m2,by rw [e2,Array.append_assoc]⟩
 ·obtain ⟨m,hn,hl⟩:=I.loc
  refine ⟨m,ns m hn,fun i x v e1 e2 e3 => ?_⟩
  obtain ⟨u,r,l⟩:=hl i x v e1 e2 e3
  refine ⟨u,r,?_⟩
  rcases l with l | ⟨k,c,e,z⟩
  ·exact .inl l
  ·exact .inr ⟨k,c,e,cellK x c e _ z⟩
 ·obtain ⟨v,z⟩:=I.cell x c e
  exact ⟨v,cellK x c e v z⟩
 ·obtain ⟨m,⟨o,_,_,ho,_⟩,_⟩:=I.loc
  exact free _ o (fun z=>(hch _ z).2.1 rfl) ho I.free
 ·obtain ⟨v,o,ho,hd⟩:=I.cell x c e
  exact free c o (fun z=>(hch c z).2.2.1 x c e rfl) ho (I.freeC x c e)
 ·obtain ⟨e,n,ne,nf,d⟩:=I.pin p hp
  have nch:p.1∉ch:=fun z=>(hch p.1 z).2.2.2 p hp rfl
  exact ⟨keep p.1 p.2 ne nf nch e n,free p.1 p.2 nch e n,ne,nf,d⟩
theorem Inv.un {t':Nat} (I:Inv X pins σ H s) (u:Un X.fs [] H H' s.heap h') (hok:HOk X.prog X.w H' h'):Inv X pins σ H' {s with heap:=h',toks:=t'}:=by
 obtain ⟨m,⟨o,es,ep,ho,r⟩,_⟩:=id I.loc
 obtain ⟨sl,hL⟩:=u.any ho I.free (by simp)
 exact I.step (g':=s.gens) (d':=s.drawn) (ch:=[]) (fun _ z=>nomatch z) (fun b o _ hb _ e n=>u.keep b o e n hb (by simp)) (fun b o _ hb _ e n=>u.slot b o e n hb (by simp)) (fun b o _ e n=>u.free b o e n (by simp)) (fun b o _ e=>u.there b o e (by simp)) u.tups u.frzs u.tbls (fun m' hm=>by
  obtain ⟨o',es',ep',ho',r'⟩:=hm
  rw [ho] at ho';cases ho'
  exact ⟨_,es',ep',hL,r'⟩) hok I.bare
theorem Inv.call {g':Array GenState} {t':Nat} {d':Drawn} {ch:List Addr} (I:Inv X pins σ H s) (u:Un (frs X.stack) ch H H' s.heap h') (hok:HOk X.prog X.w H' h') (hg:AllBare g')
  (hch:∀ b∈ch,(b∈X.ex∨X.s₀.heap.objs.size≤b)∧b≠X.env.locals∧(∀ x c,X.env.cells.lookup x=some c→c≠b)∧∀ p∈X.pn++pins,p.1≠b) :
  Inv X pins σ H' {s with heap:=h',gens:=g',drawn:=d',toks:=t'}:=by
 obtain ⟨m,⟨o,es,ep,ho,r⟩,_⟩:=id I.loc
 obtain ⟨sl,hL⟩:=u.any ho I.free fun z=>(hch _ z).2.1 rfl
 exact I.step (ch:=ch) hch (fun b o hL hb hc e n=>u.keep b o e n (fun z=>(List.mem_cons.mp (I.stkSub b z)).elim hL hb) hc) (fun b o _ _ hc e n=>u.any e n hc) (fun b o hc e n=>u.free b o e n hc) (fun b o hc e=>u.there b o e hc) u.tups u.frzs u.tbls (fun m' hm=>by
  obtain ⟨o',es',ep',ho',r'⟩:=hm
  rw [ho] at ho';cases ho'
  exact ⟨_,es',ep',hL,r'⟩) hok hg
theorem Inv.turned {t':Nat} {it:Addr} (I:Inv X pins σ H s) (k:∀ b o,b≠it→s.heap.get? b=some o→h'.get? b=some o) (hn:H it=none) (hL:it≠X.env.locals)
  (h1:it∈X.ex∨X.s₀.heap.objs.size≤it) (h2:∀ x c,X.env.cells.lookup x=some c→c≠it) (h3:∀ p∈X.pn++pins,p.1≠it):Inv X pins σ H {s with heap:=h',toks:=t'}:=by
 have nit:∀ b u,H b=some u→b≠it:=fun b u e z=>by rw [z,hn] at e;cases e
 refine I.step (g':=s.gens) (d':=s.drawn) (ch:=[it]) (fun b hb => ?_) (fun b o _ _ hc e _=>k b o (fun z=>hc (by simp [z])) e) (fun b o _ _ hc e _=>⟨o.slots,k b o (fun z=>hc (by simp [z])) e⟩) (fun _ _ _ _ n=>n)
  (fun b o hc e=>⟨o,k b o (fun z=>hc (by simp [z])) e⟩) (fun _ _ e=>e) (fun _ _ _ e=>e) (fun b ps e=>⟨#[],by rw [e];simp⟩) (fun m hm => ?_) (fun b u e => ?_) I.bare
 ·have e:b=it:=by simpa using hb
  subst e
  exact ⟨h1,hL,h2,h3⟩
 ·obtain ⟨o,es,ep,ho,r⟩:=hm
  exact ⟨o,es,ep,k _ o (Ne.symm hL) ho,r⟩
 ·refine (I.hok b u e).stay (fun c v hc q=>k c v ?_ q) (fun _ q=>q) fun _ _ q=>q
  rcases hc with z | z
  ·rw [z];exact nit b u e
  ·exact nit c _ z
theorem Inv.tok (I:Inv X pins σ H s) (t:Nat):Inv X pins σ H {s with toks:=t}:=I.un (h':=s.heap) (t':=t) Un.refl I.hok
theorem Inv.kept {t':Nat} (I:Inv X pins σ H s) (k:∀ b u,s.heap.get? b=some u→h'.get? b=some u):Inv X pins σ H {s with heap:=h',toks:=t'}:=I.un (Un.kept k) (I.hok.kept k)
theorem Inv.laid {a:Addr} {o:HO} {t':Nat} (I:Inv X pins σ H s) (k:∀ b u,s.heap.get? b=some u→h'.get? b=some u) (hp:s.heap.objs.size≤a) (new:ObjOk X.prog X.w (upd H a o) h' a o) :
  Inv X pins σ (upd H a o) {s with heap:=h',toks:=t'}:=I.un (Un.laid k hp (I.hok.fresh hp)) (I.hok.laid k hp new)
theorem Inv.write {x e:Addr} {o:HO} {t':Nat} (I:Inv X pins σ H s) (mu:Mut (H x)) (he:e=x∨H e=some (.own x)) (k:∀ b u,b≠e→s.heap.get? b=some u→h'.get? b=some u) (heo:∃ u,h'.get? e=some u)
  (new:ObjOk X.prog X.w (upd H x o) h' x o):Inv X pins σ (upd H x o) {s with heap:=h',toks:=t'}:=I.un (Un.write mu he k heo) (I.hok.write mu he k heo new)
theorem Inv.pins_of {pins':List (Addr×Obj)} (I:Inv X pins σ H s) (h:∀ p∈pins',s.heap.get? p.1=some p.2∧H p.1=none∧p.1≠X.env.locals∧p.1∉X.fs∧∀ v,p.2.data ≠ .cell v):Inv X pins' σ H s:=
 ⟨I.ok,I.os,I.bare,I.base,I.loc,I.cell,I.free,I.freeC,fun p hp=>(List.mem_append.mp hp).elim (fun z=>I.pin p (List.mem_append_left _ z)) (h p),I.hok,I.len⟩
theorem lH {N:List Str} (hN:N.Nodup) {i j:Nat} {x:Str} (a:N[i]? = some x) (b:N[j]? = some x):i=j:=by
 obtain ⟨h1,e1⟩:=List.getElem?_eq_some_iff.mp a
 obtain ⟨h2,e2⟩:=List.getElem?_eq_some_iff.mp b
 exact (List.getElem_inj hN).mp (e1.trans e2.symm)
theorem mP {M:Model} {A:Around} {E:Value→Shared→Prop} {i:Nat} {x:Str} {v:V} {u:Value} {Q:Unit→Shared→Prop} (I:Inv X pins σ H s) (hN:X.N.Nodup) (hi:X.N[i]? = some x) (hx:Loc X.env.scope x) (r:RelV v u)
  (h:∀ s',Inv X pins (σ.set i (some v)) H s'→(∃ a,Heap.SameBut a s.heap s'.heap∧(a=X.env.locals∨X.env.cells.lookup x=some a))→Q () s') (hf:X.fn x=true∨X.env.scope.names.lookup x=some .local:=by first | exact .inl rfl | exact .inr rfl | assumption):wpAny M A (storeName X.env x u) Q E s:=by
 obtain ⟨m,hn,hl⟩:=id I.loc
 have hcls:(X.env.scope.kind == .class || (X.env.scope.kind == .module && X.env.locals != X.env.globals))=false:=by rw [I.ok.kind];rfl
 have hiσ:i < σ.length:=by rw [I.len];exact (List.getElem?_eq_some_iff.mp hi).1
 have cne:=I.cne
 have tracked:∀ {a:Addr} {h':Heap},(∃ o,s.heap.get? a=some o∧H a=none)→Heap.SameBut a s.heap h'→HOk X.prog X.w H h':=fun {a h'} ha hs b ob e=>by
  obtain ⟨_,_,hfree⟩:=ha
  refine (I.hok b ob e).stay (fun c w' hc q=>(hs.2 c ?_).trans q) (fun _ q=>q) fun _ _ q=>q
  rintro rfl
  rcases hc with rfl | hc
  ·rw [hfree] at e;cases e
  ·rw [hfree] at hc;cases hc
 rcases hx with hk | hk
 ·refine wpAny_storeName_local hk hn (fun h' hn' hs => ?_) hcls
  obtain ⟨oL,_,_,hoL,_⟩:=id hn
  refine h _ ⟨I.ok,I.os,I.bare,⟨fun b o e n hb hx => ?_,fun b o e n hb hx => ?_,I.base.free,fun b o e hx => ?_,I.base.tups,I.base.frzs,I.base.tbls⟩,⟨_,hn',fun j y v' e1 e2 e3 => ?_⟩,fun y c e => ?_,I.free,I.freeC,fun p hp => ?_,tracked ⟨oL,hoL,I.free⟩ hs,by simpa using I.len⟩ ⟨_,hs,.inl rfl⟩
  ·exact (hs.2 b (Nat.ne_of_lt (Nat.lt_of_lt_of_le (Heap.lt_size e) I.ok.above))).trans (I.base.keep b o e n hb hx)
  ·obtain ⟨sl,e1⟩:=I.base.slot b o e n hb hx
   exact ⟨sl,(hs.2 b (Nat.ne_of_lt (Nat.lt_of_lt_of_le (Heap.lt_size e) I.ok.above))).trans e1⟩
  ·obtain ⟨o',e1⟩:=I.base.there b o e hx
   exact ⟨o',(hs.2 b (Nat.ne_of_lt (Nat.lt_of_lt_of_le (Heap.lt_size e) I.ok.above))).trans e1⟩
  ·by_cases hj:j=i
   ·subst hj
    rw [hi] at e1;cases e1
    rw [List.getElem?_set_self hiσ] at e2
    cases e2
    exact ⟨u,r,.inl ⟨hk,by simp⟩⟩
   ·rw [List.getElem?_set_ne (Ne.symm hj)] at e2
    obtain ⟨u',r',q⟩:=hl j y v' e1 e2 e3
    refine ⟨u',r',?_⟩
    rcases q with ⟨k,e⟩ | ⟨k,c,e,z⟩
    ·refine .inl ⟨k,?_⟩
     have:y≠x:=fun e=>hj (lH hN e1 (e ▸ hi))
     simp [this,e]
    ·exact .inr ⟨k,c,e,z.sameBut hs (cne y c e)⟩
  ·obtain ⟨w',z⟩:=I.cell y c e
   exact ⟨w',z.sameBut hs (cne y c e)⟩
  ·obtain ⟨e,n,ne,nf,d⟩:=I.pin p hp
   exact ⟨(hs.2 p.1 ne).trans e,n,ne,nf,d⟩
 ·have hfn:X.fn x=true:=by
   rcases hf with z | z
   ·exact z
   ·rw [z] at hk;cases hk
  obtain ⟨c,hc⟩:=I.ok.has x (.inl hk)
  obtain ⟨w',z⟩:=I.cell x c hc
  refine wpAny_storeName_cell I.ok.kind hk hc z (fun h' hc' hs => ?_)
  obtain ⟨oc,hoc,hocd⟩:=id z
  refine h {s with heap:=h'} ⟨I.ok,I.os,I.bare,⟨fun b o e n hb hx => ?_,fun b o e n hb hx => ?_,I.base.free,fun b o e hx => ?_,I.base.tups,I.base.frzs,I.base.tbls⟩,⟨m,hn.sameBut hs (Ne.symm (cne x c hc)),fun j y v' e1 e2 e3 => ?_⟩,fun y c' e => ?_,I.free,I.freeC,fun p hp => ?_,tracked ⟨oc,hoc,I.freeC x c hc⟩ hs,by simpa using I.len⟩ ⟨c,hs,.inr hc⟩
  ·exact (hs.2 b (Nat.ne_of_lt (Nat.lt_of_lt_of_le (Heap.lt_size e) (I.ok.cab x c hfn hc)))).trans (I.base.keep b o e n hb hx)
  ·obtain ⟨sl,e1⟩:=I.base.slot b o e n hb hx
   exact ⟨sl,(hs.2 b (Nat.ne_of_lt (Nat.lt_of_lt_of_le (Heap.lt_size e) (I.ok.cab x c hfn hc)))).trans e1⟩
  ·obtain ⟨o',e1⟩:=I.base.there b o e hx
   exact ⟨o',(hs.2 b (Nat.ne_of_lt (Nat.lt_of_lt_of_le (Heap.lt_size e) (I.ok.cab x c hfn hc)))).trans e1⟩
  ·by_cases hj:j=i
   ·subst hj
    rw [hi] at e1;cases e1
    rw [List.getElem?_set_self hiσ] at e2
    cases e2
    exact ⟨u,r,.inr ⟨.inl hk,c,hc,hc'⟩⟩
   ·rw [List.getElem?_set_ne (Ne.symm hj)] at e2
    obtain ⟨u',r',q⟩:=hl j y v' e1 e2 e3
    refine ⟨u',r',?_⟩
    rcases q with q | ⟨k,c',e,z'⟩
    ·exact .inl q
    ·refine .inr ⟨k,c',e,z'.sameBut hs ?_⟩
     rintro rfl
     exact hj (lH hN e1 (I.ok.inj _ _ _ e hc ▸ hi))
  ·by_cases hcc:c'=c
   ·subst hcc;exact ⟨_,hc'⟩
   ·obtain ⟨w2,z2⟩:=I.cell y c' e
    exact ⟨w2,z2.sameBut hs hcc⟩
  ·obtain ⟨e,n,ne,nf,d⟩:=I.pin p hp
   refine ⟨(hs.2 p.1 ?_).trans e,n,ne,nf,d⟩
   intro q
   rw [q,hoc] at e
   have q':oc=p.2:=Option.some.inj e
   exact d w' (by rw [← q'];exact hocd)
theorem gD {M:Model} {A:Around} {E:Value→Shared→Prop} {i:Nat} {x:Str} {v:V} {u:Value} {Q:Unit→Shared→Prop} (I:Inv X pins σ H s) (hN:X.N.Nodup) (hi:X.N[i]? = some x) (hx:Loc X.env.scope x) (r:RelV v u)
  (h:∀ s',Inv X pins (σ.set i (some v)) H s'→Q () s') (hf:X.fn x=true∨X.env.scope.names.lookup x=some .local:=by first | exact .inl rfl | exact .inr rfl | assumption):wpAny M A (storeName X.env x u) Q E s:=
 mP I hN hi hx r (fun s' I' _=>h s' I') hf
theorem Inv.call' {s':Shared} {ch:List Addr} (I:Inv X pins σ H s) (ho:s'.os=s.os) (u:Un (frs X.stack) ch H H' s.heap s'.heap) (hok:HOk X.prog X.w H' s'.heap) (hg:AllBare s'.gens)
  (hch:∀ b∈ch,(b∈X.ex∨X.s₀.heap.objs.size≤b)∧b≠X.env.locals∧(∀ x c,X.env.cells.lookup x=some c→c≠b)∧∀ p∈X.pn++pins,p.1≠b):Inv X pins σ H' s':=by
 obtain ⟨h',g',d',t',o'⟩:=s'
 have e:o'=s.os:=ho
 subst e
 exact I.call (g':=g') (t':=t') (d':=d') u hok hg hch
end
abbrev XK:=Value→Option Addr→Hp→Prop
abbrev St:=List (Option V)
abbrev VK:=V→Hp→Prop
abbrev TE:=St→Hp→VK→Prop
abbrev TT:=St→Hp→(Bool→Hp→Prop)→Prop
abbrev TA:=St→Hp→(List V→Hp→Prop)→Prop
structure Ends where
 nx:St→Hp→Prop
 rt:VK
 bk:St→Hp→Prop:=fun _ _=>False
 ct:St→Hp→Prop:=fun _ _=>False
abbrev TS:=Ends→St→Hp→Prop
def EP (X:Cx) (pins:List (Addr×Obj)) (σ:St) (Q:VK) (u:Value) (s':Shared):Prop:=∃ v H',Inv X pins σ H' s'∧RelV v u∧Q v H'
def TP (X:Cx) (pins:List (Addr×Obj)) (σ:St) (Q:Bool→Hp→Prop) (b:Bool) (s':Shared):Prop:=∃ H',Inv X pins σ H' s'∧Q b H'
def AP (X:Cx) (pins:List (Addr×Obj)) (σ:St) (Q:List V→Hp→Prop) (us:List Value) (s':Shared):Prop:=∃ vs H',Inv X pins σ H' s'∧Vals vs us∧Q vs H'
def SP (X:Cx) (pins:List (Addr×Obj)) (D:Ends) (f:Flow) (s':Shared):Prop:=
 match f with
 | .next=>∃ σ' H',Inv X pins σ' H' s'∧D.nx σ' H'
 | .brk=>∃ σ' H',Inv X pins σ' H' s'∧D.bk σ' H'
 | .cont=>∃ σ' H',Inv X pins σ' H' s'∧D.ct σ' H'
 | .ret u=>∃ v σ' H',Inv X pins σ' H' s'∧RelV v u∧D.rt v H'
def PE (X:Cx) (e:Expr) (t:TE):Prop:=
 ∀ (pins:List (Addr×Obj)) (s:Shared) (σ:St) (H:Hp) (Q:VK),Inv X pins σ H s→t σ H Q→wpAny (model X.prog X.w) X.A (eval e X.env) (EP X pins σ Q) X.xe s
def PT (X:Cx) (e:Expr) (t:TT):Prop:=
 ∀ (pins:List (Addr×Obj)) (s:Shared) (σ:St) (H:Hp) (Q:Bool→Hp→Prop),Inv X pins σ H s→t σ H Q→wpAny (model X.prog X.w) X.A (isTrue e X.env (eval e X.env)) (TP X pins σ Q) X.xe s
def PW (X:Cx) (e:Expr) (t:TT):Prop:=
 ∀ (whole:Sem Value) (pins:List (Addr×Obj)) (s:Shared) (σ:St) (H:Hp) (Q:Bool→Hp→Prop),Inv X pins σ H s→t σ H Q→wpAny (model X.prog X.w) X.A (isTrue e X.env whole) (TP X pins σ Q) X.xe s
theorem PW.pt {X:Cx} {e:Expr} {t:TT} (h:PW X e t):PT X e t:=h _
def PA (X:Cx) (es:List Expr) (t:TA):Prop:=
 ∀ (pos:Pos) (pins:List (Addr×Obj)) (s:Shared) (σ:St) (H:Hp) (Q:List V→Hp→Prop),Inv X pins σ H s→t σ H Q→wpAny (model X.prog X.w) X.A (spliced (backTo pos (starEach es X.env))) (AP X pins σ Q) X.xe s
def PS (X:Cx) (st:Stmt) (t:TS):Prop:=
 ∀ (pins:List (Addr×Obj)) (s:Shared) (σ:St) (H:Hp) (D:Ends),Inv X pins σ H s→t D σ H→wpAny (model X.prog X.w) X.A (exec st X.env) (SP X pins D) X.xe s
def PSs (X:Cx) (st:List Stmt) (t:TS):Prop:=
 ∀ (pins:List (Addr×Obj)) (s:Shared) (σ:St) (H:Hp) (D:Ends),Inv X pins σ H s→t D σ H→wpAny (model X.prog X.w) X.A (execs st X.env) (SP X pins D) X.xe s
theorem thn {α:Type} {t:Sem α} {Q Q':α→Shared→Prop} {M:Model} {A:Around} {E:Value→Shared→Prop} {s:Shared} (h:wpAny M A t Q E s) (hQ:∀ a s,Q a s→Q' a s):wpAny M A t Q' E s:=wpAny_mono h hQ fun _ _ x=>x
end L2
namespace L2
open PySem PySem.Spec PyProof.Rows
section
variable {X:Cx}
def iT (i:Nat):TE:=fun σ H Q=>∃ v,σ[i]? = some (some v)∧Q v H
def tC (v:V):TE:=fun _ H Q=>Q v H
theorem xt {i:Nat} {x:Str} {pos:Pos} (hN:X.N[i]? = some x) (hv:Vis X.env.scope x) (hd:(x == ("__debug__" : Str))=false:=by decide) (hcd:(x == ("__classdict__" : Str))=false:=by decide):PE X (.Name x pos) (iT i):=by
 intro pins s σ H Q I h
 obtain ⟨v,e,h⟩:=h
 obtain ⟨m,hn,hl⟩:=I.loc
 obtain ⟨u,r,l⟩:=hl i x v hN e hv
 have fin:EP X pins σ Q u s:=⟨v,H,I,r,h⟩
 rcases l with ⟨hk,hm⟩ | ⟨hk,c,hc,hcell⟩
 ·exact wpAny_Name (wpAny_loadName_local I.ok.kind hk hn hm fin) hd
 ·rcases hk with hk | hk
  ·exact wpAny_Name (wpAny_loadName_cell I.ok.kind hk hc hcell fin) hd
  ·exact wpAny_Name (wpAny_loadName_free I.ok.kind hk hc hcell fin hcd) hd
theorem af {i j pos}:PE X (.Constant (.int i) j pos) (tC (.int i)):=fun _ _ _ H _ I h=>wpAny_Constant_int ⟨.int i,H,I.tok _,⟨_,rfl⟩,h⟩
theorem ij {b j pos}:PE X (.Constant (.bool b) j pos) (tC (.bl b)):=fun _ _ _ H _ I h=>Constant_bool ⟨.bl b,H,I,rfl,h⟩
theorem cc {j pos}:PE X (.Constant .none j pos) (tC .non):=fun _ _ _ H _ I h=>Constant_none ⟨.non,H,I,rfl,h⟩
theorem am {x j pos}:PE X (.Constant (.str x) j pos) (tC (.str x)):=fun _ _ _ H _ I h=>Calls.Constant_str ⟨.str x,H,I.tok _,⟨_,rfl⟩,h⟩
def Gl (X:Cx) (x:Str):Prop:=X.env.kindOf x=some .globalImplicit
theorem d8 {E:Value→Shared→Prop} {pins:List (Addr×Obj)} {s:Shared} {σ:St} {H:Hp} {x:Str} {u:Value} {pos:Pos} {Q:Value→Shared→Prop} (I:Inv X pins σ H s) (hg:Gl X x) (hm:X.mg x=some u) (h:Q u s)
  (hd:(x == ("__debug__" : Str))=false:=by decide):wpAny (model X.prog X.w) X.A (eval (.Name x pos) X.env) Q E s:=
 Calls.Name_function_global I.ok.kind hg (Calls.loadGlobal_global (by rw [I.ok.glob];exact I.mod.glob.keeps I.bk) hm h) hd
theorem kP {E:Value→Shared→Prop} {pins:List (Addr×Obj)} {s:Shared} {σ:St} {H:Hp} {x:Str} {u:Value} {pos:Pos} {Q:Value→Shared→Prop} (I:Inv X pins σ H s) (hg:Gl X x) (hm:X.mg x=none) (hv:bootBuiltins x=some u) (h:Q u s)
  (hn:x ≠ "__name__" := by decide) (hd:(x == ("__debug__" : Str))=false:=by decide):wpAny (model X.prog X.w) X.A (eval (.Name x pos) X.env) Q E s:=by
 obtain ⟨mb,h1,h2⟩:=I.mod.blt
 exact Calls.Name_function_global I.ok.kind hg (Calls.loadGlobal_builtin (by rw [I.ok.glob];exact I.mod.glob.keeps I.bk) hm (by rw [I.ok.blt];exact h1.keeps I.bk) ((h2 x hn).trans hv) h) hd
theorem pd {x:Str} {v:V} {u:Value} {pos:Pos} (hg:Gl X x) (hm:X.mg x=some u) (r:RelV v u) (hd:(x == ("__debug__" : Str))=false:=by decide):PE X (.Name x pos) (tC v):=
 fun _ _ _ H _ I h=>d8 I hg hm ⟨v,H,I,r,h⟩ hd
theorem xV {x:Str} {v:V} {u:Value} {pos:Pos} (hg:Gl X x) (hm:X.mg x=none) (hv:bootBuiltins x=some u) (r:RelV v u) (hn:x ≠ "__name__" := by decide) (hd:(x == ("__debug__" : Str))=false:=by decide):PE X (.Name x pos) (tC v):=
 fun _ _ _ H _ I h=>kP I hg hm hv ⟨v,H,I,r,h⟩ hn hd
def t2I (ta tb:TE) (k:Int→Int→Hp→Prop):St→Hp→Prop:=fun σ H=>ta σ H fun x H1=>tb σ H1 fun y H2=>∃ i j,x = .int i∧y = .int j∧k i j H2
def Fg (ta tb:TE):TE:=fun σ H Q=>t2I ta tb (fun i j H2=>Q (.int (i+j)) H2) σ H
def Fh (ta tb:TE):TE:=fun σ H Q=>t2I ta tb (fun i j H2=>Q (.int (i - j)) H2) σ H
def Fi (ta tb:TE):TE:=fun σ H Q=>t2I ta tb (fun i j H2=>(-(2 ^ 64) < i∧i < 2 ^ 64)∧Q (.int (i * j)) H2) σ H
variable {a b:Expr} {ta tb:TE} {pos:Pos}
def PC (X:Cx) (op:CmpOp) (a b:Expr) (t:TE):Prop:=
 ∀ (pins:List (Addr×Obj)) (s:Shared) (σ:St) (H:Hp) (Q:VK),Inv X pins σ H s→t σ H Q →
  wpAny (model X.prog X.w) X.A (eval a X.env) (fun v s₁=>wpAny (model X.prog X.w) X.A (eval b X.env) (fun u s₂=>wpAny (model X.prog X.w) X.A (compareOp op v u) (EP X pins σ Q) X.xe s₂) X.xe s₁) X.xe s
def Ab (p:Int→Int→Bool) (ta tb:TE):TE:=fun σ H Q=>t2I ta tb (fun i j H2=>Q (.bl (p i j)) H2) σ H
abbrev tLt:TE→TE→TE:=Ab fun i j=>decide (i < j)
abbrev tLe:TE→TE→TE:=Ab fun i j=>decide (i≤j)
abbrev tGt:TE→TE→TE:=Ab fun i j=>decide (j < i)
abbrev tGe:TE→TE→TE:=Ab fun i j=>decide (j≤i)
abbrev Fj:TE→TE→TE:=Ab fun i j=>decide (i=j)
abbrev Fk:TE→TE→TE:=Ab fun i j => !decide (i=j)
def Fl (ta:TE):TE:=fun σ H Q=>ta σ H fun x H1=>Q (.bl (decide (x = .non))) H1
def EJ (ta:TE):TE:=fun σ H Q=>ta σ H fun x H1=>Q (.bl (!decide (x = .non))) H1
def tB (t:TE):TT:=fun σ H Q=>t σ H fun x H1=>∃ c,x = .bl c∧Q c H1
theorem cC {e:Expr} {t:TE} (h:PE X e t) (he:∀ whole,isTrue e X.env whole=(do let v ← whole;standAt e.pos;holding [v] (truthy v)):=by intro _;rfl):PT X e (tB t):=by
 intro pins s σ H Q I hw
 refine isTrue_plain (thn (h pins s σ H _ I hw) fun v s1 ⟨x,H1,I1,r1,q1⟩ => ?_) (he _)
 obtain ⟨d,rfl,q⟩:=q1
 cases r1
 exact wpAny_truthy_bool ⟨H1,I1,q⟩
variable {tA tB':TT} {rest:List Expr}
def Cu (t u:TT):TT:=fun σ H Q=>t σ H fun c H1=>if c=true then u σ H1 Q else Q false H1
def tOr (t u:TT):TT:=fun σ H Q=>t σ H fun c H1=>if c=true then Q true H1 else u σ H1 Q
def CK (t:TT):TT:=fun σ H Q=>t σ H fun c H1=>Q (!c) H1
theorem bK (ha:PT X a tA):PW X (.BoolOp .And [a] pos) tA:=by
 intro wh pins s σ H Q I h
 refine isTrue_and (thn (ha pins s σ H Q I h) fun c s1 e => ?_)
 cases c with
 | true=>exact isTrue_and_nil e
 | false=>exact e
theorem cS (ha:PT X a tA):PW X (.BoolOp .Or [a] pos) tA:=by
 intro wh pins s σ H Q I h
 refine isTrue_or (thn (ha pins s σ H Q I h) fun c s1 e => ?_)
 cases c with
 | false=>exact isTrue_or_nil e
 | true=>exact e
theorem bZ (ha:PT X a tA) (hb:PW X (.BoolOp .And (b :: rest) pos) tB'):PW X (.BoolOp .And (a :: b :: rest) pos) (Cu tA tB'):=by
 intro wh pins s σ H Q I h
 refine isTrue_and (thn (ha pins s σ H _ I h) fun c s1 ⟨H1,I1,q1⟩ => ?_)
 cases c with
 | true=>exact hb wh pins s1 σ H1 Q I1 q1
 | false=>exact ⟨H1,I1,q1⟩
theorem dZ (ha:PT X a tA) (hb:PW X (.BoolOp .Or (b :: rest) pos) tB'):PW X (.BoolOp .Or (a :: b :: rest) pos) (tOr tA tB'):=by
 intro wh pins s σ H Q I h
 refine isTrue_or (thn (ha pins s σ H _ I h) fun c s1 ⟨H1,I1,q1⟩ => ?_)
 cases c with
 | true=>exact ⟨H1,I1,q1⟩
 | false=>exact hb wh pins s1 σ H1 Q I1 q1
theorem iU (ha:PT X a tA):PT X (.UnaryOp .Not a pos) (CK tA):=by
 intro pins s σ H Q I h
 exact isTrue_not (ha pins s σ H (fun c H1=>Q (!c) H1) I h)
def Ak (ta tb:TE):TE:=fun σ H Q=>ta σ H fun x H1=>∃ c,x = .bl c∧if c=true then tb σ H1 Q else Q (.bl false) H1
def D0 (ta tb:TE):TE:=fun σ H Q=>ta σ H fun x H1=>∃ c,x = .bl c∧if c=true then Q (.bl true) H1 else tb σ H1 Q
def Al (ta:TE):TE:=fun σ H Q=>ta σ H fun x H1=>∃ c,x = .bl c∧Q (.bl (!c)) H1
theorem jz {op} {t:TE} (h:PE X a t):PE X (.BoolOp op [a] pos) t:=fun pins s σ H Q I hw=>BoolOp_one (h pins s σ H Q I hw)
theorem jA (ha:PE X a ta) (hb:PE X (.BoolOp .And (b :: rest) pos) tb):PE X (.BoolOp .And (a :: b :: rest) pos) (Ak ta tb):=by
 intro pins s σ H Q I h
 refine BoolOp_and (thn (ha pins s σ H _ I h) fun v s1 ⟨x,H1,I1,r1,q1⟩ => ?_)
 obtain ⟨c,rfl,q1⟩:=q1
 cases r1
 refine wpAny_truthy_bool ?_
 cases c with
 | true=>exact hb pins s1 σ H1 Q I1 q1
 | false=>exact ⟨.bl false,H1,I1,rfl,q1⟩
theorem CL (ha:PE X a ta) (hb:PE X (.BoolOp .Or (b :: rest) pos) tb):PE X (.BoolOp .Or (a :: b :: rest) pos) (D0 ta tb):=by
 intro pins s σ H Q I h
 refine BoolOp_or (thn (ha pins s σ H _ I h) fun v s1 ⟨x,H1,I1,r1,q1⟩ => ?_)
 obtain ⟨c,rfl,q1⟩:=q1
 cases r1
 refine wpAny_truthy_bool ?_
 cases c with
 | false=>exact hb pins s1 σ H1 Q I1 q1
 | true=>exact ⟨.bl true,H1,I1,rfl,q1⟩
theorem Am (ha:PE X a ta):PE X (.UnaryOp .Not a pos) (Al ta):=by
 intro pins s σ H Q I h
 refine UnaryOp_ (thn (ha pins s σ H _ I h) fun v s1 ⟨x,H1,I1,r1,q1⟩ => ?_)
 obtain ⟨c,rfl,q1⟩:=q1
 cases r1
 exact not_of (wpAny_truthy_bool ⟨.bl (!c),H1,I1,rfl,q1⟩)
def tIf (t:TT) (ta tb:TE):TE:=fun σ H Q=>t σ H fun c H1=>if c=true then ta σ H1 Q else tb σ H1 Q
theorem jr {c:Expr} (hc:PT X c tA) (ha:PE X a ta) (hb:PE X b tb):PE X (.IfExp c a b pos) (tIf tA ta tb):=by
 intro pins s σ H Q I h
 refine wpAny_IfExp (thn (hc pins s σ H _ I h) fun d s1 ⟨H1,I1,q1⟩ => ?_)
 cases d with
 | true=>exact ha pins s1 σ H1 Q I1 q1
 | false=>exact hb pins s1 σ H1 Q I1 q1
end
end L2
namespace L2
open PySem PySem.Spec PyProof.Rows
def SqL (K:PySem.W.Frag) (H:Hp) (a:Addr) (xs:List V):Prop:=
 Rd H a (.lst xs) ∨
  ∃ (o:Obj) (its:Array Value) (n:Nat),K.lookup a=some o∧o.cls = .type "list" ∧ o.dict=none∧o.data = .seq its n∧its.size≤sizeLine∧Vals xs its.toList
def SqT (K:PySem.W.Frag) (H:Hp) (a:Addr) (xs:List V):Prop:=
 Rd H a (.tup xs) ∨
  ∃ (o:Obj) (its:Array Value) (n:Nat),K.lookup a=some o∧o.cls = .type "tuple" ∧ o.data = .seq its n∧its.size≤sizeLine∧Vals xs its.toList
def EK:Value→Option V
 | .none=>some .non
 | .bool b=>some (.bl b)
 | .int i _=>some (.int i)
 | .str x _=>some (.str x)
 | .bytes b _=>some (.byt b)
 | .float b _=>some (.flt b)
 | .ref a=>some (.ref a)
 | .type n=>some (.ty n)
 | _=>none
theorem RelV.abs {x:V} {u:Value} (r:RelV x u):EK u=some x:=by
 cases x with
 | non=>cases r;rfl
 | bl _=>cases r;rfl
 | int _=>obtain ⟨t,rfl⟩:=r;rfl
 | str _=>obtain ⟨t,rfl⟩:=r;rfl
 | byt _=>obtain ⟨t,rfl⟩:=r;rfl
 | flt _=>obtain ⟨t,rfl⟩:=r;rfl
 | ref _=>cases r;rfl
 | ty _=>cases r;rfl
theorem RelV.inj {x y:V} {u:Value} (r:RelV x u) (q:RelV y u):x=y:=Option.some.inj (r.abs.symm.trans q.abs)
theorem Vals.inj:∀ {xs ys:List V} {us:List Value},Vals xs us→Vals ys us→xs=ys
 | _,_,_,.nil,.nil=>rfl
 | _,_,_,.cons r t,.cons r' t'=>by rw [r.inj r',Vals.inj t t']
section
variable {X:Cx} {pins:List (Addr×Obj)} {σ:St} {H:Hp} {s:Shared} {a:Addr} {xs ys:List V}
theorem SqL.of {K:PySem.W.Frag} (h:H a=some (.lst xs)):SqL K H a xs := .inl (.inl h)
theorem SqT.of {K:PySem.W.Frag} (h:H a=some (.tup xs)):SqT K H a xs := .inl (.inl h)
theorem Inv.list (I:Inv X pins σ H s) (h:SqL X.K H a xs):∃ its:List Value,Vals xs its∧PlainL s.heap a its.toArray∧xs.length≤sizeLine:=by
 rcases h with h | ⟨o,its,n,hk,hc,hd,hs,hz,r⟩
 ·obtain ⟨z,its,n,r,e⟩:=h.ok I.hok
  exact ⟨its,r,⟨_,n,e,rfl,rfl,rfl⟩,z⟩
 ·refine ⟨its.toList,r,⟨o,n,I.kIn a o hk,hc,hd,by simpa using hs⟩,?_⟩
  have e:=r.length
  simp only [Array.length_toList] at e
  omega
theorem Inv.tuple (I:Inv X pins σ H s) (h:SqT X.K H a xs):∃ its:List Value,Vals xs its∧IsTup s.heap a its.toArray∧xs.length≤sizeLine:=by
 rcases h with h | ⟨o,its,n,hk,hc,hs,hz,r⟩
 ·obtain ⟨z,its,r,p⟩:=h.ok I.hok
  exact ⟨its,r,p,z⟩
 ·refine ⟨its.toList,r,⟨o,I.kIn a o hk,hc,n,by simpa using hs⟩,?_⟩
  have e:=r.length
  simp only [Array.length_toList] at e
  omega
theorem Inv.list_inj (I:Inv X pins σ H s) (h:SqL X.K H a xs) (h':SqL X.K H a ys):xs=ys:=by
 obtain ⟨its,r,⟨o,n,e,_,_,d⟩,_⟩:=I.list h
 obtain ⟨its',r',⟨o',n',e',_,_,d'⟩,_⟩:=I.list h'
 rw [e] at e';cases e'
 rw [d] at d'
 injection d' with d1 _
 have:its=its':=by simpa using congrArg Array.toList d1
 subst this
 exact r.inj r'
end
abbrev Cx.wish (X:Cx) (E:Value→Shared→Prop):Cx:={X with xe:=E}
abbrev Cx.nox (X:Cx):Cx:=X.wish fun _ _=>False
theorem Cx.Ok.wish {X:Cx} (ok:X.Ok) (E:Value→Shared→Prop):(X.wish E).Ok:=
 ⟨ok.mod,ok.kind,ok.glob,ok.blt,ok.above,ok.inj,ok.has,ok.cab,ok.hd,ok.frames,ok.stk,ok.exf,ok.bs,ok.bsz,ok.noex,ok.exfs,ok.funs,ok.frf⟩
theorem Cx.Ok.unwish {X:Cx} {E:Value→Shared→Prop} (ok:(X.wish E).Ok):X.Ok:=
 ⟨ok.mod,ok.kind,ok.glob,ok.blt,ok.above,ok.inj,ok.has,ok.cab,ok.hd,ok.frames,ok.stk,ok.exf,ok.bs,ok.bsz,ok.noex,ok.exfs,ok.funs,ok.frf⟩
section
variable {X:Cx} {pins:List (Addr×Obj)} {σ:St} {H:Hp} {s:Shared} {E:Value→Shared→Prop}
theorem Inv.wish (I:Inv X pins σ H s) (E:Value→Shared→Prop):Inv (X.wish E) pins σ H s:=⟨I.ok.wish E,I.os,I.bare,I.base,I.loc,I.cell,I.free,I.freeC,I.pin,I.hok,I.len⟩
theorem Inv.unwish (I:Inv (X.wish E) pins σ H s):Inv X pins σ H s:=⟨I.ok.unwish,I.os,I.bare,I.base,I.loc,I.cell,I.free,I.freeC,I.pin,I.hok,I.len⟩
theorem SP.unwish {D:Ends} {f:Flow} {s':Shared} (h:SP (X.wish E) pins D f s'):SP X pins D f s':=by
 cases f with
 | next=>obtain ⟨σ',H',I,q⟩:=h;exact ⟨σ',H',I.unwish,q⟩
 | brk=>obtain ⟨σ',H',I,q⟩:=h;exact ⟨σ',H',I.unwish,q⟩
 | cont=>obtain ⟨σ',H',I,q⟩:=h;exact ⟨σ',H',I.unwish,q⟩
 | ret u=>obtain ⟨v,σ',H',I,r,q⟩:=h;exact ⟨v,σ',H',I.unwish,r,q⟩
theorem PSs.nox {st:List Stmt} {t:TS} (h:PSs X.nox st t):PSs X st t:=fun pins s σ H D I hw=>
 wpAny_mono (h pins s σ H D (I.wish _) hw) (fun _ _ q=>q.unwish) fun _ _ z=>False.elim z
end
section
variable {X:Cx} {st:Stmt} {rest:List Stmt} {t u:TS} {e:Expr} {te:TE} {pos:Pos}
def xW:TS:=fun D σ H=>D.nx σ H
def CM (t u:TS):TS:=fun D σ H=>t {D with nx:=u D} σ H
theorem az:PSs X [] xW:=fun _ _ σ H _ I h=>wpAny_execs_nil ⟨σ,H,I,h⟩
theorem ag (h1:PS X st t) (h2:PSs X rest u):PSs X (st :: rest) (CM t u):=by
 intro pins s σ H D I h
 refine wpAny_execs_cons (thn (h1 pins s σ H {D with nx:=u D} I h) fun f s1 q => ?_)
 cases f with
 | next=>
  obtain ⟨σ',H',I',q⟩:=q
  exact h2 pins s1 σ' H' D I' q
 | ret v=>exact q
 | brk=>exact q
 | cont=>exact q
theorem ad (h1:PS X st t):PSs X [st] t:=by
 intro pins s σ H D I h
 refine wpAny_execs_cons (thn (h1 pins s σ H D I h) fun f s1 q => ?_)
 cases f with
 | next=>exact wpAny_execs_nil q
 | ret v=>exact q
 | brk=>exact q
 | cont=>exact q
def D1:TS:=fun D σ H=>D.bk σ H
def EL:TS:=fun D σ H=>D.ct σ H
theorem Inv.quiet {pins:List (Addr×Obj)} {σ:St} {H:Hp} {s:Shared} (I:Inv X pins σ H s):interactive X.env=false:=by simp [interactive,I.ok.kind]
def tE (te:TE):TS:=fun D σ H=>te σ H fun _ H1=>D.nx σ H1
theorem aH (he:PE X e te) (hs:swapsWith e none pos.line X.env=pure false:=by rfl):PS X (.Expr e pos) (tE te):=by
 intro pins s σ H D I h
 exact wpAny_Expr_any (thn (he pins s σ H _ I h) fun v s1 ⟨x,H1,I1,r1,q1⟩=>⟨σ,H1,I1,q1⟩) I.quiet hs
def D5 (te:TE):TS:=fun D σ H=>te σ H D.rt
theorem aC (he:PE X e te):PS X (.Return (some e) pos) (D5 te):=by
 intro pins s σ H D I h
 exact wpAny_Return_some (thn (he pins s σ H _ I h) fun v s1 ⟨x,H1,I1,r1,q1⟩=>⟨x,σ,H1,I1,r1,q1⟩)
def xX:TS:=fun D _ H=>D.rt .non H
theorem tF:PS X (.Return none pos) xX:=fun _ _ σ H _ I h=>wpAny_Return_none ⟨.non,σ,H,I,rfl,h⟩
def An (c:TT) (t u:TS):TS:=fun D σ H=>c σ H fun b H1=>if b=true then t D σ H1 else u D σ H1
theorem aQ {c:Expr} {a b:List Stmt} {tc:TT} (hc:PT X c tc) (ha:PSs X a t) (hb:PSs X b u):PS X (.If c a b pos) (An tc t u):=by
 intro pins s σ H D I h
 refine wpAny_If (thn (hc pins s σ H _ I h) fun d s1 ⟨H1,I1,q1⟩ => ?_)
 cases d with
 | true=>exact ha pins s1 σ H1 D I1 q1
 | false=>exact hb pins s1 σ H1 D I1 q1
def Ao:TS:=fun _ _ _=>False
theorem vK:PS X st Ao:=fun _ _ _ _ _ _ h=>h.elim
end
abbrev TG:=V→St→Hp→(St→Hp→Prop)→Prop
abbrev TGs:=List V→St→Hp→(St→Hp→Prop)→Prop
def PG (X:Cx) (target:Expr) (t:TG):Prop:=
 ∀ (pins:List (Addr×Obj)) (s:Shared) (σ:St) (H:Hp) (v:V) (u:Value) (Q:St→Hp→Prop),Inv X pins σ H s→RelV v u→t v σ H Q →
  wpAny (model X.prog X.w) X.A (assign target X.env u) (fun _ s'=>∃ σ' H',Inv X pins σ' H' s'∧Q σ' H') X.xe s
def PGs (X:Cx) (ts:List Expr) (t:TGs):Prop:=
 ∀ (pins:List (Addr×Obj)) (s:Shared) (σ:St) (H:Hp) (vs:List V) (us:List Value) (Q:St→Hp→Prop),Inv X pins σ H s→Vals vs us→t vs σ H Q →
  wpAny (model X.prog X.w) X.A (assignInOrder ((assignEach ts X.env).map (·.2)) us) (fun _ s'=>∃ σ' H',Inv X pins σ' H' s'∧Q σ' H') X.xe s
abbrev Ap:=V→V→V→Hp→(Hp→Prop)→Prop
def D9 (X:Cx) (t:Ap):Prop:=
 ∀ (pins:List (Addr×Obj)) (s:Shared) (σ:St) (H:Hp) (o i v:V) (ov iv u:Value) (Q:Hp→Prop),Inv X pins σ H s→RelV o ov→RelV i iv→RelV v u→t o i v H Q →
  wpAny (model X.prog X.w) X.A (setItem ov iv u) (fun _ s'=>∃ H',Inv X pins σ H' s'∧Q H') X.xe s
abbrev TIp:=V→V→Hp→VK→Prop
def PIp (X:Cx) (op:Operator) (t:TIp):Prop:=
 ∀ (pins:List (Addr×Obj)) (s:Shared) (σ:St) (H:Hp) (x y:V) (v u:Value) (Q:VK),Inv X pins σ H s→RelV x v→RelV y u→t x y H Q →
  wpAny (model X.prog X.w) X.A (inplaceOp op v u) (EP X pins σ Q) X.xe s
section
variable {X:Cx} {pos:Pos}
def d4 (i:Nat):TG:=fun v σ H Q=>Q (σ.set i (some v)) H
theorem bc {i:Nat} {x:Str} (hN:X.N.Nodup) (hi:X.N[i]? = some x) (hx:Loc X.env.scope x) (hf:X.fn x=true∨X.env.scope.names.lookup x=some .local:=by first | exact .inl rfl | exact .inr rfl | assumption):PG X (.Name x pos) (d4 i):=by
 intro pins s σ H v u Q I r h
 exact wpAny_assign_Name (gD I hN hi hx r (fun s' I'=>⟨_,H,I',h⟩) hf)
def Ea:TGs:=fun vs σ H Q=>vs=[]∧Q σ H
def Aq (t:TG) (u:TGs):TGs:=fun vs σ H Q=>∃ v r,vs=v :: r∧t v σ H fun σ' H'=>u r σ' H' Q
theorem xY:PGs X [] Ea:=by
 intro pins s σ H vs us Q I r h
 obtain ⟨e,h⟩:=h
 subst e
 cases r
 exact assignInOrder_nil ⟨σ,H,I,h⟩
theorem qT {e:Expr} {es:List Expr} {t:TG} {u:TGs} (h1:PG X e t) (h2:PGs X es u)
  (hs:(assignEach (e :: es) X.env).map (·.2)=assign e X.env :: (assignEach es X.env).map (·.2):=by rfl):PGs X (e :: es) (Aq t u):=by
 intro pins s σ H vs us Q I r h
 obtain ⟨v,vr,e1,h⟩:=h
 subst e1
 cases r with
 | cons r rr=>
  rw [hs]
  refine assignInOrder_cons (thn (h1 pins s σ H _ _ _ I r h) fun _ s1 ⟨σ1,H1,I1,q1⟩ => ?_)
  exact h2 pins s1 σ1 H1 _ _ Q I1 rr q1
def Ar (K:PySem.W.Frag) (n:Nat) (t:TGs):TG:=fun v σ H Q=>∃ a xs,v = .ref a∧SqT K H a xs∧xs.length=n∧t xs σ H Q
theorem As {es:List Expr} {k:Nat} {t:TGs} {n:Nat} (hc:X.calm=true) (h:PGs X es t)
  (hn:(assignEach es X.env).length=n:=by rfl) (hst:(assignEach es X.env).findIdx? (·.1)=none:=by rfl):PG X (.Tuple es k pos) (Ar X.K n t):=by
 intro pins s σ H v u Q I r hw
 obtain ⟨a,xs,e1,hq,hl,hw⟩:=hw
 subst e1
 cases r
 obtain ⟨its,rv,ht,hz⟩:=I.tuple hq
 refine assign_Tuple_tuple (I.ok.hd hc) ht (by simp [hn,← hl,rv.length]) hst fun h' hx => ?_
 have I1:Inv X pins σ H {s with heap:=h'}:=I.kept (t':=s.toks) fun b o e=>hx b o (Nat.ne_of_lt (Heap.lt_size e)) e
 exact h pins _ σ H xs _ Q I1 (by simpa using rv) hw
def Eb (to ti:TE) (t:Ap):TG:=fun v σ H Q=>to σ H fun o H1=>ti σ H1 fun i H2=>t o i v H2 fun H3=>Q σ H3
theorem xu {o i:Expr} {to ti:TE} {t:Ap} (ho:PE X o to) (hi:PE X i ti) (hs:D9 X t)
  (ha:∀ v,assign (.Subscript o i pos) X.env v=(do
   let ov ← holding [v] (eval o X.env)
   let iv ← holding [v,ov] (eval i X.env)
   standAt pos
   holding [v,ov,iv] (setItem ov iv v)
   release [v,ov,iv] []):=by intro _;rfl):PG X (.Subscript o i pos) (Eb to ti t):=by
 intro pins s σ H v u Q I r h
 rw [ha]
 refine wpAny_bind (wpAny_holding (thn (ho pins s σ H _ I h) fun ov s1 ⟨x,H1,I1,r1,q1⟩ => ?_))
 refine wpAny_bind (wpAny_holding (thn (hi pins s1 σ H1 _ I1 q1) fun iv s2 ⟨y,H2,I2,r2,q2⟩ => ?_))
 refine wpAny_bind (wpAny_standAt (wpAny_bind (wpAny_holding (thn (hs pins s2 σ H2 x y v ov iv u _ I2 r1 r2 r q2) fun _ s3 ⟨H3,I3,q3⟩ => ?_))))
 exact wpAny_release ⟨σ,H3,I3,q3⟩
def Au (te:TE) (g:TG):TS:=fun D σ H=>te σ H fun x H1=>g x σ H1 D.nx
theorem tG {tg e:Expr} {te:TE} {g:TG} (he:PE X e te) (hg:PG X tg g) (hs:swapsWithSole [tg] e pos.line X.env=pure false:=by rfl) (hw:swappedStores [tg] e X.env=pure none:=by rfl)
  (h1:(assignEach [tg] X.env).map (·.2)=[assign tg X.env]:=by rfl):PS X (.Assign [tg] e pos) (Au te g):=by
 intro pins s σ H D I h
 refine wpAny_Assign_stores (thn (he pins s σ H _ I h) fun v s1 ⟨x,H1,I1,r1,q1⟩ => ?_) hs hw
 rw [h1]
 exact thn (hg pins s1 σ H1 x v _ I1 r1 q1) fun _ s2 q=>q
theorem aD {i:Nat} {x:Str} {e:Expr} {te:TE} {pos':Pos} (hN:X.N.Nodup) (hi:X.N[i]? = some x) (hx:Loc X.env.scope x) (he:PE X e te) (hs:swapsWith e (some (.Name x pos')) pos.line X.env=pure false:=by rfl) (hf:X.fn x=true∨X.env.scope.names.lookup x=some .local:=by first | exact .inl rfl | exact .inr rfl | assumption) :
  PS X (.Assign [.Name x pos'] e pos) (Au te (d4 i)):=by
 intro pins s σ H D I h
 refine wpAny_Assign_Name (thn (he pins s σ H _ I h) fun v s1 ⟨y,H1,I1,r1,q1⟩ => ?_) hs
 exact gD I1 hN hi hx r1 (fun s2 I2=>⟨_,H1,I2,q1⟩) hf
def Fm (i j:Nat) (ta:TA):TS:=fun D σ H=>ta σ H fun vs H1=>∃ v w,vs=[v,w]∧D.nx ((σ.set i (some v)).set j (some w)) H1
def Ec (i:Nat) (te:TE) (ti:TIp):TS:=fun D σ H=>∃ x,σ[i]? = some (some x)∧te σ H fun y H1=>ti x y H1 fun z H2=>D.nx (σ.set i (some z)) H2
theorem Av {i:Nat} {x:Str} {e:Expr} {te:TE} {op:Operator} {ti:TIp} {pos':Pos} (hN:X.N.Nodup) (hi:X.N[i]? = some x) (hx:Loc X.env.scope x) (he:PE X e te) (ho:PIp X op ti) (hf:X.fn x=true∨X.env.scope.names.lookup x=some .local:=by first | exact .inl rfl | exact .inr rfl | assumption) :
  PS X (.AugAssign (.Name x pos') op e pos) (Ec i te ti):=by
 intro pins s σ H D I h
 obtain ⟨v,e1,h⟩:=h
 obtain ⟨m,hn,hl⟩:=I.loc
 have vis:Vis X.env.scope x:=by rcases hx with k | k;exact .inl k;exact .inr (.inl k)
 obtain ⟨u,r,l⟩:=hl i x v hi e1 vis
 refine wpAny_AugAssign_Name ?_
 have go:wpAny (model X.prog X.w) X.A (eval e X.env) (fun w s₂=>wpAny (model X.prog X.w) X.A (inplaceOp op u w) (fun r s₃=>wpAny (model X.prog X.w) X.A (storeName X.env x r) (fun _=>SP X pins D .next) X.xe s₃) X.xe s₂) X.xe s:=by
  refine thn (he pins s σ H _ I h) fun w s1 ⟨y,H1,I1,r1,q1⟩ => ?_
  refine thn (ho pins s1 σ H1 v y u w _ I1 r r1 q1) fun z s2 ⟨zv,H2,I2,r2,q2⟩ => ?_
  exact gD I2 hN hi hx r2 (fun s3 I3=>⟨_,H2,I3,q2⟩) hf
 rcases l with ⟨hk,hm⟩ | ⟨hk,c,hc,hcell⟩
 ·exact wpAny_loadName_local I.ok.kind hk hn hm go
 ·rcases hk with hk | hk
  ·exact wpAny_loadName_cell I.ok.kind hk hc hcell go
  ·rcases hx with k | k
   ·have:X.env.scope.names.lookup x=some .free:=hk
    rw [k] at this;cases this
   ·have:X.env.scope.names.lookup x=some .free:=hk
    rw [k] at this;cases this
def EM (to ti te:TE) (tget:V→V→Hp→VK→Prop) (tip:TIp) (tset:Ap):TS:=fun D σ H=>to σ H fun o H1=>ti σ H1 fun i H2=>tget o i H2 fun x H3=>te σ H3 fun y H4=>tip x y H4 fun z H5=>tset o i z H5 fun H6=>D.nx σ H6
def Fn (X:Cx) (t:V→V→Hp→VK→Prop):Prop:=
 ∀ (pins:List (Addr×Obj)) (s:Shared) (σ:St) (H:Hp) (o i:V) (ov iv:Value) (Q:VK),Inv X pins σ H s→RelV o ov→RelV i iv→t o i H Q →
  wpAny (model X.prog X.w) X.A (getItem ov iv) (EP X pins σ Q) X.xe s
def ipI (f:Int→Int→Int):TIp:=fun x y H Q=>∃ i j,x = .int i∧y = .int j∧Q (.int (f i j)) H
theorem Aw:PIp X .Add (ipI fun i j=>i+j):=by
 intro pins s σ H x y v u Q I r1 r2 h
 obtain ⟨i,j,e1,e2,q⟩:=h
 subst e1;subst e2
 obtain ⟨t,rfl⟩:=r1
 obtain ⟨t',rfl⟩:=r2
 exact iadd_int ⟨.int _,H,I.tok _,⟨_,rfl⟩,q⟩
end
section
variable {X:Cx} {pos:Pos}
def xv (c:TT) (tb:TS):TS:=fun D σ H=>∃ W:Nat→St→Hp→Prop,(∃ m,W m σ H)∧∀ m σ H,W m σ H →
 c σ H fun b H1=>if b=true then ∃ N:St→Hp→Prop,(∀ σ' H',N σ' H'→∃ m',m' < m∧W m' σ' H')∧tb {D with nx:=N,ct:=N,bk:=D.nx} σ H1 else D.nx σ H1
theorem qU {c:Expr} {body:List Stmt} {tc:TT} {tb:TS} (hp:PassesOwn (model X.prog X.w) X.A X.env X.xe) (hc:PT X c tc) (hb:PSs X body tb):PS X (.While c body [] pos) (xv tc tb):=by
 intro pins s σ H D I h
 obtain ⟨W,⟨m0,w0⟩,sE⟩:=h
 refine wpAny_While (codeAny_whileLoop (fun n s'=>∃ σ' H',Inv X pins σ' H' s'∧W n σ' H') ?_ m0 ⟨σ,H,I,w0⟩)
 rintro n s1 ⟨σ1,H1,I1,w1⟩
 refine wpAny_passesOwn hp (thn (hc pins s1 σ1 H1 _ I1 (sE n σ1 H1 w1)) fun b s2 ⟨H2,I2,q2⟩ => ?_)
 cases b with
 | true=>
  obtain ⟨N,hN,q2⟩:=q2
  rw [if_pos rfl]
  refine wpAny_passesOwn hp (thn (hb pins s2 σ1 H2 _ I2 q2) fun f s3 q3 => ?_)
  cases f with
  | next=>
   obtain ⟨σ3,H3,I3,n3⟩:=q3
   obtain ⟨m',hm,w3⟩:=hN σ3 H3 n3
   exact ⟨m',hm,σ3,H3,I3,w3⟩
  | cont=>
   obtain ⟨σ3,H3,I3,n3⟩:=q3
   obtain ⟨m',hm,w3⟩:=hN σ3 H3 n3
   exact ⟨m',hm,σ3,H3,I3,w3⟩
  | brk=>exact q3
  | ret v=>exact q3
 | false=>
  rw [if_neg Bool.false_ne_true]
  exact wpAny_execs_nil ⟨σ1,H2,I2,q2⟩
end
structure It where
 go:Nat→Hp→Prop
 yld:Nat→Hp→V→Hp→Prop
 stop:Nat→Hp→Prop
def tm (X:Cx) (pins:List (Addr×Obj)) (H:Hp) (b:Addr):Prop:=
 H b=none∧b≠X.env.locals∧b∉X.fs∧(b∈X.ex∨X.s₀.heap.objs.size≤b)∧(∀ x c,X.env.cells.lookup x=some c→c≠b)∧∀ p∈X.pn++pins,p.1≠b
theorem Inv.fpOk {X:Cx} {pins:List (Addr×Obj)} {σ:St} {H H':Hp} {s:Shared} {b:Addr} (I:Inv X pins σ H s) (hb:s.heap.objs.size≤b) (hn:H' b=none):tm X pins H' b:=by
 refine ⟨hn,Nat.ne_of_gt (Nat.lt_of_lt_of_le I.lt hb),I.nofs hb,.inr (Nat.le_trans I.sz hb),fun x c e z => ?_,fun p hp z => ?_⟩
 ·obtain ⟨v,q⟩:=I.cell x c e
  exact absurd (Nat.lt_of_lt_of_le q.lt (by rw [z];exact hb)) (Nat.lt_irrefl _)
 ·exact absurd (Nat.lt_of_lt_of_le (Heap.lt_size (I.pin p hp).1) (by rw [z];exact hb)) (Nat.lt_irrefl _)
structure Turn (P:Program) (w:World) (K:PySem.W.Frag) (tg:Expr) (J:It) (fp:List Addr) (it:Addr) (tn:Nat→Heap→Prop):Prop where
 mem:it∈fp
 obj:∀ i h,tn i h→∀ b∈fp,∃ o,h.get? b=some o∧∀ v,o.data ≠ .cell v
 keep:∀ i h h',tn i h→(∀ b∈fp,∀ o,h.get? b=some o→h'.get? b=some o)→tn i h'
 item:∀ (X:Cx),X.prog=P→X.w=w→X.K=K→X.calm=true→∀ (i:Nat) (pins:List (Addr×Obj)) (s:Shared) (σ:St) (H:Hp) (E:Value→Shared→Prop),Inv X pins σ H s→(∀ b∈fp,tm X pins H b)→tn i s.heap→J.go i H →
  wpAny (model P w) X.A (pyNext (.ref it)) (fun r s1=>∃ u,r=some u ∧
   wpAny (model P w) X.A (letOwnedTupleGo tg (.ref it) u) (fun _ s2=>∃ x H',Inv X pins σ H' s2∧RelV x u∧J.yld i H x H'∧tn (i+1) s2.heap∧∀ b∈fp,H' b=none) E s1) E s
 done:∀ (X:Cx),X.prog=P→X.w=w→X.K=K→X.calm=true→∀ (i:Nat) (pins:List (Addr×Obj)) (s:Shared) (σ:St) (H:Hp) (E:Value→Shared→Prop),Inv X pins σ H s→(∀ b∈fp,tm X pins H b)→tn i s.heap→J.stop i H →
  wpAny (model P w) X.A (pyNext (.ref it)) (fun r s1=>r=none∧Inv X pins σ H s1) E s
 self:∀ (A:Around) (i:Nat) (s:Shared) (Q:Value→Shared→Prop) (E:Value→Shared→Prop),tn i s.heap→Q (.ref it) s→wpAny (model P w) A (pyIter (.ref it)) Q E s
abbrev TI:=St→Hp→(It→Hp→Prop)→Prop
def PIE (X:Cx) (pins:List (Addr×Obj)) (σ:St) (tg:Expr) (R:It→Hp→Prop) (itv:Value) (s2:Shared):Prop:=
 ∃ (it:Addr) (fp:List Addr) (tn:Nat→Heap→Prop) (J:It) (H':Hp),itv = .ref it∧Inv X pins σ H' s2∧Turn X.prog X.w X.K tg J fp it tn∧tn 0 s2.heap∧(∀ b∈fp,tm X pins H' b)∧R J H'
def PI (X:Cx) (tg iter:Expr) (wi:TI):Prop:=
 ∀ (pins:List (Addr×Obj)) (s:Shared) (σ:St) (H:Hp) (R:It→Hp→Prop),Inv X pins σ H s→wi σ H R →
  wpAny (model X.prog X.w) X.A (eval iter X.env) (fun v s1=>wpAny (model X.prog X.w) X.A (pyIter v) (PIE X pins σ tg R) X.xe s1) X.xe s
theorem xZ {M:Model} {A:Around} {E:Value→Shared→Prop} {s:Shared} {tg:Expr} {it:Addr} {u:Value} {o:Obj} {n:String} {vs:Array Value} {Q:Unit→Shared→Prop} (ho:s.heap.get? it=some o) (hc:o.cls = .type n) (hd:o.data = .fields vs)
  (hn:["enumerate", "zip", "dict_itemiterator", "dict_reverseitemiterator", "odict_iterator", "itertools.zip_longest", "itertools.pairwise"].contains n=false) (hQ:Q () s):wpAny M A (letOwnedTupleGo tg (.ref it) u) Q E s:=by
 unfold letOwnedTupleGo
 cases tg <;> first
  | exact wpAny_pure hQ
  | (cases u <;> first
    | exact wpAny_pure hQ
    | (
      refine wpAny_bind (wpAny_load ho ?_)
      rw [hc,hd]
      show wpAny M A (if (["enumerate", "zip", "dict_itemiterator", "dict_reverseitemiterator", "odict_iterator", "itertools.zip_longest", "itertools.pairwise"].contains n && vs[0]? == some (rawInt _))=true then _ else _) Q E s
      rw [if_neg (by intro h;rw [hn,Bool.false_and] at h;cases h)]
      exact wpAny_pure hQ))
def Itl (K:PySem.W.Frag) (a:Addr):It:=
 ⟨fun i H=>∃ xs x,SqL K H a xs∧xs[i]? = some x,fun i H x H'=>H'=H∧∀ xs,SqL K H a xs→xs[i]? = some x,fun i H=>∃ xs,SqL K H a xs∧xs.length≤i⟩
def Itt (K:PySem.W.Frag) (a:Addr):It:=
 ⟨fun i H=>∃ xs x,SqT K H a xs∧xs[i]? = some x,fun i H x H'=>H'=H∧∀ xs,SqT K H a xs→xs[i]? = some x,fun i H=>∃ xs,SqT K H a xs∧xs.length≤i⟩
def Itr (lo:Int) (n:Nat):It:=⟨fun i _=>i < n,fun i H x H'=>H'=H∧x = .int (lo+i),fun i _=>n≤i⟩
theorem tH {P:Program} {w:World} {K:PySem.W.Frag} {tg:Expr} (a it:Addr):Turn P w K tg (Itl K a) [it] it (fun i h=>h.IsListIter it a i) where
 mem:=by simp
 obj:=fun i h st b hb=>by
  have e:b=it:=by simpa using hb
  subst e
  obtain ⟨o,e,c,d⟩:=st
  exact ⟨o,e,fun v z=>by rw [d] at z;cases z⟩
 keep:=fun i h h' st k=>st.at fun o e=>k it (by simp) o e
 item:=by
  intro X hP hw hK hc i pins s σ H E I hf st hg
  subst hP hw hK
  obtain ⟨xs,x,hq,hx⟩:=hg
  obtain ⟨its,rv,p,hz⟩:=I.list hq
  obtain ⟨u,hu,ru⟩:=rv.get hx
  obtain ⟨f0,f1,f2,f3,f4,f5⟩:=hf it (by simp)
  refine wpAny_pyNext_list_item st p.isList (x:=u) (by simpa using hu) fun h' st' sb => ?_
  have I1:Inv X pins σ H {s with heap:=h'}:=I.turned (t':=s.toks) (fun b o hb e=>(sb.2 b hb).trans e) f0 f1 f3 f4 f5
  obtain ⟨o,e,c,d⟩:=id st'
  exact ⟨u,rfl,xZ (s:={s with heap:=h'}) e c d (by decide) ⟨x,H,I1,ru,⟨rfl,fun ys hy=>by rw [I.list_inj hy hq];exact hx⟩,st',fun b hb=>(hf b hb).1⟩⟩
 done:=by
  intro X hP hw hK hc i pins s σ H E I hf st hg
  subst hP hw hK
  obtain ⟨xs,hq,hx⟩:=hg
  obtain ⟨its,rv,p,hz⟩:=I.list hq
  obtain ⟨f0,f1,f2,f3,f4,f5⟩:=hf it (by simp)
  have hl:=rv.length
  exact wpAny_pyNext_list_end (I.ok.hd hc) st p.isList (by simp;omega) fun h' eb=>⟨rfl,I.turned (t':=s.toks) (fun b o hb e=>eb b o hb e) f0 f1 f3 f4 f5⟩
 self:=fun _ _ _ _ _ st h=>wpAny_pyIter_listiter st h
theorem rY {P:Program} {w:World} {K:PySem.W.Frag} {tg:Expr} (it:Addr) (lo:Int) (n:Nat):Turn P w K tg (Itr lo n) [it] it (fun i h=>IsRangeIter h it (lo+(i:Nat) * 1) ((n:Int) - (i:Nat)) 1) where
 mem:=by simp
 obj:=fun i h st b hb=>by
  have e:b=it:=by simpa using hb
  subst e
  exact ⟨_,st,fun v z=>by
   have z':Data.fields _=Data.cell v:=z
   cases z'⟩
 keep:=fun i h h' st k=>k it (by simp) _ st
 item:=by
  intro X hP hw hK hc i pins s σ H E I hf st hg
  subst hP hw hK
  obtain ⟨f0,f1,f2,f3,f4,f5⟩:=hf it (by simp)
  have W:=Walks.range (prog:=X.prog) (w:=X.w) (I.ok.hd hc) it lo 1 n
  refine W.item i s _ _ hg st fun v h' tk hv st' kk => ?_
  obtain ⟨t,rfl⟩:=hv
  have I1:Inv X pins σ H {s with heap:=h',toks:=tk}:=I.turned (fun b o hb e=>kk b o (by simpa using hb) e) f0 f1 f3 f4 f5
  refine ⟨_,rfl,xZ (s:={s with heap:=h',toks:=tk}) (n := "range_iterator") st' rfl rfl (by decide) ⟨.int (lo+i),H,I1,⟨t,?_⟩,⟨rfl,rfl⟩,st',fun b hb=>(hf b hb).1⟩⟩
  rw [Int.mul_one]
 done:=by
  intro X hP hw hK hc i pins s σ H E I hf st hg
  subst hP hw hK
  obtain ⟨f0,f1,f2,f3,f4,f5⟩:=hf it (by simp)
  exact wpAny_pyNext_range_end (I.ok.hd hc) st (by have:n≤i:=hg;omega) fun h' eb=>⟨rfl,I.turned (t':=s.toks) (fun b o hb e=>eb b o hb e) f0 f1 f3 f4 f5⟩
 self:=fun _ _ _ _ _ st h=>wpAny_pyIter_rangeiter st h
end L2
namespace L2
open PySem PySem.Spec PyProof.Rows
section
variable {X:Cx} {tg:Expr}
def vL (K:PySem.W.Frag) (tl:TE):TI:=fun σ H R=>tl σ H fun x H1=>∃ a,x = .ref a∧(∃ xs,SqL K H1 a xs)∧R (Itl K a) H1
def Fo (K:PySem.W.Frag) (tl:TE):TI:=fun σ H R=>tl σ H fun x H1=>∃ a,x = .ref a∧(∃ xs,SqT K H1 a xs)∧R (Itt K a) H1
theorem x6 {l:Expr} {tl:TE} (hl:PE X l tl):PI X tg l (vL X.K tl):=by
 intro pins s σ H R I h
 refine thn (hl pins s σ H _ I h) fun v s1 ⟨x,H1,I1,r1,q1⟩ => ?_
 obtain ⟨a,e,⟨xs,hq⟩,q⟩:=q1
 subst e
 cases r1
 obtain ⟨its,rv,p,hz⟩:=I1.list hq
 refine wpAny_pyIter_list p.isList ?_
 refine ⟨s1.heap.objs.size,[s1.heap.objs.size],_,_,H1,rfl,I1.kept (t':=s1.toks) fun b o e=>Heap.get?_push_of_some _ e,tH a _,⟨_,Heap.get?_push_size _ rfl,rfl,rfl⟩,fun b hb => ?_,q⟩
 have e:b=s1.heap.objs.size:=by simpa using hb
 subst e
 exact I1.fpOk (Nat.le_refl _) (I1.hok.fresh (Nat.le_refl _))
theorem qV {pins:List (Addr×Obj)} {σ:St} {H:Hp} {s:Shared} {R:It→Hp→Prop} {E:Value→Shared→Prop} {lo hi:Int} {t u v:Tok} {tk:Nat} (I:Inv X pins σ H s) (h1 : -(2 ^ 62)≤lo) (h2:lo < 2 ^ 62) (h3 : -(2 ^ 62)≤hi) (h4:hi < 2 ^ 62)
  (q:R (Itr lo (hi - lo).toNat) H):wpAny (model X.prog X.w) X.A (pyIter (.ref s.heap.objs.size)) (PIE X pins σ tg R) E {s with heap:=s.heap.push {cls := .type "range",data := .fields #[.int lo t,.int hi u,.int 1 v]},toks:=tk}:=by
 refine wpAny_pyIter_range (IsRange.new ..) (small_one h1 h2 h3 h4) ?_
 have I1:Inv X pins σ H {s with heap:=s.heap.push {cls := .type "range",data := .fields #[.int lo t,.int hi u,.int 1 v]},toks:=tk}:=I.kept fun b o e=>Heap.get?_push_of_some _ e
 refine ⟨(s.heap.push {cls := .type "range",data := .fields #[.int lo t,.int hi u,.int 1 v]}).objs.size,[(s.heap.push {cls := .type "range",data := .fields #[.int lo t,.int hi u,.int 1 v]}).objs.size],_,_,H,rfl,
  I1.kept (t':=tk) fun b o e=>Heap.get?_push_of_some _ e,rY _ lo (hi - lo).toNat,?_,fun b hb => ?_,q⟩
 ·have e1:lo+((0:Nat):Int) * 1=lo:=by simp
  have e2:(((hi - lo).toNat:Nat):Int) - ((0:Nat):Int)=Builtin.Range.rangeSize lo hi 1:=by rw [rangeSize_one];split <;> omega
  show IsRangeIter _ _ (lo+((0:Nat):Int) * 1) ((((hi - lo).toNat:Nat):Int) - ((0:Nat):Int)) 1
  rw [e1,e2]
  exact Heap.get?_push_size _ rfl
 ·have e:b=(s.heap.push {cls := .type "range",data := .fields #[.int lo t,.int hi u,.int 1 v]}).objs.size:=by simpa using hb
  subst e
  exact I1.fpOk (Nat.le_refl _) (I1.hok.fresh (Nat.le_refl _))
def x8 (ta:TA):TI:=fun σ H R=>ta σ H fun vs H1=>∃ j:Int,vs=[.int j] ∧ -(2 ^ 62)≤j∧j < 2 ^ 62∧R (Itr 0 j.toNat) H1
def Ax (ta:TA):TI:=fun σ H R=>ta σ H fun vs H1=>∃ i j:Int,vs=[.int i,.int j]∧(-(2 ^ 62)≤i∧i < 2 ^ 62 ∧ -(2 ^ 62)≤j∧j < 2 ^ 62)∧R (Itr i (j - i).toNat) H1
theorem bH {a:Expr} {ta:TA} {p pos:Pos} (hg:Gl X "range") (hm:X.mg "range" = none) (ha:PA X [a] ta) (hs:starEach [a] X.env=[(false,eval a X.env)]:=by rfl):PI X tg (.Call (.Name "range" p) [a] [] pos) (x8 ta):=by
 intro pins s σ H R I h
 refine Call_ (kP I hg hm boot_range (PyProof.Rows.callWith_type1 (thn (ha pos pins s σ H _ I h) fun us s1 ⟨vs,H1,I1,r1,q1⟩ => ?_) hs rfl))
 obtain ⟨j,e,q1,q2,q⟩:=q1
 subst e
 cases r1 with
 | cons r rr=>
  cases rr
  obtain ⟨t,rfl⟩:=r
  exact call_range_1 (qV I1 (by omega) (by omega) q1 q2 (by simpa using q))
theorem tI {a b:Expr} {ta:TA} {p pos:Pos} (hg:Gl X "range") (hm:X.mg "range" = none) (ha:PA X [a,b] ta) (hs:starEach [a,b] X.env=[(false,eval a X.env),(false,eval b X.env)]:=by rfl) (hs2:starEach [b] X.env=[(false,eval b X.env)]:=by rfl) :
  PI X tg (.Call (.Name "range" p) [a,b] [] pos) (Ax ta):=by
 intro pins s σ H R I h
 refine Call_ (kP I hg hm boot_range (PyProof.Rows.callWith_type1 (thn (ha pos pins s σ H _ I h) fun us s1 ⟨vs,H1,I1,r1,q1⟩ => ?_) (by rw [hs,hs2]) (by rw [hs2];rfl)))
 obtain ⟨i,j,e,⟨q1,q2,q3,q4⟩,q⟩:=q1
 subst e
 cases r1 with
 | cons r rr=>
  cases rr with
  | cons r' rr=>
   cases rr
   obtain ⟨t,rfl⟩:=r
   obtain ⟨t',rfl⟩:=r'
   exact call_range_2 (qV I1 q1 q2 q3 q4 q)
def Cv (wi:TI) (g:TG) (tb:TS):TS:=fun D σ H=>wi σ H fun J H1=>∃ W:Nat→Nat→St→Hp→Prop,(∃ m,W 0 m σ H1)∧∀ i m σ H,W i m σ H →
 (J.stop i H∧D.nx σ H)∨(J.go i H∧∃ N:St→Hp→Prop,(∀ σ' H',N σ' H'→∃ m',m' < m∧W (i+1) m' σ' H')∧∀ x H',J.yld i H x H'→g x σ H' fun σ2 H2=>tb {D with nx:=N,ct:=N,bk:=D.nx} σ2 H2)
def kQ (fp:List Addr) (h:Heap):List (Addr×Obj):=fp.filterMap fun b=>(h.get? b).map fun o=>(b,o)
theorem e9 {fp:List Addr} {h:Heap} {b:Addr} {o:Obj} (hb:b∈fp) (e:h.get? b=some o):(b,o)∈kQ fp h:=List.mem_filterMap.mpr ⟨b,hb,by rw [e];rfl⟩
theorem tJ {fp:List Addr} {h:Heap} {p:Addr×Obj} (hp:p∈kQ fp h):p.1∈fp∧h.get? p.1=some p.2:=by
 obtain ⟨b,hb,e⟩:=List.mem_filterMap.mp hp
 cases q:h.get? b with
 | none=>rw [q] at e;cases e
 | some o=>
  rw [q] at e
  have e':(b,o)=p:=Option.some.inj e
  subst e'
  exact ⟨hb,q⟩
theorem Inv.pinned {pins:List (Addr×Obj)} {σ:St} {H:Hp} {s:Shared} {fp:List Addr} (I:Inv X pins σ H s) (hf:∀ b∈fp,tm X pins H b) (ho:∀ b∈fp,∃ o,s.heap.get? b=some o∧∀ v,o.data ≠ .cell v):Inv X (pins++kQ fp s.heap) σ H s:=
 I.pins_of fun p hp=>(List.mem_append.mp hp).elim (fun z=>I.pin p (List.mem_append_right _ z)) fun z=>by
  obtain ⟨hb,e⟩:=tJ z
  obtain ⟨f0,f1,f2,_⟩:=hf p.1 hb
  obtain ⟨o,e',d⟩:=ho p.1 hb
  rw [e] at e';cases e'
  exact ⟨e,f0,f1,f2,d⟩
theorem Inv.unpinned {pins pl:List (Addr×Obj)} {σ:St} {H:Hp} {s:Shared} (I:Inv X (pins++pl) σ H s):Inv X pins σ H s:=I.pins_of fun p hp=>I.pin p (List.mem_append_right _ (List.mem_append_left _ hp))
theorem bL {iter:Expr} {body:List Stmt} {wi:TI} {g:TG} {tb:TS} {pos:Pos} (hp:PassesOwn (model X.prog X.w) X.A X.env X.xe) (hc:X.calm=true) (hi:PI X tg iter wi) (hg:PG X tg g) (hb:PSs X body tb)
  (hs:∀ x,foldedSetIterable iter X.env x=pure x:=by intro _;rfl):PS X (.For tg iter body [] pos) (Cv wi g tb):=by
 intro pins s σ H D I h
 refine wpAny_For (thn (hi pins s σ H _ I h) fun v s1 h1=>thn h1 fun itv s2 h2 => ?_) hs
 obtain ⟨it,fp,tn,J,H2,e,I2,T,st2,f2,W,⟨m0,w0⟩,sE⟩:=h2
 subst e
 have stat:∀ {H':Hp},(∀ b∈fp,H' b=none)→∀ b∈fp,tm X pins H' b:=fun hn b hb=>⟨hn b hb,(f2 b hb).2⟩
 refine codeAny_forLoop_any (fun n s'=>∃ i σ' H',Inv X pins σ' H' s'∧tn i s'.heap∧(∀ b∈fp,H' b=none)∧W i n σ' H') ?_ m0 ⟨0,σ,H2,I2,st2,fun b hb=>(f2 b hb).1,w0⟩
 rintro n s3 ⟨i,σ3,H3,I3,st3,fr3,w3⟩
 rcases sE i n σ3 H3 w3 with ⟨stop,qn⟩ | ⟨go,N,hN,step⟩
 ·refine wpAny_passesOwn hp (thn (T.done X rfl rfl rfl hc i pins s3 σ3 H3 X.xe I3 (stat fr3) st3 stop) fun r s4 ⟨hr,I4⟩ => ?_)
  subst hr
  exact wpAny_execs_nil ⟨σ3,H3,I4,qn⟩
 ·refine wpAny_passesOwn hp (thn (T.item X rfl rfl rfl hc i pins s3 σ3 H3 X.xe I3 (stat fr3) st3 go) fun r s4 ⟨u,hr,h4⟩ => ?_)
  subst hr
  refine wpAny_passesOwn hp (thn h4 fun _ s5 ⟨x,H5,I5,r5,y5,st5,fr5⟩ => ?_)
  have I5':=I5.pinned (stat fr5) (T.obj _ _ st5)
  refine wpAny_passesOwn hp (thn (hg _ s5 σ3 H5 x u _ I5' r5 (step x H5 y5)) fun _ s6 ⟨σ6,H6,I6,q6⟩ => ?_)
  refine wpAny_passesOwn hp (thn (hb _ s6 σ6 H6 _ I6 q6) fun f s7 q7 => ?_)
  have again:∀ {σ7:St} {H7:Hp},Inv X (pins++kQ fp s5.heap) σ7 H7 s7→N σ7 H7→∃ m,m < n∧∃ i σ' H',Inv X pins σ' H' s7∧tn i s7.heap∧(∀ b∈fp,H' b=none)∧W i m σ' H':=fun {σ7 H7} I7 n7=>by
   obtain ⟨m',hm,w7⟩:=hN σ7 H7 n7
   refine ⟨m',hm,i+1,σ7,H7,I7.unpinned,T.keep _ _ _ st5 fun b hb o e=>(I7.pin (b,o) (List.mem_append_right _ (List.mem_append_right _ (e9 hb e)))).1,fun b hb => ?_,w7⟩
   obtain ⟨o,e,d⟩:=T.obj _ _ st5 b hb
   exact (I7.pin (b,o) (List.mem_append_right _ (List.mem_append_right _ (e9 hb e)))).2.1
  cases f with
  | next=>obtain ⟨σ7,H7,I7,n7⟩:=q7;exact again I7 n7
  | cont=>obtain ⟨σ7,H7,I7,n7⟩:=q7;exact again I7 n7
  | brk=>obtain ⟨σ7,H7,I7,q7⟩:=q7;exact ⟨σ7,H7,I7.unpinned,q7⟩
  | ret v=>obtain ⟨x7,σ7,H7,I7,r7,q7⟩:=q7;exact ⟨x7,σ7,H7,I7.unpinned,r7,q7⟩
end
theorem vM {K:PySem.W.Frag} {a:Addr} {xs:List V} {g:TG} {tb:TS} {D:Ends} {σ:St} {H:Hp} (Pv:Nat→St→Hp→Prop) (h0:Pv 0 σ H) (hl:∀ i σ H,i≤xs.length→Pv i σ H→SqL K H a xs)
  (hs:∀ i x σ H,xs[i]? = some x→Pv i σ H→g x σ H fun σ2 H2=>tb {D with nx:=Pv (i+1),ct:=Pv (i+1),bk:=D.nx} σ2 H2) (hd:∀ σ H,Pv xs.length σ H→D.nx σ H) :
  ∃ W:Nat→Nat→St→Hp→Prop,(∃ m,W 0 m σ H)∧∀ i m σ H,W i m σ H →
   ((Itl K a).stop i H∧D.nx σ H)∨((Itl K a).go i H∧∃ N:St→Hp→Prop,(∀ σ' H',N σ' H'→∃ m',m' < m∧W (i+1) m' σ' H')∧∀ x H',(Itl K a).yld i H x H'→g x σ H' fun σ2 H2=>tb {D with nx:=N,ct:=N,bk:=D.nx} σ2 H2):=by
 refine ⟨fun i m σ H=>m=xs.length - i∧i≤xs.length∧Pv i σ H,⟨xs.length,by simp,Nat.zero_le _,h0⟩,?_⟩
 rintro i m σ H ⟨rfl,hi,p⟩
 have q:=hl i σ H hi p
 by_cases hlt:i < xs.length
 ·refine .inr ⟨⟨xs,xs[i],q,by simp [hlt]⟩,Pv (i+1),fun σ' H' p'=>⟨xs.length - (i+1),by omega,rfl,hlt,p'⟩,fun x H' y => ?_⟩
  obtain ⟨e,y⟩:=y
  subst e
  exact hs i x σ _ (y xs q) p
 ·have e:i=xs.length:=by omega
  subst e
  exact .inl ⟨⟨xs,q,Nat.le_refl _⟩,hd σ H p⟩
theorem mQ {lo:Int} {n:Nat} {g:TG} {tb:TS} {D:Ends} {σ:St} {H:Hp} (Pv:Nat→St→Hp→Prop) (h0:Pv 0 σ H)
  (hs:∀ i σ H,i < n→Pv i σ H→g (.int (lo+i)) σ H fun σ2 H2=>tb {D with nx:=Pv (i+1),ct:=Pv (i+1),bk:=D.nx} σ2 H2) (hd:∀ σ H,Pv n σ H→D.nx σ H) :
  ∃ W:Nat→Nat→St→Hp→Prop,(∃ m,W 0 m σ H)∧∀ i m σ H,W i m σ H →
   ((Itr lo n).stop i H∧D.nx σ H)∨((Itr lo n).go i H∧∃ N:St→Hp→Prop,(∀ σ' H',N σ' H'→∃ m',m' < m∧W (i+1) m' σ' H')∧∀ x H',(Itr lo n).yld i H x H'→g x σ H' fun σ2 H2=>tb {D with nx:=N,ct:=N,bk:=D.nx} σ2 H2):=by
 refine ⟨fun i m σ H=>m=n - i∧i≤n∧Pv i σ H,⟨n,by simp,Nat.zero_le _,h0⟩,?_⟩
 rintro i m σ H ⟨rfl,hi,p⟩
 by_cases hlt:i < n
 ·refine .inr ⟨hlt,Pv (i+1),fun σ' H' p'=>⟨n - (i+1),by omega,rfl,hlt,p'⟩,fun x H' y => ?_⟩
  obtain ⟨e,y⟩:=y
  subst e y
  exact hs i σ _ hlt p
 ·have e:i=n:=by omega
  subst e
  exact .inl ⟨Nat.le_refl _,hd σ H p⟩
theorem qW {c:TT} {tb:TS} {D:Ends} {σ:St} {H:Hp} (Pv:St→Hp→Prop) (μ:St→Hp→Nat) (h0:Pv σ H)
  (hs:∀ σ H,Pv σ H→c σ H fun b H1=>if b=true then tb {D with nx:=fun σ' H'=>Pv σ' H'∧μ σ' H' < μ σ H,ct:=fun σ' H'=>Pv σ' H'∧μ σ' H' < μ σ H,bk:=D.nx} σ H1 else D.nx σ H1)
  (mono:∀ σ H Q Q',(∀ b H1,Q b H1→Q' b H1)→c σ H Q→c σ H Q'):xv c tb D σ H:=by
 refine ⟨fun m σ H=>m=μ σ H∧Pv σ H,⟨_,rfl,h0⟩,?_⟩
 rintro m σ H ⟨rfl,p⟩
 refine mono σ H _ _ (fun b H1 q => ?_) (hs σ H p)
 cases b with
 | true=>exact ⟨_,fun σ' H' ⟨p',l⟩=>⟨_,l,rfl,p'⟩,q⟩
 | false=>exact q
end L2
namespace L2
open PySem PySem.Spec PyProof.Rows
abbrev R2:=V→V→Hp→VK→Prop
def OpR (X:Cx) (f:Value→Value→Sem Value) (r:R2):Prop:=
 ∀ (pins:List (Addr×Obj)) (s:Shared) (σ:St) (H:Hp) (x y:V) (v u:Value) (Q:VK),Inv X pins σ H s→RelV x v→RelV y u→r x y H Q →
  wpAny (model X.prog X.w) X.A (f v u) (EP X pins σ Q) X.xe s
def UnR (X:Cx) (f:Value→Sem Value) (r:V→Hp→VK→Prop):Prop:=
 ∀ (pins:List (Addr×Obj)) (s:Shared) (σ:St) (H:Hp) (x:V) (v:Value) (Q:VK),Inv X pins σ H s→RelV x v→r x H Q →
  wpAny (model X.prog X.w) X.A (f v) (EP X pins σ Q) X.xe s
def dz (X:Cx) (f:Value) (r:List V→Hp→VK→Prop):Prop:=
 ∀ (pins:List (Addr×Obj)) (s:Shared) (σ:St) (H:Hp) (xs:List V) (us:List Value) (Q:VK),Inv X pins σ H s→Vals xs us→r xs H Q →
  wpAny (model X.prog X.w) X.A (call f us) (EP X pins σ Q) X.xe s
def EN (X:Cx) (r:V→Hp→(Bool→Hp→Prop)→Prop):Prop:=
 ∀ (pins:List (Addr×Obj)) (s:Shared) (σ:St) (H:Hp) (x:V) (v:Value) (Q:Bool→Hp→Prop),Inv X pins σ H s→RelV x v→r x H Q →
  wpAny (model X.prog X.w) X.A (truthy v) (TP X pins σ Q) X.xe s
def tOp (r:R2) (ta tb:TE):TE:=fun σ H Q=>ta σ H fun x H1=>tb σ H1 fun y H2=>r x y H2 Q
def tUn (r:V→Hp→VK→Prop) (ta:TE):TE:=fun σ H Q=>ta σ H fun x H1=>r x H1 Q
def rI (C:Int→Int→Prop) (g:Int→Int→V):R2:=fun x y H Q=>∃ i j,x = .int i∧y = .int j∧C i j∧Q (g i j) H
def rI0 (g:Int→Int→V):R2:=fun x y H Q=>∃ i j,x = .int i∧y = .int j∧Q (g i j) H
def rU (g:Int→V):V→Hp→VK→Prop:=fun x H Q=>∃ i,x = .int i∧Q (g i) H
section
variable {X:Cx} {a b c:Expr} {ta tb tc:TE} {pos:Pos}
theorem CN (ha:PE X a ta) (hb:PE X b tb) {pins:List (Addr×Obj)} {s:Shared} {σ:St} {H:Hp} {R:V→V→Hp→Prop} (I:Inv X pins σ H s)
  (h:ta σ H fun x H1=>tb σ H1 fun y H2=>R x y H2) {Q:Value→Shared→Prop} {f:Value→Value→Sem Value}
  (hf:∀ v u s2 x y H2,Inv X pins σ H2 s2→RelV x v→RelV y u→R x y H2→wpAny (model X.prog X.w) X.A (f v u) Q X.xe s2) :
  wpAny (model X.prog X.w) X.A (eval a X.env) (fun v s₁=>wpAny (model X.prog X.w) X.A (eval b X.env) (fun u s₂=>wpAny (model X.prog X.w) X.A (f v u) Q X.xe s₂) X.xe s₁) X.xe s:=by
 refine thn (ha pins s σ H _ I h) fun v s1 ⟨x,H1,I1,r1,q1⟩ => ?_
 refine thn (hb pins s1 σ H1 _ I1 q1) fun u s2 ⟨y,H2,I2,r2,q2⟩ => ?_
 exact hf v u s2 x y H2 I2 r1 r2 q2
theorem ap {op:Operator} {r:R2} (ho:OpR X (binaryOp op) r) (ha:PE X a ta) (hb:PE X b tb):PE X (.BinOp a op b pos) (tOp r ta tb):=by
 intro pins s σ H Q I h
 exact wpAny_BinOp (CN ha hb I h fun v u s2 x y H2 I2 rx ry q=>ho pins s2 σ H2 x y v u Q I2 rx ry q)
theorem lI {op:UnaryOp} {r:V→Hp→VK→Prop} (ho:UnR X (unaryOp op) r) (ha:PE X a ta):PE X (.UnaryOp op a pos) (tUn r ta):=by
 intro pins s σ H Q I h
 exact UnaryOp_ (thn (ha pins s σ H _ I h) fun v s1 ⟨x,H1,I1,r1,q1⟩=>ho pins s1 σ H1 x v Q I1 r1 q1)
theorem opI {f:Value→Value→Sem Value} {C:Int→Int→Prop} {g:Int→Int→Int}
  (rule:∀ (i j:Int) (t u:Tok) (s:Shared) (Q:Value→Shared→Prop) (E:Value→Shared→Prop),C i j→Q (.int (g i j) s.toks) {s with toks:=s.toks+1}→wpAny (model X.prog X.w) X.A (f (.int i t) (.int j u)) Q E s) :
  OpR X f (rI C fun i j => .int (g i j)):=by
 intro pins s σ H x y v u Q I rx ry h
 obtain ⟨i,j,rfl,rfl,hc,q⟩:=h
 obtain ⟨t,rfl⟩:=rx
 obtain ⟨t',rfl⟩:=ry
 exact rule i j t t' s _ _ hc ⟨.int (g i j),H,I.tok _,⟨_,rfl⟩,q⟩
theorem Cw {f:Value→Value→Sem Value} {g:Int→Int→Int}
  (rule:∀ (i j:Int) (t u:Tok) (s:Shared) (Q:Value→Shared→Prop) (E:Value→Shared→Prop),Q (.int (g i j) s.toks) {s with toks:=s.toks+1}→wpAny (model X.prog X.w) X.A (f (.int i t) (.int j u)) Q E s) :
  OpR X f (rI0 fun i j => .int (g i j)):=by
 intro pins s σ H x y v u Q I rx ry h
 obtain ⟨i,j,rfl,rfl,q⟩:=h
 obtain ⟨t,rfl⟩:=rx
 obtain ⟨t',rfl⟩:=ry
 exact rule i j t t' s _ _ ⟨.int (g i j),H,I.tok _,⟨_,rfl⟩,q⟩
theorem Cy {f:Value→Value→Sem Value} {g:Int→Int→Bool}
  (rule:∀ (i j:Int) (t u:Tok) (s:Shared) (Q:Value→Shared→Prop) (E:Value→Shared→Prop),Q (.bool (g i j)) s→wpAny (model X.prog X.w) X.A (f (.int i t) (.int j u)) Q E s) :
  OpR X f (rI0 fun i j => .bl (g i j)):=by
 intro pins s σ H x y v u Q I rx ry h
 obtain ⟨i,j,rfl,rfl,q⟩:=h
 obtain ⟨t,rfl⟩:=rx
 obtain ⟨t',rfl⟩:=ry
 exact rule i j t t' s _ _ ⟨.bl (g i j),H,I,rfl,q⟩
def EO (i j:Int):Prop:=0 < j∧j < 1073741824
def EQ (i j:Int):Prop:=j≠0∧j.natAbs < 1073741824
def ER (i j:Int):Prop:=0≤j∧j≤1000000∧i.natAbs < 2 ^ 64
def CMul (i j:Int):Prop:=(-(2 ^ 64) < i∧i < 2 ^ 64)∨(-(2 ^ 64) < j∧j < 2 ^ 64)
theorem CMul.ok {i j:Int} (h:CMul i j):IntMulOk i j:=by
 rcases h with ⟨h1,h2⟩ | ⟨h1,h2⟩
 ·exact .of_left (intBits_le_64 h1 h2)
 ·exact .of_right (intBits_le_64 h1 h2)
theorem rZ (k:Nat):(0:Int)≤2 ^ k:=by
 rw [two_pow_cast]
 exact Int.natCast_nonneg _
theorem aY:OpR X (binaryOp .Add) (rI0 fun i j => .int (i+j)):=Cw fun _ _ _ _ _ _ _ q=>add_int q
theorem dn:OpR X (binaryOp .Sub) (rI0 fun i j => .int (i - j)):=Cw fun _ _ _ _ _ _ _ q=>sub_int q
theorem cG:OpR X (binaryOp .Mult) (rI CMul fun i j => .int (i * j)):=opI fun _ _ _ _ _ _ _ hc q=>mul_int q hc.ok
theorem cu:OpR X (binaryOp .FloorDiv) (rI EO fun i j => .int (i / j)):=opI fun i j _ _ _ _ _ hc q=>by
 have h1:(0:Int) < j:=hc.1
 have h2:j < 1073741824:=hc.2
 exact floordiv_int (by omega) (by rw [Int.fdiv_eq_ediv_of_nonneg i (by omega)];exact q) (.inl (PyProof.noPylong_small (by omega)))
theorem bC:OpR X (binaryOp .Mod) (rI (fun _ j=>0 < j) fun i j => .int (i % j)):=opI fun i j _ _ _ _ _ hc q=>by
 have h1:(0:Int) < j:=hc
 exact mod_int' (by omega) (by rw [Int.fmod_eq_emod_of_nonneg i (by omega)];exact q)
theorem Ay:OpR X (binaryOp .LShift) (rI ER fun i j => .int (i * 2 ^ j.toNat)):=opI fun _ _ _ _ _ _ _ hc q=>lshift_int_small hc.1 hc.2.1 hc.2.2 q
theorem xw:OpR X (binaryOp .RShift) (rI (fun _ j=>0≤j) fun i j => .int (i / 2 ^ j.toNat)):=opI fun i j _ _ _ _ _ hc q=>
 rshift_int hc (by rw [Int.fdiv_eq_ediv_of_nonneg i (rZ _)];exact q)
theorem xx:OpR X (binaryOp .BitAnd) (rI0 fun i j => .int (Builtin.bitAnd i j)):=Cw fun _ _ _ _ _ _ _ q=>and_int q
theorem Az:OpR X (binaryOp .BitXor) (rI0 fun i j => .int (Builtin.bitXor i j)):=Cw fun _ _ _ _ _ _ _ q=>xor_int q
theorem unI {f:Value→Sem Value} {g:Int→Int}
  (rule:∀ (i:Int) (t:Tok) (s:Shared) (Q:Value→Shared→Prop) (E:Value→Shared→Prop),Q (.int (g i) s.toks) {s with toks:=s.toks+1}→wpAny (model X.prog X.w) X.A (f (.int i t)) Q E s) :
  UnR X f (rU fun i => .int (g i)):=by
 intro pins s σ H x v Q I rx h
 obtain ⟨i,rfl,q⟩:=h
 obtain ⟨t,rfl⟩:=rx
 exact rule i t s _ _ ⟨.int (g i),H,I.tok _,⟨_,rfl⟩,q⟩
theorem gE:UnR X (unaryOp .USub) (rU fun i => .int (-i)):=unI fun _ _ _ _ _ q=>neg_int q
end
def Ed:V→V→Bool
 | .non,.non=>true | .non,.int _=>true | .int _,.non=>true | .non,.bl _=>true | .bl _,.non=>true | .non,.str _=>true | .str _,.non=>true
 | .int _,.int _=>true | .bl _,.bl _=>true | .str _,.str _=>true | .byt _,.byt _=>true
 | .int _,.str _=>true | .str _,.int _=>true | .bl _,.str _=>true | .str _,.bl _=>true
 | _,_=>false
def rEq:R2:=fun x y H Q=>Ed x y=true∧Q (.bl (decide (x=y))) H
def rNe:R2:=fun x y H Q=>Ed x y=true∧Q (.bl (!decide (x=y))) H
theorem lJ {i j:Int}:decide (V.int i=V.int j)=(i == j):=by
 rw [Bool.eq_iff_iff]
 simp
theorem xy {i j:Bool}:decide (V.bl i=V.bl j)=(i == j):=by
 rw [Bool.eq_iff_iff]
 simp
theorem tK {i j:Str}:decide (V.str i=V.str j)=(i == j):=by
 rw [Bool.eq_iff_iff]
 simp
theorem tL {i j:Array UInt8}:decide (V.byt i=V.byt j)=(i.toList == j.toList):=by
 rw [Bool.eq_iff_iff]
 cases i
 cases j
 simp
section
variable {X:Cx} {a b c:Expr} {ta tb tc:TE} {pos:Pos}
theorem bi {pins:List (Addr×Obj)} {σ:St} {H:Hp} {s:Shared} {Q:VK} {k k':Bool} (I:Inv X pins σ H s) (q:Q (.bl k) H) (e:k=k'):EP X pins σ Q (.bool k') s:=by
 subst e
 exact ⟨.bl k,H,I,rfl,q⟩
theorem bg:OpR X (compareOp .Eq) rEq:=by
 intro pins s σ H x y v u Q I rx ry h
 obtain ⟨hs,q⟩:=h
 cases x with
 | non=>
  cases rx
  cases y with
  | non=>cases ry;exact PySem.EqNone.eq_none_none (bi I q (by simp))
  | bl j=>cases ry;exact PySem.EqNone.eq_none_bool (bi I q (by simp))
  | int j=>obtain ⟨t',rfl⟩:=ry;exact PySem.EqNone.eq_none_int (bi I q (by simp))
  | str j=>obtain ⟨t',rfl⟩:=ry;exact PySem.EqNone.eq_none_str (bi I q (by simp))
  | _=>exact absurd (show false=true from hs) Bool.false_ne_true
 | bl i=>
  cases rx
  cases y with
  | non=>cases ry;exact PySem.EqNone.eq_bool_none (bi I q (by simp))
  | bl j=>cases ry;exact eq_bool (bi I q xy)
  | str j=>obtain ⟨t',rfl⟩:=ry;exact PySem.EqMixed.eq_bool_str (bi I q (by simp))
  | _=>exact absurd (show false=true from hs) Bool.false_ne_true
 | int i=>
  obtain ⟨t,rfl⟩:=rx
  cases y with
  | non=>cases ry;exact PySem.EqNone.eq_int_none (bi I q (by simp))
  | int j=>obtain ⟨t',rfl⟩:=ry;exact eq_int (bi I q lJ)
  | str j=>obtain ⟨t',rfl⟩:=ry;exact PySem.EqMixed.eq_int_str (bi I q (by simp))
  | _=>exact absurd (show false=true from hs) Bool.false_ne_true
 | str i=>
  obtain ⟨t,rfl⟩:=rx
  cases y with
  | non=>cases ry;exact PySem.EqNone.eq_str_none (bi I q (by simp))
  | bl j=>cases ry;exact PySem.EqMixed.eq_str_bool (bi I q (by simp))
  | int j=>obtain ⟨t',rfl⟩:=ry;exact PySem.EqMixed.eq_str_int (bi I q (by simp))
  | str j=>obtain ⟨t',rfl⟩:=ry;exact eq_str (bi I q tK)
  | _=>exact absurd (show false=true from hs) Bool.false_ne_true
 | byt i=>
  obtain ⟨t,rfl⟩:=rx
  cases y with
  | byt j=>obtain ⟨t',rfl⟩:=ry;exact PySem.W.eq_bytes (bi I q tL)
  | _=>exact absurd (show false=true from hs) Bool.false_ne_true
 | _=>cases y <;> exact absurd (show false=true from hs) Bool.false_ne_true
theorem io:OpR X (compareOp .NotEq) rNe:=by
 intro pins s σ H x y v u Q I rx ry h
 obtain ⟨hs,q⟩:=h
 cases x with
 | non=>
  cases rx
  cases y with
  | non=>cases ry;exact PySem.EqNone.ne_none_none (bi I q (by simp))
  | bl j=>cases ry;exact PySem.EqNone.ne_none_bool (bi I q (by simp))
  | int j=>obtain ⟨t',rfl⟩:=ry;exact PySem.EqNone.ne_none_int (bi I q (by simp))
  | str j=>obtain ⟨t',rfl⟩:=ry;exact PySem.EqNone.ne_none_str (bi I q (by simp))
  | _=>exact absurd (show false=true from hs) Bool.false_ne_true
 | bl i=>
  cases rx
  cases y with
  | non=>cases ry;exact PySem.EqNone.ne_bool_none (bi I q (by simp))
  | bl j=>cases ry;exact ne_bool (bi I q (congrArg not xy))
  | str j=>obtain ⟨t',rfl⟩:=ry;exact PySem.EqMixed.ne_bool_str (bi I q (by simp))
  | _=>exact absurd (show false=true from hs) Bool.false_ne_true
 | int i=>
  obtain ⟨t,rfl⟩:=rx
  cases y with
  | non=>cases ry;exact PySem.EqNone.ne_int_none (bi I q (by simp))
  | int j=>obtain ⟨t',rfl⟩:=ry;exact ne_int (bi I q (congrArg not lJ))
  | str j=>obtain ⟨t',rfl⟩:=ry;exact PySem.EqMixed.ne_int_str (bi I q (by simp))
  | _=>exact absurd (show false=true from hs) Bool.false_ne_true
 | str i=>
  obtain ⟨t,rfl⟩:=rx
  cases y with
  | non=>cases ry;exact PySem.EqNone.ne_str_none (bi I q (by simp))
  | bl j=>cases ry;exact PySem.EqMixed.ne_str_bool (bi I q (by simp))
  | int j=>obtain ⟨t',rfl⟩:=ry;exact PySem.EqMixed.ne_str_int (bi I q (by simp))
  | str j=>obtain ⟨t',rfl⟩:=ry;exact ne_str (bi I q (congrArg not tK))
  | _=>exact absurd (show false=true from hs) Bool.false_ne_true
 | byt i=>
  obtain ⟨t,rfl⟩:=rx
  cases y with
  | byt j=>obtain ⟨t',rfl⟩:=ry;exact PySem.W.ne_bytes (bi I q (congrArg not tL))
  | _=>exact absurd (show false=true from hs) Bool.false_ne_true
 | _=>cases y <;> exact absurd (show false=true from hs) Bool.false_ne_true
theorem gF:OpR X (compareOp .Lt) (rI0 fun i j => .bl (decide (i < j))):=Cy fun _ _ _ _ _ _ _ q=>lt_int q
theorem jB:OpR X (compareOp .LtE) (rI0 fun i j => .bl (decide (i≤j))):=Cy fun _ _ _ _ _ _ _ q=>le_int q
theorem mR:OpR X (compareOp .Gt) (rI0 fun i j => .bl (decide (j < i))):=Cy fun _ _ _ _ _ _ _ q=>gt_int q
theorem AA:OpR X (compareOp .GtE) (rI0 fun i j => .bl (decide (j≤i))):=Cy fun _ _ _ _ _ _ _ q=>ge_int q
theorem AB:OpR X (compareOp .Is) (fun x y H Q=>y = .non∧Q (.bl (decide (x = .non))) H):=by
 intro pins s σ H x y v u Q I rx ry h
 obtain ⟨rfl,q⟩:=h
 cases ry
 refine is_none_gen (bi I q ?_)
 cases x <;> first
  | (cases rx;rfl)
  | (obtain ⟨t,rfl⟩:=rx;rfl)
theorem x9:OpR X (compareOp .IsNot) (fun x y H Q=>y = .non∧Q (.bl (!decide (x = .non))) H):=by
 intro pins s σ H x y v u Q I rx ry h
 obtain ⟨rfl,q⟩:=h
 cases ry
 refine isnot_none_gen (bi I q ?_)
 cases x <;> first
  | (cases rx;rfl)
  | (obtain ⟨t,rfl⟩:=rx;rfl)
def ES:HO→Bool
 | .lst _=>true
 | .ins _ _ _=>true
 | _=>false
theorem ao (b:Expr) {op:CmpOp} (h:op ≠ .In:=by decide) (h2:op ≠ .NotIn:=by decide):behindInMarks op b=false:=by
 have e1:(op == CmpOp.In)=false:=by cases op <;> first | rfl | exact absurd rfl h
 have e2:(op == CmpOp.NotIn)=false:=by cases op <;> first | rfl | exact absurd rfl h2
 cases b <;> simp [behindInMarks,e1,e2]
theorem bM {op:CmpOp} {r:R2} (ho:OpR X (compareOp op) r) (ha:PE X a ta) (hb:PE X b tb) (hm:behindInMarks op b=false):PE X (.Compare a [op] [b] pos) (tOp r ta tb):=by
 intro pins s σ H Q I h
 exact wpAny_Compare1 (CN ha hb I h fun v u s2 x y H2 I2 rx ry q=>ho pins s2 σ H2 x y v u Q I2 rx ry q) hm
def pf (t:TE):TT:=fun σ H Q=>t σ H fun x H'=>∃ k,x = .bl k∧Q k H'
theorem ai {op:CmpOp} {r:R2} (ho:OpR X (compareOp op) r) (ha:PE X a ta) (hb:PE X b tb) (hm:behindInMarks op b=false):PT X (.Compare a [op] [b] pos) (pf (tOp r ta tb)):=by
 intro pins s σ H Q I h
 refine wpAny_isTrue_Compare1 (thn (ha pins s σ H _ I h) fun v s1 ⟨x,H1,I1,r1,q1⟩=>thn (hb pins s1 σ H1 _ I1 q1) fun u s2 ⟨y,H2,I2,r2,q2⟩=>
  thn (ho pins s2 σ H2 x y v u _ I2 r1 r2 q2) fun c s3 ⟨z,H3,I3,r3,k,e,q3⟩ => ?_) hm
 subst e
 cases r3
 exact wpAny_truthy_bool ⟨H3,I3,q3⟩
def qX (r r':R2) (ta tb tc:TE):TE:=fun σ H Q=>ta σ H fun x H1=>tb σ H1 fun y H2=>r x y H2 fun z H3=>∃ k,z = .bl k ∧
 (if k=true then tc σ H3 fun w' H4=>r' y w' H4 Q else Q (.bl false) H3)
theorem qY {op op':CmpOp} {r r':R2} (ho:OpR X (compareOp op) r) (ho':OpR X (compareOp op') r') (ha:PE X a ta) (hb:PE X b tb) (hc:PE X c tc)
  (hm:lastMarks [op,op'] [b,c]=false:=by with_unfolding_all rfl):PE X (.Compare a [op,op'] [b,c] pos) (qX r r' ta tb tc):=by
 intro pins s σ H Q I h
 refine Compare_chain (thn (ha pins s σ H _ I h) fun v s1 ⟨x,H1,I1,r1,q1⟩=>chain_link (thn (hb pins s1 σ H1 _ I1 q1) fun u s2 ⟨y,H2,I2,r2,q2⟩=>
  thn (ho pins s2 σ H2 x y v u _ I2 r1 r2 q2) fun d s3 ⟨z,H3,I3,r3,k,e,q3⟩ => ?_)) hm
 subst e
 cases r3
 refine wpAny_truthy_bool ?_
 cases k with
 | false=>exact ite_ff ⟨.bl false,H3,I3,rfl,q3⟩
 | true=>exact ite_tt (chain_last (thn (hc pins s3 σ H3 _ I3 q3) fun w' s4 ⟨z',H4,I4,r4,q4⟩=>ho' pins s4 σ H4 y z' u w' Q I4 r2 r4 q4))
theorem qZ {op op':CmpOp} {r r':R2} (ho:OpR X (compareOp op) r) (ho':OpR X (compareOp op') r') (ha:PE X a ta) (hb:PE X b tb) (hc:PE X c tc)
  (hm:lastMarks [op,op'] [b,c]=false:=by with_unfolding_all rfl):PT X (.Compare a [op,op'] [b,c] pos) (pf (qX r r' ta tb tc)):=by
 intro pins s σ H Q I h
 refine isTrue_chain (thn (ha pins s σ H _ I h) fun v s1 ⟨x,H1,I1,r1,q1⟩=>test_link (thn (hb pins s1 σ H1 _ I1 q1) fun u s2 ⟨y,H2,I2,r2,q2⟩=>
  thn (ho pins s2 σ H2 x y v u _ I2 r1 r2 q2) fun d s3 ⟨z,H3,I3,r3,k,e,q3⟩ => ?_)) hm
 subst e
 cases r3
 refine wpAny_truthy_bool ?_
 cases k with
 | false=>
  obtain ⟨k',e',q'⟩:=q3
  cases e'
  exact ite_ff ⟨H3,I3,q'⟩
 | true=>
  refine ite_tt (test_last (thn (hc pins s3 σ H3 _ I3 q3) fun w' s4 ⟨z',H4,I4,r4,q4⟩=>thn (ho' pins s4 σ H4 y z' u w' _ I4 r2 r4 q4) fun d' s5 ⟨z2,H5,I5,r5,k2,e2,q5⟩ => ?_))
  subst e2
  cases r5
  exact wpAny_truthy_bool ⟨H5,I5,q5⟩
def CO (K:PySem.W.Frag) (x:V) (H:Hp) (k:Bool):Prop:=
 match x with
 | .non=>k=false
 | .bl b=>k=b
 | .int i=>k=(i != 0)
 | .str y=>y.length≤sizeLine∧k=((y.length:Int) != 0)
 | .byt y=>y.size≤sizeLine∧k=((y.size:Int) != 0)
 | .ref p=>(∃ xs,SqL K H p xs∧k = !xs.isEmpty)∨(∃ xs,SqT K H p xs∧k = !xs.isEmpty)∨∃ kvs,H p=some (.dK kvs)∧k = !kvs.isEmpty
 | _=>False
theorem r6 {κ:Type} {kvs:List (κ×V)} {vs:List (κ×Value)} (r:KV kvs vs):(!vs.isEmpty) = !kvs.isEmpty:=by
 cases r <;> rfl
theorem kR {xs:List V} {its:List Value} (r:Vals xs its):(!its.toArray.isEmpty) = !xs.isEmpty:=by
 cases r <;> simp
theorem mS:(sizeLine:Nat) < 2 ^ 63:=by rw [sizeLine_eq];decide
theorem AC:EN X (fun x H Q=>∃ k,CO X.K x H k∧Q k H):=by
 intro pins s σ H x v Q I rx h
 obtain ⟨k,e,q⟩:=h
 have hl:=mS
 have hs:sizeLine=16777216:=sizeLine_eq
 cases x with
 | non=>
  cases rx
  have e':k=false:=e
  subst e'
  exact truthy_none ⟨H,I,q⟩
 | bl b=>
  cases rx
  have e':k=b:=e
  subst e'
  exact wpAny_truthy_bool ⟨H,I,q⟩
 | int i=>
  obtain ⟨t,rfl⟩:=rx
  have e':k=(i != 0):=e
  subst e'
  exact PySem.P.truthy_int ⟨H,I,q⟩
 | str y=>
  obtain ⟨t,rfl⟩:=rx
  obtain ⟨hy,e'⟩:y.length≤sizeLine∧k=((y.length:Int) != 0):=e
  subst e'
  exact PySem.P.truthy_str (by omega) ⟨H,I.tok _,q⟩
 | byt y=>
  obtain ⟨t,rfl⟩:=rx
  obtain ⟨hy,e'⟩:y.size≤sizeLine∧k=((y.size:Int) != 0):=e
  subst e'
  exact PySem.W.truthy_bytes (by omega) ⟨H,I.tok _,q⟩
 | ref p=>
  cases rx
  have e':(∃ xs,SqL X.K H p xs∧k = !xs.isEmpty)∨(∃ xs,SqT X.K H p xs∧k = !xs.isEmpty)∨∃ kvs,H p=some (.dK kvs)∧k = !kvs.isEmpty:=e
  rcases e' with ⟨xs,hx,e'⟩ | ⟨xs,hx,e'⟩ | ⟨kvs,hx,e'⟩
  ·subst e'
   obtain ⟨its,r,pl,hz⟩:=I.list hx
   have hlen:=r.length
   exact wpAny_truthy_list pl.isList (by simp only [List.size_toArray];omega) ⟨H,I.tok _,by rw [kR r];exact q⟩
  ·subst e'
   obtain ⟨its,r,pl,hz⟩:=I.tuple hx
   have hlen:=r.length
   exact truthy_tuple pl (by simp only [List.size_toArray];omega) ⟨H,I.tok _,by rw [kR r];exact q⟩
  ·subst e'
   obtain ⟨hz,hS,vs,r,m⟩:kvs.length≤sizeLine∧(p == sysModules)=false∧∃ vs,KV kvs vs∧s.heap.DictOf (bJ X.prog X.w) p vs:=I.hok p _ hx
   have hlen:kvs.length=vs.length:=Paired.length r
   exact wpAny_truthy_dict hS m (by omega) ⟨H,I.tok _,by rw [r6 r];exact q⟩
 | _=>exact (show False from e).elim
theorem vN (ha:PE X a ta) (he:∀ whole,isTrue a X.env whole=(do let v ← whole;standAt a.pos;holding [v] (truthy v))) :
  PT X a (fun σ H Q=>ta σ H fun x H'=>∃ k,CO X.K x H' k∧Q k H'):=by
 intro pins s σ H Q I h
 exact isTrue_plain (thn (ha pins s σ H _ I h) fun v s1 ⟨x,H1,I1,r1,q1⟩=>AC pins s1 σ H1 x v Q I1 r1 q1) (he _)
def Cz (b:Expr):Prop:=∀ o i,subscripted b false o i=operate [o,i] (getItem o i)
theorem kq {x:V} {us:List Value} (r:Vals [x] us):∃ u,us=[u]∧RelV x u:=by
 cases r with
 | cons r1 r2=>cases r2;exact ⟨_,rfl,r1⟩
theorem AD {x y:V} {us:List Value} (r:Vals [x,y] us):∃ u w',us=[u,w']∧RelV x u∧RelV y w':=by
 cases r with
 | cons r1 r2=>
  cases r2 with
  | cons r3 r4=>cases r4;exact ⟨_,_,rfl,r1,r3⟩
theorem tM:dz X (.type "int") (fun xs H Q=>(∃ i,xs=[.int i]∧Q (.int i) H)∨∃ k,xs=[.bl k]∧Q (.int (if k then 1 else 0)) H):=by
 intro pins s σ H xs us Q I r h
 rcases h with ⟨i,rfl,q⟩ | ⟨k,rfl,q⟩
 ·obtain ⟨u,rfl,t,rfl⟩:=kq r
  exact call_int_int ⟨.int i,H,I,⟨_,rfl⟩,q⟩
 ·obtain ⟨u,rfl,r1⟩:=kq r
  cases r1
  exact call_int_bool ⟨.int (if k then 1 else 0),H,I.tok _,⟨_,rfl⟩,q⟩
def Fp (K:PySem.W.Frag) (x:V) (H:Hp) (n:Nat):Prop:=
 match x with
 | .str y=>y.length≤sizeLine∧n=y.length
 | .byt y=>y.size≤sizeLine∧n=y.size
 | .ref p=>(∃ xs,SqL K H p xs∧n=xs.length)∨∃ xs,SqT K H p xs∧n=xs.length
 | _=>False
end
end L2
namespace L2
open PySem PySem.Spec PyProof.Rows
structure ObjM (h:Heap) (x dx C:Addr) (mA:Str→Option Value):Prop where
 obj:h.get? x=some (PySem.W.instObj C dx)
 ns:h.Ns1 dx mA
 ne:dx≠x
theorem tN {h:Heap} {dx:Addr} {mA:Str→Option Value} (n:h.Ns1 dx mA):∃ od,h.get? dx=some od∧∀ name,PySem.W.lookIn name od=some (mA name):=by
 obtain ⟨o,es,ep,ho,hd,hk,_,hm⟩:=n
 refine ⟨o,ho,fun name => ?_⟩
 have e:=hm name
 unfold nsFind findBy at e
 rw [← Array.find?_toList] at e
 unfold PySem.W.lookIn
 rw [hd]
 dsimp only
 split
 ·rename_i y q
  rw [q] at e
  exact congrArg some e
 ·rename_i q
  rw [q] at e
  have a:es.toList.any (·.refKey)=false:=by
   rw [List.any_eq_false]
   intro y hy
   obtain ⟨z,t,hkey⟩:=hk y (Array.mem_toList_iff.mp hy)
   simp [DictEntry.refKey,hkey]
  have a':¬ es.toList.any (·.refKey)=true:=by rw [a];exact Bool.false_ne_true
  rw [if_neg a']
  exact congrArg some e
theorem ObjM.look {h:Heap} {x dx C:Addr} {mA:Str→Option Value} (I:ObjM h x dx C mA):∃ od,PySem.W.InstAt h x (PySem.W.instObj C dx) C (some od)∧∀ name,PySem.W.lookIn name od=some (mA name):=
 let ⟨od,ho,hl⟩:=tN I.ns
 ⟨od,⟨I.obj,rfl,rfl,ho⟩,hl⟩
section
variable {prog:Program} {w:World} {A:Around} {E:Value→Shared→Prop} {s:Shared} {K:PySem.W.Frag} {x dx C f:Addr} {mA:Str→Option Value} {name:Str} {v:Value}
theorem yc {expr:Bool} {Q:Value→Shared→Prop} (X:K.In s.heap) (I:ObjM s.heap x dx C mA) (hg:PySem.W.plainGet K C name=true) (hh:PySem.W.hasDictIn K C=true)
  (ha:PySem.W.findIn K (.ref C) name=some none) (hv:mA name=some v) (hv':PySem.W.handedIn v=true) (h:Q v {s with toks:=s.toks+1}) :
  wpAny (model prog w) A (getAttr (.ref x) name expr) Q E s:=by
 obtain ⟨od,J,hl⟩:=I.look
 exact PySem.W.get_value X J (PySem.W.plainGet_of hg).1 (PySem.W.findObj_own hh ha rfl (by rw [hl,hv])) hv' h
theorem vO {pl:Sem Bool} {Q:Value×List Value→Shared→Prop} (X:K.In s.heap) (I:ObjM s.heap x dx C mA) (hg:PySem.W.plainGet K C name=true)
  (hf:PySem.W.findIn K (.ref C) name=some (some (.ref f))) (ht:PySem.W.isFn K (.ref f)=true) (hv:mA name=none) (h:Q (.ref f,[.ref x]) s) :
  wpAny (model prog w) A (getMethod (.ref x) name pl) Q E s:=by
 obtain ⟨od,J,hl⟩:=I.look
 exact PySem.W.method_fn X J (PySem.W.plainGet_of hg).1 (PySem.W.plainGet_of hg).2 hf (beq_iff_eq.mp ht) (by show (PySem.W.lookIn name od).map (·.isSome)=some false;rw [hl,hv];rfl) h
theorem yd {ns:List Str} {Q:Unit→Shared→Prop} (X:K.In s.heap) (I:ObjM s.heap x dx C mA)
  (hs:PySem.W.findIn K (.ref C) "__setattr__" = some (some (.builtin "object.__setattr__"))) (hp:PySem.W.plainOver K C=true) (ht:PySem.W.takerIn K C name=some none) (hh:PySem.W.hasDictIn K C=true)
  (hw:PySem.Within mA ns) (hsz:ns.length≤sizeLine)
  (h:∀ h',ObjM h' x dx C (fun y=>if y=name then some v else mA y)→Heap.SameBut dx s.heap h'→Q () {s with heap:=h',toks:=s.toks+2}) :
  wpAny (model prog w) A (setAttr (.ref x) name v) Q E s:=by
 obtain ⟨od,J,hl⟩:=I.look
 refine PySem.W.set_plain X J hs (PySem.W.osa_open (s:={s with toks:=s.toks+1}) (r:=none) X J hp ht fun b => ?_)
 obtain ⟨cd,hc,hd'⟩:=PySem.W.any_some hh
 have hx:s.heap.get? x=some ⟨.ref C,some dx,.plain,#[]⟩:=I.obj
 refine wpAny_bind (wpAny_pure (wpAny_bind (wpAny_bind (wpAny_loadPart hx (wpAny_bind (PySem.W.Looks.here (s:={s with toks:=s.toks+1}) (PySem.W.looks_clsIn X hc) ?_))))))
 rw [hd']
 refine wpAny_pure (a:=some dx) (wpAny_bind (wpAny_pure (wpAny_bind ?_)))
 refine wpAny_nsSet1 (s:={s with toks:=s.toks+1}) I.ns fun h' hn2 hs2 => ?_
 obtain ⟨oD,esD,epD,hoD,hdD,hcD⟩:=hn2.count (PySem.Within.cons name v hw)
 refine wpAny_bind (wpAny_lookBehind hoD (by rw [hdD];exact pastItsLine_dict (Nat.le_trans hcD (by rw [List.length_cons];omega))) ?_)
 exact wpAny_pure (h _ ⟨(hs2.2 _ (Ne.symm I.ne)).trans I.obj,hn2,I.ne⟩ hs2)
theorem vP {R:Result→Shared→Prop} {vs:List Value} {kw:List (Str×Value)} (X:K.In s.heap) (hm:PySem.W.makesIn K C=true)
  (hi:PySem.W.findIn K (.ref C) "__init__" = some (some (.ref f))) (hf:PySem.W.typeIn K (.ref f)=some (.type "function"))
  (h:codeAny (model prog w) (A.under (.builtin "type.__call__" ⟨.ref C :: vs,kw⟩)) (.call (.ref f) ⟨.ref (s.heap.objs.size+1) :: vs,kw⟩) (PySem.W.InitBack (s.heap.objs.size+1) R)
   {s with heap:=(s.heap.push PySem.W.emptyDict).push (PySem.W.instObj C s.heap.objs.size)}) :
  codeAny (model prog w) A (.call (.ref C) ⟨vs,kw⟩) R s:=by
 obtain ⟨hh,g,d,t,os⟩:=s
 exact PySem.W.make_core (PySem.W.makes_of X hm) (PySem.W.looks_findIn X hi) (fun self=>PySem.W.bind_fn X self hf) (.inl rfl) h
end
def fg (f:Str) (v:V):List (Str×V)→List (Str×V)
 | []=>[(f,v)]
 | (g,x) :: r=>if g=f then (g,v) :: r else (g,x) :: fg f v r
theorem jC (f g:Str) (v:V):∀ fs:List (Str×V),(fg f v fs).lookup g=if g=f then some v else fs.lookup g
 | []=>by
  show List.lookup g [(f,v)]=_
  by_cases h:g=f
  ·have hb:(g == f)=true:=beq_iff_eq.mpr h
   simp only [List.lookup,hb,if_pos h]
  ·have hb:(g == f)=false:=beq_eq_false_iff_ne.mpr h
   simp only [List.lookup,hb,if_neg h]
 | (k,x) :: r=>by
  have ih:=jC f g v r
  rw [show fg f v ((k,x) :: r)=(if k=f then (k,v) :: r else (k,x) :: fg f v r) from rfl]
  by_cases hk:k=f
  ·rw [if_pos hk]
   by_cases h:g=k
   ·have hb:(g == k)=true:=beq_iff_eq.mpr h
    simp only [List.lookup,hb,if_pos (h.trans hk)]
   ·have hb:(g == k)=false:=beq_eq_false_iff_ne.mpr h
    simp only [List.lookup,hb,if_neg (fun e:g=f=>h (e.trans hk.symm))]
  ·rw [if_neg hk]
   by_cases h:g=k
   ·have hb:(g == k)=true:=beq_iff_eq.mpr h
    simp only [List.lookup,hb,if_neg (fun e:g=f=>hk (h.symm.trans e))]
   ·have hb:(g == k)=false:=beq_eq_false_iff_ne.mpr h
    simp only [List.lookup,hb]
    exact ih
theorem jD (f:Str) (v:V):∀ fs:List (Str×V),f∈(fg f v fs).map (·.1)∧∀ g,g∈fs.map (·.1)→g∈(fg f v fs).map (·.1)
 | []=>⟨by simp [fg],fun g h=>by simp at h⟩
 | (k,x) :: r=>by
  obtain ⟨i1,i2⟩:=jD f v r
  rw [show fg f v ((k,x) :: r)=(if k=f then (k,v) :: r else (k,x) :: fg f v r) from rfl]
  by_cases hk:k=f
  ·rw [if_pos hk]
   subst hk
   exact ⟨by simp,fun g h=>by simpa using h⟩
  ·rw [if_neg hk]
   refine ⟨?_,fun g h => ?_⟩
   ·rw [List.map_cons]
    exact List.mem_cons_of_mem _ i1
   ·rw [List.map_cons] at h ⊢
    rcases List.mem_cons.mp h with e | e
    ·exact List.mem_cons.mpr (.inl e)
    ·exact List.mem_cons_of_mem _ (i2 g e)
theorem jE (f:Str) (v:V):∀ fs:List (Str×V),(fg f v fs).length≤fs.length+1
 | []=>by simp [fg]
 | (k,x) :: r=>by
  have ih:=jE f v r
  rw [show fg f v ((k,x) :: r)=(if k=f then (k,v) :: r else (k,x) :: fg f v r) from rfl]
  by_cases hk:k=f
  ·rw [if_pos hk,List.length_cons,List.length_cons];omega
  ·rw [if_neg hk,List.length_cons,List.length_cons];omega
theorem RelO.some_of {v:V} {o:Option Value} (r:RelO (some v) o):∃ u,o=some u∧RelV v u:=by
 cases o with
 | none=>exact (show False from r).elim
 | some u=>exact ⟨u,rfl,r⟩
theorem RelO.none_of {o:Option Value} (r:RelO none o):o=none:=by
 cases o with
 | none=>rfl
 | some u=>exact (show False from r).elim
theorem tO {v:V} {u:Value} (r:RelV v u):PySem.W.handedIn u=true:=by
 cases v with
 | non=>cases (show u=Value.none from r);rfl
 | bl b=>cases (show u=Value.bool b from r);rfl
 | int i=>obtain ⟨t,e⟩:=(show ∃ t,u=Value.int i t from r);cases e;rfl
 | str x=>obtain ⟨t,e⟩:=(show ∃ t,u=Value.str x t from r);cases e;rfl
 | byt b=>obtain ⟨t,e⟩:=(show ∃ t,u=Value.bytes b t from r);cases e;rfl
 | flt b=>obtain ⟨t,e⟩:=(show ∃ t,u=Value.float b t from r);cases e;rfl
 | ref a=>cases (show u=Value.ref a from r);rfl
 | ty n=>cases (show u=Value.type n from r);rfl
section
variable {P:Program} {w:World} {H H':Hp} {h h':Heap} {a C dx:Addr} {fs fs':List (Str×V)}
theorem lK (hok:HOk P w H h) (e:H a=some (.ins C dx fs)):∃ mA,ObjM h a dx C mA∧(∀ f,RelO (fs.lookup f) (mA f))∧PySem.Within mA (fs.map (·.1))∧fs.length≤1000∧H dx=some (.own a):=by
 obtain ⟨d,z,ne,ob,mA,n,r,q⟩:=(show ObjOk P w H h a (.ins C dx fs) from hok a _ e)
 exact ⟨mA,⟨ob,n,ne⟩,r,q,z,d⟩
end
structure Cls (K:PySem.W.Frag) (C:Addr):Prop where
 pg:PySem.W.plainGet K C Str.empty=true
 hd:PySem.W.hasDictIn K C=true
 po:PySem.W.plainOver K C=true
 sa:PySem.W.findIn K (.ref C) "__setattr__" = some (some (.builtin "object.__setattr__"))
theorem Cls.get {K:PySem.W.Frag} {C:Addr} (c:Cls K C) (f:Str):PySem.W.plainGet K C f=true:=c.pg
def NoAttr (K:PySem.W.Frag) (C:Addr) (f:Str):Prop:=PySem.W.findIn K (.ref C) f=some none
theorem NoAttr.taker {K:PySem.W.Frag} {C:Addr} {f:Str} (n:NoAttr K C f):PySem.W.takerIn K C f=some none:=by
 unfold PySem.W.takerIn
 rw [show PySem.W.findIn K (.ref C) f=some none from n]
 rfl
structure Con (K:PySem.W.Frag) (C:Addr) (f:Str) (v:V) (u:Value):Prop where
 at_:PySem.W.findIn K (.ref C) f=some (some u)
 rel:RelV v u
 get:PySem.W.specialIn K u "__get__" = some none
 cp:PySem.W.copiedNames.contains f=false
structure Meth (K:PySem.W.Frag) (C:Addr) (m:Str) (f:Addr):Prop where
 at_:PySem.W.findIn K (.ref C) m=some (some (.ref f))
 fn:PySem.W.isFn K (.ref f)=true
 kp:PySem.W.keepIn K (.ref f)=true
section
variable {X:Cx} {pins:List (Addr×Obj)} {σ:St} {H:Hp} {s:Shared} {a C dx:Addr} {fs:List (Str×V)} {f:Str} {v:V} {A:Around} {E:Value→Shared→Prop}
theorem kS {b:Bool} {Q:Value→Shared→Prop} (I:Inv X pins σ H s) (e:H a=some (.ins C dx fs)) (c:Cls X.K C) (n:NoAttr X.K C f) (l:fs.lookup f=some v)
  (h:∀ u s',Inv X pins σ H s'→RelV v u→Q u s'):wpAny (model X.prog X.w) A (getAttr (.ref a) f b) Q E s:=by
 obtain ⟨mA,O,r,_,_,_⟩:=lK I.hok e
 obtain ⟨u,hu,ru⟩:=RelO.some_of (v:=v) (o:=mA f) (by rw [← l];exact r f)
 exact yc I.kIn O (c.get f) c.hd n hu (tO ru) (h u _ (I.tok _) ru)
theorem kT {m:Str} {g:Addr} {pl:Sem Bool} {Q:Value×List Value→Shared→Prop} (I:Inv X pins σ H s) (e:H a=some (.ins C dx fs)) (c:Cls X.K C) (k:Meth X.K C m g) (l:fs.lookup m=none)
  (h:Q (.ref g,[.ref a]) s):wpAny (model X.prog X.w) A (getMethod (.ref a) m pl) Q E s:=by
 obtain ⟨mA,O,r,_,_,_⟩:=lK I.hok e
 have hn:mA m=none:=RelO.none_of (by rw [← l];exact r m)
 exact vO I.kIn O (c.get m) k.at_ k.fn hn h
theorem kU {y:V} {u:Value} {Q:Unit→Shared→Prop} (I:Inv X pins σ H s) (e:H a=some (.ins C dx fs)) (c:Cls X.K C) (n:NoAttr X.K C f) (hl:fs.length < 1000) (ry:RelV y u)
  (h:∀ s',Inv X pins σ (upd H a (.ins C dx (fg f y fs))) s'→Q () s'):wpAny (model X.prog X.w) A (setAttr (.ref a) f u) Q E s:=by
 obtain ⟨mA,O,r,wi,_,ho⟩:=lK I.hok e
 have hz:(fs.map (·.1)).length≤sizeLine:=by rw [List.length_map,sizeLine_eq];omega
 refine yd I.kIn O c.sa c.po n.taker c.hd wi hz fun h' O' sb=>h _ ?_
 have hd:∃ o,h'.get? dx=some o:=let ⟨o,_,_,e',_⟩:=O'.ns;⟨o,e'⟩
 refine I.write (x:=a) (e:=dx) (by rw [e];exact True.intro) (.inr ho) (fun b q hb z=>(sb.2 b hb).trans z) hd ?_
 refine ⟨by rw [aX O.ne];exact ho,?_,O.ne,O'.obj,_,O'.ns,fun g => ?_,fun g hg => ?_⟩
 ·have:=jE f y fs;omega
 ·show RelO ((fg f y fs).lookup g) (if g=f then some u else mA g)
  rw [jC]
  by_cases q:g=f
  ·rw [if_pos q,if_pos q];exact ry
  ·rw [if_neg q,if_neg q];exact r g
 ·by_cases q:g=f
  ·rw [q];exact (jD f y fs).1
  ·refine (jD f y fs).2 g (wi g fun z=>hg ?_)
   show (if g=f then some u else mA g)=none
   rw [if_neg q];exact z
theorem Inv.made (I:Inv X pins σ H s):Inv X pins σ (upd (upd H s.heap.objs.size (.own (s.heap.objs.size+1))) (s.heap.objs.size+1) (.ins C s.heap.objs.size []))
  {s with heap:=(s.heap.push PySem.W.emptyDict).push (PySem.W.instObj C s.heap.objs.size)}:=by
 have e1:(s.heap.push PySem.W.emptyDict).get? s.heap.objs.size=some PySem.W.emptyDict:=Heap.get?_push_size s.heap rfl
 have e2:((s.heap.push PySem.W.emptyDict).push (PySem.W.instObj C s.heap.objs.size)).get? (s.heap.objs.size+1)=some (PySem.W.instObj C s.heap.objs.size):=by
  have:=Heap.get?_push_size (s.heap.push PySem.W.emptyDict) (o:=PySem.W.instObj C s.heap.objs.size) rfl
  rwa [Heap.size_push] at this
 have e3:(s.heap.push PySem.W.emptyDict).Ns s.heap.objs.size (fun _=>none):=⟨PySem.W.emptyDict,#[],_,e1,rfl,(fun e he=>absurd he (by simp)),fun _=>rfl⟩
 have I1:=I.laid (a:=s.heap.objs.size) (o := .own (s.heap.objs.size+1)) (h':=s.heap.push PySem.W.emptyDict) (t':=s.toks) (fun b u q=>Heap.get?_push_of_some _ q) (Nat.le_refl _) ⟨_,e1⟩
 refine I1.laid (a:=s.heap.objs.size+1) (o := .ins C s.heap.objs.size []) (t':=s.toks) (fun b u q=>Heap.get?_push_of_some _ q) (Nat.le_of_eq (Heap.size_push _ _)) ?_
 have ne:s.heap.objs.size≠s.heap.objs.size+1:=Nat.ne_of_lt (Nat.lt_succ_self _)
 refine ⟨by rw [aX ne,bA],Nat.zero_le _,ne,e2,fun _=>none,(Heap.Ns1.of_empty e3).at fun o q=>Heap.get?_push_of_some _ q,fun _=>True.intro,fun y hy=>absurd rfl hy⟩
theorem ye {prog:Program} {w:World} {env:Env} {e:Expr} {f:Str} {pos:Pos} {s:Shared} {Q:Value→Shared→Prop} (hb:attributeBase e f env (eval e env)=eval e env)
  (h:wpAny (model prog w) A (eval e env) (fun o s₁=>wpAny (model prog w) A (getAttr o f true) Q E s₁) E s):wpAny (model prog w) A (eval (.Attribute e f pos) env) Q E s:=
 Attribute_any_ h (by rw [arm_eval_Attribute,hb])
end
def CA (K:PySem.W.Frag) (ta:TE) (f:Str):TE:=fun σ H Q=>ta σ H fun x H1=>∃ a C dx fs v,x = .ref a∧H1 a=some (.ins C dx fs)∧Cls K C∧NoAttr K C f∧fs.lookup f=some v∧Q v H1
def Fq (K:PySem.W.Frag) (ta:TE) (f:Str):TE:=fun σ H Q=>ta σ H fun x H1=>∃ a C dx fs v u,x = .ref a∧H1 a=some (.ins C dx fs)∧Cls K C∧Con K C f v u∧fs.lookup f=none∧Q v H1
def CP (K:PySem.W.Frag) (ta tv:TE) (f:Str):TS:=fun D σ H=>tv σ H fun y H1=>ta σ H1 fun x H2=>∃ a C dx fs,x = .ref a∧H2 a=some (.ins C dx fs)∧Cls K C∧NoAttr K C f∧fs.length < 1000 ∧
 D.nx σ (upd H2 a (.ins C dx (fg f y fs)))
def CQ (X:Cx) (op:Operator) (rd:V→V→Hp→VK→Prop):Prop:=
 ∀ (pins:List (Addr×Obj)) (s:Shared) (σ:St) (H:Hp) (x y:V) (u v:Value) (Q:VK),Inv X pins σ H s→RelV x u→RelV y v→rd x y H Q→wpAny (model X.prog X.w) X.A (inplaceOp op u v) (EP X pins σ Q) X.xe s
def ph (K:PySem.W.Frag) (ta tv:TE) (rd:V→V→Hp→VK→Prop) (f:Str):TS:=fun D σ H=>ta σ H fun x H1=>∃ a C dx fs v,x = .ref a∧H1 a=some (.ins C dx fs)∧Cls K C∧NoAttr K C f∧fs.lookup f=some v ∧
 tv σ H1 fun y H2=>rd v y H2 fun z H3=>∃ dx' fs',H3 a=some (.ins C dx' fs')∧fs'.length < 1000∧D.nx σ (upd H3 a (.ins C dx' (fg f z fs')))
section
variable {X:Cx} {o e value:Expr} {f:Str} {pos pos' tpos:Pos} {ta tv:TE}
theorem AE (he:PE X e ta) (hb:attributeBase e f X.env (eval e X.env)=eval e X.env):PE X (.Attribute e f pos) (CA X.K ta f):=by
 intro pins s σ H Q I h
 refine ye hb (thn (he pins s σ H _ I h) fun u s1 ⟨x,H1,I1,rx,a,C,dx,fs,v,ex,ea,c,n,l,q⟩ => ?_)
 subst ex
 obtain rfl:u=Value.ref a:=rx
 exact kS I1 ea c n l fun u' s2 I2 ru=>⟨v,H1,I2,ru,q⟩
theorem AF (ha:PE X o ta) (hv:PE X value tv) (hs:swapsWith value (some (.Attribute o f pos')) pos.line X.env=pure false):PS X (.Assign [.Attribute o f pos'] value pos) (CP X.K ta tv f):=by
 intro pins s σ H D I h
 refine plainObj_wpAny_Assign_Attribute (thn (hv pins s σ H _ I h) fun u s1 ⟨y,H1,I1,ry,q⟩=>thn (ha pins s1 σ H1 _ I1 q) fun ov s2 ⟨x,H2,I2,rx,a,C,dx,fs,ex,ea,c,n,l,q2⟩ => ?_) hs
 subst ex
 obtain rfl:ov=Value.ref a:=rx
 exact kU I2 ea c n l ry fun s3 I3=>⟨σ,_,I3,q2⟩
theorem tP {op:Operator} {rd:V→V→Hp→VK→Prop} (ha:PE X o ta) (hv:PE X value tv) (hop:CQ X op rd):PS X (.AugAssign (.Attribute o f tpos) op value pos) (ph X.K ta tv rd f):=by
 intro pins s σ H D I h
 refine wpAny_AugAssign_AttributeAny (thn (ha pins s σ H _ I h) fun ov s1 ⟨x,H1,I1,rx,a,C,dx,fs,v,ex,ea,c,n,l,q⟩ => ?_)
 subst ex
 obtain rfl:ov=Value.ref a:=rx
 refine kS I1 ea c n l fun u s2 I2 ru=>thn (hv pins s2 σ H1 _ I2 q) fun w3 s3 ⟨y,H2,I3,ry,q3⟩=>thn (hop pins s3 σ H2 v y u w3 _ I3 ru ry q3) fun w4 s4 ⟨z,H3,I4,rz,dx',fs',ea',l',q4⟩ => ?_
 exact kU I4 ea' c n l' rz fun s5 I5=>⟨σ,_,I5,q4⟩
def Ee:V→V→Hp→VK→Prop:=fun x y H Q=>∃ i j,x = .int i∧y = .int j∧Q (.int (i+j)) H
def Fs:V→V→Hp→VK→Prop:=fun x y H Q=>∃ i j,x = .int i∧y = .int j∧Q (.int (i - j)) H
theorem q9:CQ X .Add Ee:=by
 rintro pins s σ H x y u v Q I rx ry ⟨i,j,rfl,rfl,q⟩
 obtain ⟨t,rfl⟩:=(show ∃ t,u=Value.int i t from rx)
 obtain ⟨t',rfl⟩:=(show ∃ t',v=Value.int j t' from ry)
 exact PyProof.Rows.iadd_int ⟨.int (i+j),H,I.tok _,⟨_,rfl⟩,q⟩
end
section
variable {X:Cx} {pins:List (Addr×Obj)} {σ:St} {H:Hp} {s:Shared} {A:Around} {E:Value→Shared→Prop} {Q:Value→Shared→Prop} {c:Value} {b:Bool}
inductive TyOf (K:PySem.W.Frag) (H:Hp):V→Value→Prop where
 | non:TyOf K H .non (.type "NoneType")
 | bl (x:Bool):TyOf K H (.bl x) (.type "bool")
 | int (i:Int):TyOf K H (.int i) (.type "int")
 | str (x:Str):TyOf K H (.str x) (.type "str")
 | flt (x:UInt64):TyOf K H (.flt x) (.type "float")
 | lst {a:Addr} {xs:List V} (e:H a=some (.lst xs)):TyOf K H (.ref a) (.type "list")
 | frz {a:Addr} {o:Obj} {xs:List V} (e:H a=some (.frz o (.lst xs))):TyOf K H (.ref a) (.type "list")
 | tup {a:Addr} {xs:List V} (e:H a=some (.tup xs)):TyOf K H (.ref a) (.type "tuple")
 | dK {a:Addr} {kvs:List (Key×V)} (e:H a=some (.dK kvs)):TyOf K H (.ref a) (.type "dict")
 | dT {a:Addr} {kvs:List (List Key×V)} (e:H a=some (.dT kvs)):TyOf K H (.ref a) (.type "dict")
 | ins {a C dx:Addr} {fs:List (Str×V)} (e:H a=some (.ins C dx fs)) (cl:Cls K C) (ha:PySem.W.findIn K (.ref C) "__class__" = some (some (.builtin "object.__class__")))
   (hn:PySem.W.specialIn K (.builtin "object.__class__") "__get__" = some (some (.builtin "getset_descriptor.__get__"))) (htk:PySem.W.takesIn K (.builtin "object.__class__")=some true)
   (hm:PySem.W.mroIn K C (.type "object")=some true):TyOf K H (.ref a) (.ref C)
theorem tQ {x:V} {u t:Value} (I:Inv X pins σ H s) (rx:RelV x u) (ty:TyOf X.K H x t) (e:PySem.W.kitOne X.K t c=some b) (h:∀ tk,Q (.bool b) {s with toks:=tk}) :
  wpAny (model X.prog X.w) A (call (.builtin "isinstance") [u,c]) Q E s:=by
 cases ty with
 | non=>cases (show u=Value.none from rx);exact PySem.W.kia_one PySem.W.kitx_none I.kIn True.intro e (fun z=>nomatch z) h
 | bl y=>cases (show u=Value.bool y from rx);exact PySem.W.kia_one PySem.W.kitx_bool I.kIn True.intro e (fun z=>nomatch z) h
 | int i=>obtain ⟨t,q⟩:=(show ∃ t,u=Value.int i t from rx);cases q;exact PySem.W.kia_one PySem.W.kitx_int I.kIn True.intro e (fun z=>nomatch z) h
 | str y=>obtain ⟨t,q⟩:=(show ∃ t,u=Value.str y t from rx);cases q;exact PySem.W.kia_one PySem.W.kitx_str I.kIn True.intro e (fun z=>nomatch z) h
 | flt y=>obtain ⟨t,q⟩:=(show ∃ t,u=Value.float y t from rx);cases q;exact PySem.W.kia_one PySem.W.kitx_float I.kIn True.intro e (fun z=>nomatch z) h
 | @lst a xs ea=>
  cases (show u=Value.ref a from rx)
  obtain ⟨_,_,n,_,h1⟩:=(show ObjOk X.prog X.w H s.heap a (.lst xs) from I.hok a _ ea)
  exact PySem.W.kia_one PySem.W.kitx_list I.kIn ⟨_,h1,rfl⟩ e (fun z=>nomatch z) h
 | @frz a ob xs ea=>
  cases (show u=Value.ref a from rx)
  obtain ⟨_,_,_,n,_,h1⟩:=(show ObjOk X.prog X.w H s.heap a (.frz ob (.lst xs)) from I.hok a _ ea)
  exact PySem.W.kia_one PySem.W.kitx_list I.kIn ⟨_,h1,rfl⟩ e (fun z=>nomatch z) h
 | @tup a xs ea=>
  cases (show u=Value.ref a from rx)
  obtain ⟨_,_,_,p⟩:=(show ObjOk X.prog X.w H s.heap a (.tup xs) from I.hok a _ ea)
  obtain ⟨o,h1,h2,_⟩:=p
  exact PySem.W.kia_one PySem.W.kitx_tuple I.kIn ⟨o,h1,h2⟩ e (fun z=>nomatch z) h
 | @dK a kvs ea=>
  cases (show u=Value.ref a from rx)
  obtain ⟨_,_,vs,_,p⟩:=(show ObjOk X.prog X.w H s.heap a (.dK kvs) from I.hok a _ ea)
  obtain ⟨o,es,ep,h1,h2,_⟩:=p
  exact PySem.W.kia_one PySem.W.kitx_dict I.kIn ⟨o,h1,h2.1⟩ e (fun z=>nomatch z) h
 | @dT a kvs ea=>
  cases (show u=Value.ref a from rx)
  obtain ⟨_,_,xs,_,o,es,ep,h1,h2,_⟩:=(show ObjOk X.prog X.w H s.heap a (.dT kvs) from I.hok a _ ea)
  exact PySem.W.kia_one PySem.W.kitx_dict I.kIn ⟨o,h1,h2.1⟩ e (fun z=>nomatch z) h
 | @ins a C dx fs ea cl ha hn htk hm=>
  cases (show u=Value.ref a from rx)
  obtain ⟨mA,O,_⟩:=lK I.hok ea
  obtain ⟨od,J,_⟩:=O.look
  exact PySem.W.kia_one (PySem.W.kitx_own (cl.get _) cl.hd ha hn htk hm) I.kIn J e (fun z=>nomatch z) h
end
end L2
namespace L2
open PySem PySem.Spec PyProof.Rows
structure Room (k:Nat) (A:Around):Prop where
 hd:A.handled=none
 dp:A.depth+3 * k+5 < recursionLimit
 un:A.units+16 * k+200 < cLine
theorem Room.mono {j k:Nat} {A:Around} (r:Room k A) (h:j≤k):Room j A:=⟨r.hd,by have:=r.dp;omega,by have:=r.un;omega⟩
theorem Room.deeper {k:Nat} {A:Around} (r:Room (k+1) A) (env:Env):Room k (A.deeper env):=
 ⟨r.hd,by have:=r.dp;show A.depth+1+3 * k+5 < _;omega,by have:=r.un;show A.units+3+16 * k+200 < _;omega⟩
theorem sd {A:Around} {C:Addr} {us:List Value} {kw:List (Str×Value)}:(A.under (.builtin "type.__call__" ⟨.ref C :: us,kw⟩)).depth=A.depth+1:=by
 first | rfl | simp [Around.under,Code.weight,Code.isCreation,Code.isGuard,Code.isCaller,Code.frames,Code.isFrame,guardIds]
theorem sf {A:Around} {C:Addr} {us:List Value} {kw:List (Str×Value)}:(A.under (.builtin "type.__call__" ⟨.ref C :: us,kw⟩)).units=A.units+1:=by
 first | rfl | simp [Around.under,Code.cUnits,Code.frames,Code.isFrame]
theorem Room.make {k:Nat} {A:Around} (r:Room (k+1) A) (C:Addr) (us:List Value) (kw:List (Str×Value)):Room k (A.under (.builtin "type.__call__" ⟨.ref C :: us,kw⟩)):=
 ⟨r.hd,by have:=r.dp;rw [sd];omega,by have:=r.un;rw [sf];omega⟩
theorem Room.depth {k:Nat} {A:Around} (r:Room k A):A.depth < recursionLimit:=by have:=r.dp;omega
theorem Room.units {k:Nat} {A:Around} (r:Room k A):A.units+64 < cLine:=by have:=r.un;omega
def mO:TA:=fun _ H Q=>Q [] H
def kr (ta:TE) (tr:TA):TA:=fun σ H Q=>ta σ H fun x H1=>tr σ H1 fun xs H2=>Q (x :: xs) H2
section
variable {X:Cx} {e:Expr} {es:List Expr} {te:TE} {t:TA} {pos:Pos}
theorem ae:PA X [] mO:=fun _ _ _ _ H Q I h=>Calls.spliced_nil ⟨[],H,I,.nil,h⟩
theorem aa (ha:PE X e te) (hr:PA X es t) (hs:starEach (e :: es) X.env=(false,eval e X.env) :: starEach es X.env:=by rfl):PA X (e :: es) (kr te t):=by
 intro pos pins s σ H Q I h
 rw [hs]
 show wpAny _ _ (spliced ((false,eval e X.env) :: backTo pos (starEach es X.env))) _ _ s
 refine Calls.spliced_cons (thn (ha pins s σ H _ I h) fun u s1 ⟨x,H1,I1,r1,q1⟩ => ?_)
 exact thn (hr pos pins s1 σ H1 _ I1 q1) fun us s2 ⟨xs,H2,I2,r2,q2⟩=>⟨x :: xs,H2,I2,.cons r1 r2,q2⟩
def CB (t:TA):TE:=fun σ H Q=>t σ H fun xs H1=>xs.length≤sizeLine∧∀ p,H1 p=none→Q (.ref p) (upd H1 p (.tup xs))
def CC (t:TA):TE:=fun σ H Q=>t σ H fun xs H1=>xs.length≤sizeLine∧∀ p,H1 p=none→Q (.ref p) (upd H1 p (.lst xs))
theorem cH {x1} (h:PA X es t):PE X (.Tuple es x1 pos) (CB t):=by
 intro pins s σ H Q I hq
 refine wpAny_Tuple_spliced (thn (h pos pins s σ H _ I hq) fun us s1 ⟨xs,H1,I1,r,z,q⟩=>⟨by rw [← r.length];exact z,?_⟩)
 have hf:H1 s1.heap.objs.size=none:=I1.hok.fresh (Nat.le_refl _)
 refine ⟨.ref s1.heap.objs.size,upd H1 s1.heap.objs.size (.tup xs),I1.laid (t':=s1.toks) (fun b u e=>Heap.get?_push_of_some _ e) (Nat.le_refl _) ?_,rfl,q _ hf⟩
 exact ⟨z,us,r,⟨_,Heap.get?_push_size _ rfl,rfl,_,rfl⟩⟩
theorem bj (h:PA X es t):PE X (.List es pos) (CC t):=by
 intro pins s σ H Q I hq
 refine wpAny_List_spliced (thn (h pos pins s σ H _ I hq) fun us s1 ⟨xs,H1,I1,r,z,q⟩=>⟨by rw [← r.length];exact z,?_⟩)
 have hf:H1 s1.heap.objs.size=none:=I1.hok.fresh (Nat.le_refl _)
 refine ⟨.ref s1.heap.objs.size,upd H1 s1.heap.objs.size (.lst xs),I1.laid (t':=s1.toks) (fun b u e=>Heap.get?_push_of_some _ e) (Nat.le_refl _) ?_,rfl,q _ hf⟩
 exact ⟨z,us,0,r,Heap.get?_push_size _ rfl⟩
end
abbrev Sp:=List V→Hp→VK→XK→Prop
abbrev CXT:=List Env→Hp→Shared→XK→Value→Shared→Prop
structure Env0 (P:Program) (w:World) (K:PySem.W.Frag) (mg:Str→Option Value) (base:Heap) (A:Around) (outer:List Env) (s:Shared) (H:Hp):Prop where
 frames:A.frames=some outer
 mod:Mod K mg base
 bs:∀ b o,base.get? b=some o→s.heap.get? b=some o∧H b=none
 bsz:base.objs.size≤s.heap.objs.size
 funs:s.heap.FunFrames base outer
 frf:∀ b∈frs outer,H b=none
 hok:HOk P w H s.heap
 bare:AllBare s.gens
def CE (outer:List Env) (P:Program) (w:World) (H:Hp) (s:Shared) (Q:VK) (u:Value) (s':Shared):Prop:=
 ∃ v H',s'.os=s.os∧AllBare s'.gens∧Un (frs outer) [] H H' s.heap s'.heap∧HOk P w H' s'.heap∧RelV v u∧Q v H'
def CR (CX:CXT) (outer:List Env) (P:Program) (w:World) (H:Hp) (s:Shared) (Q:VK) (E:XK) (r:Result) (s':Shared):Prop:=
 match r with
 | .ok (.ret u)=>CE outer P w H s Q u s'
 | .ok _=>False
 | .error e=>CX outer H s E e s'
structure FnOk (P:Program) (w:World) (K:PySem.W.Frag) (mg:Str→Option Value) (base:Heap) (CX:CXT) (k:Nat) (f:Addr) (fd:FuncData) (ps:List Str) (sp:Sp):Prop where
 len:∀ vs H Q E,sp vs H Q E→vs.length=ps.length
 run:∀ (A:Around) (outer:List Env) (s:Shared) (H:Hp) (args:Args) (us:List Value) (vs:List V) (Q:VK) (E:XK),Room k A→Env0 P w K mg base A outer s H→BindsTo s fd args (ps.zip us)→Vals vs us→sp vs H Q E →
  codeAny (model P w) A (.call (.ref f) args) (CR CX outer P w H s Q E) s
theorem FnOk.imp {P:Program} {w:World} {K:PySem.W.Frag} {mg:Str→Option Value} {base:Heap} {CX:CXT} {k:Nat} {f:Addr} {fd:FuncData} {ps:List Str} {sp sp':Sp} (F:FnOk P w K mg base CX k f fd ps sp)
  (h:∀ vs H Q E,sp' vs H Q E→sp vs H Q E):FnOk P w K mg base CX k f fd ps sp':=
 ⟨fun vs H Q E q=>F.len vs H Q E (h _ _ _ _ q),fun A outer s H args us vs Q E hr he hb hv hs=>F.run A outer s H args us vs Q E hr he hb hv (h _ _ _ _ hs)⟩
theorem Env0.make {P:Program} {w:World} {K:PySem.W.Frag} {mg:Str→Option Value} {base:Heap} {A:Around} {outer:List Env} {s:Shared} {H:Hp} (e:Env0 P w K mg base A outer s H) (C:Addr) (us:List Value) (kw:List (Str×Value)) :
  Env0 P w K mg base (A.under (.builtin "type.__call__" ⟨.ref C :: us,kw⟩)) outer s H:=⟨by first | exact e.frames | (simpa [Around.under,Code.envs,Code.isFrame,pushEnvs] using e.frames),e.mod,e.bs,e.bsz,e.funs,e.frf,e.hok,e.bare⟩
section
variable {X:Cx} {pins:List (Addr×Obj)} {σ:St} {H:Hp} {s s':Shared}
theorem Inv.env0 (I:Inv X pins σ H s):Env0 X.prog X.w X.K X.mg X.base X.A X.stack s H:=
 ⟨I.ok.frames,I.ok.mod,I.bs,Nat.le_trans I.ok.bsz I.sz,I.stack,I.stkFree,I.hok,I.bare⟩
theorem Inv.after {Q:VK} {u:Value} (I:Inv X pins σ H s) (h:CE X.stack X.prog X.w H s Q u s'):EP X pins σ Q u s':=by
 obtain ⟨v,H',os,bare,un,hok,r,q⟩:=h
 obtain ⟨hh,g,d,t,os'⟩:=s'
 obtain rfl:os'=s.os:=os
 exact ⟨v,H',I.call (h':=hh) (g':=g) (d':=d) (t':=t) (ch:=[]) un hok bare (fun b z=>absurd z (by simp)),r,q⟩
end
def iq (sp:Sp) (dvs:List V) (E:XK) (t:TA):TE:=fun σ H Q=>t σ H fun vs H1=>sp (vs++dvs) H1 Q E
def mT (C:Addr) (m:Str) (sp:Sp) (dvs:List V) (E:XK) (ta:TE) (t:TA):TE:=fun σ H Q=>ta σ H fun x H1=>∃ a dx fs,x = .ref a∧H1 a=some (.ins C dx fs)∧fs.lookup m=none ∧
 t σ H1 fun vs H2=>sp (x :: (vs++dvs)) H2 Q E
def sg (C:Addr) (sp:Sp) (dvs:List V) (E:XK) (t:TA):TE:=fun σ H Q=>t σ H fun vs H1=>∀ x dx,H1 x=none→H1 dx=none→dx≠x →
 sp (.ref x :: (vs++dvs)) (upd (upd H1 dx (.own x)) x (.ins C dx [])) (fun v H2=>v = .non∧Q (.ref x) H2) E
def Binds (K:PySem.W.Frag) (fd:FuncData) (ps:List Str) (ds:List Value):Prop:=
 ∀ (s:Shared) (us:List Value),K.In s.heap→(us++ds).length=ps.length→BindsTo s fd ⟨us,[]⟩ (ps.zip (us++ds))
theorem Binds.all {K:PySem.W.Frag} {fd:FuncData} {ps:List Str} (h:∀ us:List Value,us.length=ps.length→bindArgs fd ⟨us,[]⟩=pure (ps.zip us)):Binds K fd ps []:=fun s us _ hl=>by
 rw [List.append_nil] at hl ⊢
 exact .of_eq (h us hl)
def cI (CX:CXT) (X:Cx) (E:XK):Prop:=∀ (pins:List (Addr×Obj)) (σ:St) (H:Hp) (s:Shared) (e:Value) (s':Shared),Inv X pins σ H s→CX X.stack H s E e s'→X.xe e s'
section
variable {X:Cx} {CX:CXT} {k:Nat} {f C:Addr} {fd:FuncData} {ps:List Str} {sp:Sp} {dvs:List V} {ds:List Value} {E:XK} {x m:Str} {p pos apos:Pos} {e o:Expr} {es:List Expr} {ta:TE} {t:TA}
theorem ra {pins:List (Addr×Obj)} {σ:St} {H:Hp} {s:Shared} {Q:VK} {us:List Value} {vs:List V} (F:FnOk X.prog X.w X.K X.mg X.base CX k f fd ps sp) (hr:Room k X.A) (hb:Binds X.K fd ps ds) (hd:Vals dvs ds) (hx:cI CX X E)
  (I:Inv X pins σ H s) (r:Vals vs us) (h:sp (vs++dvs) H Q E):wpAny (model X.prog X.w) X.A (call (.ref f) us) (EP X pins σ Q) X.xe s:=by
 have r2:Vals (vs++dvs) (us++ds):=r.append hd
 have hl:(us++ds).length=ps.length:=by rw [← r2.length];exact F.len _ _ _ _ h
 refine wpAny_call (codeAny_mono (F.run X.A X.stack s H ⟨us,[]⟩ (us++ds) (vs++dvs) Q E hr I.env0 (hb s us I.kIn hl) r2 h) fun r s' hq => ?_)
 cases r with
 | error e=>exact hx pins σ H s e s' I hq
 | ok fl=>
  cases fl with
  | ret u=>exact I.after hq
  | next=>exact False.elim hq
  | brk=>exact False.elim hq
  | cont=>exact False.elim hq
theorem yf (F:FnOk X.prog X.w X.K X.mg X.base CX k f fd ps sp) (hr:Room k X.A) (hg:Gl X x) (hm:X.mg x=some (.ref f)) (hk:PySem.W.keepIn X.K (.ref f)=true) (hb:Binds X.K fd ps ds) (hd:Vals dvs ds) (hx:cI CX X E)
  (ha:PA X (e :: es) t) (hdb:(x == ("__debug__" : Str))=false:=by decide) (he:starEach (e :: es) X.env=(false,eval e X.env) :: starEach es X.env:=by rfl) (hpl:(backTo pos (starEach es X.env)).any (·.1)=false:=by rfl) :
  PE X (.Call (.Name x p) (e :: es) [] pos) (iq sp dvs E t):=by
 intro pins s σ H Q I h
 refine wpAny_Call_Name_kw (d8 I hg hm ?_ hdb)
 refine PySem.W.callWith_K (h₀:=X.base) I.ok.mod.kin hk (thn (ha pos pins s σ H _ I h) fun us s1 ⟨vs,H1,I1,r,q⟩=>⟨I1.kIn,?_⟩) he hpl
 exact ra F hr hb hd hx I1 r q
theorem vQ (F:FnOk X.prog X.w X.K X.mg X.base CX k f fd ps sp) (hr:Room k X.A) (hg:Gl X x) (hm:X.mg x=some (.ref f)) (hk:PySem.W.keepIn X.K (.ref f)=true) (hb:Binds X.K fd ps ds) (hd:Vals dvs ds) (hx:cI CX X E)
  (hdb:(x == ("__debug__" : Str))=false:=by decide):PE X (.Call (.Name x p) [] [] pos) (iq sp dvs E mO):=by
 intro pins s σ H Q I h
 refine wpAny_Call_Name_kw (d8 I hg hm ?_ hdb)
 exact PySem.W.callWith_K0 I.kIn hk (ra (us:=[]) F hr hb hd hx I .nil h)
theorem yg {pl:Sem Bool} (he:PE X o ta) (c:Cls X.K C) (hm:Meth X.K C m f) (F:FnOk X.prog X.w X.K X.mg X.base CX k f fd ps sp) (hr:Room k X.A) (hb:Binds X.K fd ps ds) (hd:Vals dvs ds) (hx:cI CX X E) (ha:PA X (e :: es) t)
  (hst:starEach (e :: es) X.env=(false,eval e X.env) :: starEach es X.env:=by rfl) (hpl:(backTo pos (starEach es X.env)).any (·.1)=false:=by rfl)
  (ht:eval (.Call (.Attribute o m apos) (e :: es) [] pos) X.env=(do
   let ov ← eval o X.env
   standAt apos.atName
   let (f,first) ← holding [ov] (getMethod ov m pl)
   callWith pos f first (backTo pos (starEach (e :: es) X.env)) (backToKw pos (keywordEach [] X.env))):=by rfl) :
  PE X (.Call (.Attribute o m apos) (e :: es) [] pos) (mT C m sp dvs E ta t):=by
 intro pins s σ H Q I h
 refine PySem.W.methodCall_KW (pl:=pl) (thn (he pins s σ H _ I h) fun u s1 ⟨x,H1,I1,rx,a,dx,fs,ex,ea,l,q⟩ => ?_) ht
 subst ex
 obtain rfl:u=Value.ref a:=rx
 refine kT I1 ea c hm l ?_
 refine PySem.W.callWith_K (first:=[.ref a]) (h₀:=X.base) I.ok.mod.kin hm.kp (thn (ha pos pins s1 σ H1 _ I1 q) fun us s2 ⟨vs,H2,I2,r,q2⟩=>⟨I2.kIn,?_⟩) hst hpl
 exact ra (us := .ref a :: us) (vs := .ref a :: vs) F hr hb hd hx I2 (.cons rfl r) q2
theorem vR {pl:Sem Bool} (he:PE X o ta) (c:Cls X.K C) (hm:Meth X.K C m f) (F:FnOk X.prog X.w X.K X.mg X.base CX k f fd ps sp) (hr:Room k X.A) (hb:Binds X.K fd ps ds) (hd:Vals dvs ds) (hx:cI CX X E)
  (ht:eval (.Call (.Attribute o m apos) [] [] pos) X.env=(do
   let ov ← eval o X.env
   standAt apos.atName
   let (f,first) ← holding [ov] (getMethod ov m pl)
   callWith pos f first (backTo pos (starEach [] X.env)) (backToKw pos (keywordEach [] X.env))):=by rfl) :
  PE X (.Call (.Attribute o m apos) [] [] pos) (mT C m sp dvs E ta mO):=by
 intro pins s σ H Q I h
 refine PySem.W.methodCall_KW (pl:=pl) (thn (he pins s σ H _ I h) fun u s1 ⟨x,H1,I1,rx,a,dx,fs,ex,ea,l,q⟩ => ?_) ht
 subst ex
 obtain rfl:u=Value.ref a:=rx
 refine kT I1 ea c hm l ?_
 exact PySem.W.callWith_K0 (first:=[.ref a]) I1.kIn hm.kp (ra (us:=[.ref a]) (vs:=[.ref a]) F hr hb hd hx I1 (.cons rfl .nil) q)
structure Mk (K:PySem.W.Frag) (C f:Addr):Prop where
 makes:PySem.W.makesIn K C=true
 init:PySem.W.findIn K (.ref C) "__init__" = some (some (.ref f))
 fn:PySem.W.isFn K (.ref f)=true
 kp:PySem.W.keepIn K (.ref C)=true
theorem rb {pins:List (Addr×Obj)} {σ:St} {H:Hp} {s:Shared} {Q:VK} {us:List Value} {vs:List V} (M:Mk X.K C f) (F:FnOk X.prog X.w X.K X.mg X.base CX k f fd ps sp) (hr:Room (k+1) X.A) (hb:Binds X.K fd ps ds) (hd:Vals dvs ds)
  (hx:cI CX X E) (I:Inv X pins σ H s) (r:Vals vs us)
  (h:∀ x dx,H x=none→H dx=none→dx≠x→sp (.ref x :: (vs++dvs)) (upd (upd H dx (.own x)) x (.ins C dx [])) (fun v H2=>v = .non∧Q (.ref x) H2) E) :
  wpAny (model X.prog X.w) X.A (call (.ref C) us) (EP X pins σ Q) X.xe s:=by
 have hq:=h (s.heap.objs.size+1) s.heap.objs.size (I.hok.fresh (Nat.le_succ _)) (I.hok.fresh (Nat.le_refl _)) (Nat.ne_of_lt (Nat.lt_succ_self _))
 have I2:=Inv.made (C:=C) I
 have r2:Vals (V.ref (s.heap.objs.size+1) :: (vs++dvs)) (Value.ref (s.heap.objs.size+1) :: (us++ds)) := .cons rfl (r.append hd)
 have hl:(Value.ref (s.heap.objs.size+1) :: us++ds).length=ps.length:=by
  have e:=r2.length
  rw [F.len _ _ _ _ hq] at e
  exact e.symm
 refine wpAny_call (vP (f:=f) I.kIn M.makes M.init (beq_iff_eq.mp M.fn) (codeAny_mono (F.run _ X.stack _ _ ⟨Value.ref (s.heap.objs.size+1) :: us,[]⟩ (Value.ref (s.heap.objs.size+1) :: (us++ds)) _ _ E (hr.make C us [])
  (I2.env0.make C us []) (hb _ (Value.ref (s.heap.objs.size+1) :: us) I2.kIn hl) r2 hq) fun r s' hq' => ?_))
 cases r with
 | error e=>exact hx pins σ _ _ e s' I2 hq'
 | ok fl=>
  cases fl with
  | ret u=>
   obtain ⟨v,H',I3,rv,ev,q3⟩:=I2.after hq'
   subst ev
   exact ⟨rv,⟨V.ref (s.heap.objs.size+1),H',I3,rfl,q3⟩⟩
  | next=>exact False.elim hq'
  | brk=>exact False.elim hq'
  | cont=>exact False.elim hq'
theorem yh (M:Mk X.K C f) (F:FnOk X.prog X.w X.K X.mg X.base CX k f fd ps sp) (hr:Room (k+1) X.A) (hg:Gl X x) (hm:X.mg x=some (.ref C)) (hb:Binds X.K fd ps ds) (hd:Vals dvs ds) (hx:cI CX X E)
  (ha:PA X (e :: es) t) (hdb:(x == ("__debug__" : Str))=false:=by decide) (he:starEach (e :: es) X.env=(false,eval e X.env) :: starEach es X.env:=by rfl) (hpl:(backTo pos (starEach es X.env)).any (·.1)=false:=by rfl) :
  PE X (.Call (.Name x p) (e :: es) [] pos) (sg C sp dvs E t):=by
 intro pins s σ H Q I h
 refine wpAny_Call_Name_kw (d8 I hg hm ?_ hdb)
 refine PySem.W.callWith_K (h₀:=X.base) I.ok.mod.kin M.kp (thn (ha pos pins s σ H _ I h) fun us s1 ⟨vs,H1,I1,r,q⟩=>⟨I1.kIn,?_⟩) he hpl
 exact rb M F hr hb hd hx I1 r q
theorem vS (M:Mk X.K C f) (F:FnOk X.prog X.w X.K X.mg X.base CX k f fd ps sp) (hr:Room (k+1) X.A) (hg:Gl X x) (hm:X.mg x=some (.ref C)) (hb:Binds X.K fd ps ds) (hd:Vals dvs ds) (hx:cI CX X E)
  (hdb:(x == ("__debug__" : Str))=false:=by decide):PE X (.Call (.Name x p) [] [] pos) (sg C sp dvs E mO):=by
 intro pins s σ H Q I h
 refine wpAny_Call_Name_kw (d8 I hg hm ?_ hdb)
 exact PySem.W.callWith_K0 I.kIn M.kp (rb (us:=[]) M F hr hb hd hx I .nil h)
end
def PK (X:Cx) (kws:List Keyword) (t:TA):Prop:=
 ∀ (pos:Pos) (pins:List (Addr×Obj)) (s:Shared) (σ:St) (H:Hp) (Q:List V→Hp→Prop),Inv X pins σ H s→t σ H Q→wpAny (model X.prog X.w) X.A (evalAll ((backToKw pos (keywordEach kws X.env)).map (·.2))) (AP X pins σ Q) X.xe s
section
variable {X:Cx} {CX:CXT} {k:Nat} {f C:Addr} {fd:FuncData} {ps ks:List Str} {sp:Sp} {E:XK} {x m:Str} {p pos apos kpos:Pos} {e o:Expr} {es:List Expr} {kws:List Keyword} {te ta:TE} {t tk:TA} {nm:Option Str}
structure KBinds (K:PySem.W.Frag) (fd:FuncData) (ps ks:List Str) (g:List Value→List Value→List Value) (gV:List V→List V→List V):Prop where
 to:∀ (s:Shared) (us ws:List Value),K.In s.heap→(g us ws).length=ps.length→BindsTo s fd ⟨us,ks.zip ws⟩ (ps.zip (g us ws))
 rel:∀ {vs:List V} {us:List Value} {zs:List V} {ws:List Value},Vals vs us→Vals zs ws→Vals (gV vs zs) (g us ws)
def Ef (sp:Sp) (gV:List V→List V→List V) (E:XK) (t tk:TA):TE:=fun σ H Q=>t σ H fun vs H1=>tk σ H1 fun zs H2=>sp (gV vs zs) H2 Q E
variable {g:List Value→List Value→List Value} {gV:List V→List V→List V}
end
structure FnScope (N P:List Str) (sc:Scope):Prop where
 kind:sc.kind = .function
 co:sc.isCoroutine=false
 gen:sc.isGenerator=false
 nd:N.Nodup
 pre:N.take P.length=P
 par:∀ x∈P,sc.names.lookup x=some .local∨sc.names.lookup x=some .cell
 nofree:∀ y∈sc.names,y.2 ≠ .free
theorem mU {kindOf:Str→Option NameKind} {x:Str}:∀ {binds:List (Str×Value)} {m:Str→Option Value},(∀ v,(x,v)∉binds)→bindL kindOf binds m x=m x
 | [],_,_=>rfl
 | (n,v) :: r,m,h=>by
  unfold bindL
  rw [mU fun w hw=>h w (List.mem_cons_of_mem _ hw)]
  split
  ·have:x≠n:=by rintro rfl;exact h v List.mem_cons_self
   simp [this]
  ·rfl
theorem mV {kindOf:Str→Option NameKind} {x:Str}:∀ {binds:List (Str×Value)} {m:Str→Option Value},(∀ v,(x,v)∉binds)→bindC kindOf binds m x=m x
 | [],_,_=>rfl
 | (n,v) :: r,m,h=>by
  unfold bindC
  rw [mV fun w hw=>h w (List.mem_cons_of_mem _ hw)]
  split
  ·rfl
  ·have:x≠n:=by rintro rfl;exact h v List.mem_cons_self
   simp [this]
theorem mW {kindOf:Str→Option NameKind} {x:Str} {v:Value}:∀ {P:List Str} {vs:List Value} {i:Nat} {m:Str→Option Value},P.Nodup→P[i]? = some x→vs[i]? = some v→kindOf x=some .local →
  bindL kindOf (P.zip vs) m x=some v
 | [],_,_,_,_,h,_,_=>by simp at h
 | _ :: _,[],_,_,_,_,h,_=>by simp at h
 | p :: P,w :: vs,0,m,nd,h1,h2,hk=>by
  simp at h1 h2;subst h1;subst h2
  show bindL kindOf ((p,w) :: P.zip vs) m p=_
  unfold bindL
  rw [mU fun v hv=>(List.nodup_cons.mp nd).1 (List.of_mem_zip hv).1,if_pos hk]
  simp
 | p :: P,w :: vs,i+1,m,nd,h1,h2,hk=>by
  show bindL kindOf ((p,w) :: P.zip vs) m x=_
  unfold bindL
  exact mW (i:=i) (List.nodup_cons.mp nd).2 (by simpa using h1) (by simpa using h2) hk
theorem mX {kindOf:Str→Option NameKind} {x:Str} {v:Value}:∀ {P:List Str} {vs:List Value} {i:Nat} {m:Str→Option Value},P.Nodup→P[i]? = some x→vs[i]? = some v→kindOf x≠some .local →
  bindC kindOf (P.zip vs) m x=some v
 | [],_,_,_,_,h,_,_=>by simp at h
 | _ :: _,[],_,_,_,_,h,_=>by simp at h
 | p :: P,w :: vs,0,m,nd,h1,h2,hk=>by
  simp at h1 h2;subst h1;subst h2
  show bindC kindOf ((p,w) :: P.zip vs) m p=_
  unfold bindC
  rw [mV fun v hv=>(List.nodup_cons.mp nd).1 (List.of_mem_zip hv).1,if_neg hk]
  simp
 | p :: P,w :: vs,i+1,m,nd,h1,h2,hk=>by
  show bindC kindOf ((p,w) :: P.zip vs) m x=_
  unfold bindC
  exact mX (i:=i) (List.nodup_cons.mp nd).2 (by simpa using h1) (by simpa using h2) hk
def start (N:List Str) (vs:List V):St:=vs.map some++List.replicate (N.length - vs.length) none
def br (CX:CXT) (P:Program) (w:World) (K:PySem.W.Frag) (mg:Str→Option Value) (base:Heap) (N:List Str) (qual:Str) (scope:Scope) (f:Addr) (cd:Value) (A:Around) (outer:List Env) (s:Shared) (H:Hp) (E:XK):Cx where
 prog:=P
 w:=w
 K:=K
 mg:=mg
 base:=base
 A:=A.deeper (envOfC qual scope s.heap.objs.size f cd)
 N:=N
 s₀:=s
 H₀:=H
 env:=envOfC qual scope s.heap.objs.size f cd
 outer:=outer
 stack:=envOfC qual scope s.heap.objs.size f cd :: outer
 ex:=[]
 calm:=true
 fn:=fun _=>true
 pn:=[]
 xe:=fun e s'=>wpAny (model P w) (A.deeper (envOfC qual scope s.heap.objs.size f cd)) (leaving (envOfC qual scope s.heap.objs.size f cd) e) (fun _ s''=>CX outer H s E e s'') (fun e' s''=>CX outer H s E e' s'') s'
theorem rf {sc:Scope} {n:Nat} {x:Str} (h:sc.names.lookup x=some .cell):∃ c,(cellsFrom n sc.names []).lookup x=some c:=by
 have q:=PySem.W.cellsFrom_some sc.names n [] (.inl h)
 exact Option.isSome_iff_exists.mp q
theorem tR {CX:CXT} {P:Program} {w:World} {K:PySem.W.Frag} {mg:Str→Option Value} {base:Heap} {N ps:List Str} {qual:Str} {scope:Scope} {f:Addr} {cd:Value} {A:Around} {outer:List Env} {s s1:Shared} {H:Hp} {E:XK} {us:List Value} {vs:List V}
  (S:FnScope N ps scope) (hd:A.handled=none) (e0:Env0 P w K mg base A outer s H) (hl:vs.length=ps.length) (r:Vals vs us)
  (x:InCallC s s.heap.objs.size (bindL (envOfC qual scope s.heap.objs.size f cd).kindOf (ps.zip us) fun _=>none) (cellsFrom (s.heap.objs.size+1) scope.names []) (bindC (envOfC qual scope s.heap.objs.size f cd).kindOf (ps.zip us) fun _=>none) s1) :
  Inv (br CX P w K mg base N qual scope f cd A outer s H E) [] (start N vs) H s1:=by
 have hpl:ps.length≤N.length:=by have:=congrArg List.length S.pre;rw [List.length_take] at this;omega
 obtain ⟨h1,tk,rfl,hk⟩:=x.done
 have noA:∀ b:Addr,b∉(br CX P w K mg base N qual scope f cd A outer s H E).ex:=fun b z=>absurd (show b∈([]:List Addr) from z) (by simp)
 refine ⟨⟨e0.mod,S.kind,rfl,rfl,Nat.le_refl _,fun y z c h1 h2 => ?_,fun y hy => ?_,fun y c _ h => ?_,fun _=>hd,Around.frames_deeper e0.frames,.inr ⟨rfl,rfl⟩,fun b z=>absurd z (noA b),e0.bs,e0.bsz,fun b _ _=>noA b,fun b z=>absurd z (noA b),e0.funs,e0.frf⟩,
  rfl,e0.bare,Un.kept hk,⟨_,x.toInCall.ns,fun i y v h1 h2 h3 => ?_⟩,fun y c h=>⟨_,x.cell y c h⟩,e0.hok.fresh (Nat.le_refl _),fun y c h => ?_,fun p hp=>absurd (show p∈([]:List (Addr×Obj)) from hp) (by simp),e0.hok.kept hk,?_⟩
 ·exact name_of_addr x.apart (PySem.mem_of_lookup h1) (PySem.mem_of_lookup h2)
 ·have hy:scope.names.lookup y=some .cell∨scope.names.lookup y=some .free:=hy
  rcases hy with hy | hy
  ·exact rf hy
  ·exact absurd rfl (S.nofree _ (PySem.mem_of_lookup hy))
 ·exact Nat.le_of_lt (x.above y c (PySem.mem_of_lookup h))
 ·have hi:i < vs.length:=by
   unfold start at h2
   by_cases hi:i < vs.length
   ·exact hi
   ·rw [List.getElem?_append_right (by simpa using hi)] at h2
    rw [List.getElem?_replicate] at h2
    split at h2 <;> cases h2
  have ha:vs[i]? = some v:=by
   unfold start at h2
   rw [List.getElem?_append_left (by simpa using hi),List.getElem?_map] at h2
   cases e:vs[i]? with
   | none=>rw [e] at h2;cases h2
   | some a=>rw [e] at h2;cases h2;rfl
  obtain ⟨u,hu,rv⟩:=r.get ha
  have hp:ps[i]? = some y:=by
   rw [← S.pre,List.getElem?_take_of_lt (by omega)];exact h1
  have ndP:ps.Nodup:=by rw [← S.pre];exact S.nd.sublist (List.take_sublist _ _)
  refine ⟨u,rv,?_⟩
  rcases S.par y (List.mem_of_getElem? hp) with k | k
  ·exact .inl ⟨k,mW ndP hp hu k⟩
  ·obtain ⟨c,e⟩:=rf (n:=s.heap.objs.size+1) k
   refine .inr ⟨.inl k,c,e,?_⟩
   have q:=x.cell y c e
   rw [mX ndP hp hu (by show scope.names.lookup y≠_;rw [k];decide)] at q
   exact q
 ·exact e0.hok.fresh (Nat.le_of_lt (x.above y c (PySem.mem_of_lookup h)))
 ·unfold start
  show _=N.length
  rw [List.length_append,List.length_map,List.length_replicate]
  omega
theorem AG {CX:CXT} {P:Program} {w:World} {K:PySem.W.Frag} {mg:Str→Option Value} {base:Heap} {k:Nat} {f:Addr} {name qual:Str} {params:Arguments} {body:List Stmt} {scope:Scope} {dV kV doc pm cdv ct oc:Value} {an od:Option Addr}
  {osl:Array (Option Value)} {N ps:List Str} {sp:Sp} (lk:K.lookup f=some ⟨oc,od,.func (PySem.W.fnOf name qual params body scope dV kV doc pm an cdv ct),osl⟩) (hcd:PySem.W.codeIn K cdv qual=true) (S:FnScope N ps scope)
  (len:∀ vs H Q E,sp vs H Q E→vs.length=ps.length)
  (hbody:∀ (A:Around) (outer:List Env) (s:Shared) (H:Hp) (vs:List V) (Q:VK) (E:XK),Room k (A.deeper (envOfC qual scope s.heap.objs.size f cdv))→sp vs H Q E →
   ∃ t,PSs (br CX P w K mg base N qual scope f cdv A outer s H E) body t∧t {nx:=fun _ H'=>Q .non H',rt:=Q} (start N vs) H) :
  FnOk P w K mg base CX (k+1) f (PySem.W.fnOf name qual params body scope dV kV doc pm an cdv ct) ps sp:=by
 refine ⟨len,fun A outer s H args us vs Q E hr e0 hb r hsp => ?_⟩
 have hl:=len _ _ _ _ hsp
 have KX:K.In s.heap:=e0.mod.kin.keeps fun b o e=>(e0.bs b o e).1
 have lim:s.heap.NoLimit:=e0.mod.nolimit.keeps fun b o e=>(e0.bs b o e).1
 have hkind:∀ y∈ps.zip us,scope.names.lookup y.1=some .local∨(scope.names.lookup y.1=some .cell∧((cellsFrom (s.heap.objs.size+1) scope.names []).lookup y.1).isSome=true):=fun ⟨n,v⟩ hy=>by
  rcases S.par n (List.of_mem_zip hy).1 with q | q
  ·exact .inl q
  ·exact .inr ⟨q,PySem.W.cellsFrom_some _ _ _ (.inl q)⟩
 refine codeAny_call_function hr.depth (KX _ _ lk) rfl S.co S.gen rfl (PySem.W.codeRec_of KX hcd) (hb _ _ _ _ ?_)
 refine wpAny_newFunctionEnv_cells S.kind hkind fun env he s1 x => ?_
 subst he
 refine ⟨lim.keeps x.toInCall.keep,codeAny_func ?_⟩
 obtain ⟨t,ht,hq⟩:=hbody A outer s H vs Q E (hr.deeper _) hsp
 have I:Inv (br CX P w K mg base N qual scope f cdv A outer s H E) [] (start N vs) H s1:=tR S hr.hd e0 hl r x
 refine wpAny_mono (ht [] s1 (start N vs) H _ I hq) (fun fl s' hs => ?_) fun e s' hs=>hs
 have fin:∀ {σ':St} {H':Hp} {v:V} {u:Value},Inv (br CX P w K mg base N qual scope f cdv A outer s H E) [] σ' H' s'→RelV v u→Q v H'→CE outer P w H s Q u s':=
  fun {σ' H' v u} J rv q=>⟨v,H',J.os,J.bare,J.base,J.hok,rv,q⟩
 cases fl with
 | ret u=>
  obtain ⟨v,σ',H',J,rv,q⟩:=hs
  exact fin J rv q
 | next=>
  obtain ⟨σ',H',J,q⟩:=hs
  exact fin (v:=V.non) (u:=Value.none) J rfl q
 | brk=>
  obtain ⟨_,_,_,q⟩:=hs
  exact False.elim q
 | cont=>
  obtain ⟨_,_,_,q⟩:=hs
  exact False.elim q
end L2
namespace L2
open PySem PySem.Spec PyProof.Rows
section
variable {X:Cx} {x:Str} {p pos:Pos} {e:Expr} {es:List Expr} {t:TA} {id T:String} {r:List V→Hp→VK→Prop}
def tCB (r:List V→Hp→VK→Prop) (t:TA):TE:=fun σ H Q=>t σ H fun vs H1=>r vs H1 Q
theorem aw (hc:dz X (.builtin id) r) (hg:Gl X x) (hm:X.mg x=none) (hv:bootBuiltins x=some (.builtin id)) (ha:PA X (e :: es) t) (hn:x ≠ "__name__" := by decide) (hdb:(x == ("__debug__" : Str))=false:=by decide)
  (he:starEach (e :: es) X.env=(false,eval e X.env) :: starEach es X.env:=by rfl) (hpl:(backTo pos (starEach es X.env)).any (·.1)=false:=by rfl):PE X (.Call (.Name x p) (e :: es) [] pos) (tCB r t):=by
 intro pins s σ H Q I h
 refine wpAny_Call_Name_kw (kP I hg hm hv ?_ hn hdb)
 exact PyProof.Rows.callWith_builtin1 (thn (ha pos pins s σ H _ I h) fun us s1 ⟨vs,H1,I1,r1,q1⟩=>hc pins s1 σ H1 vs us Q I1 r1 q1) he hpl
theorem cJ (hc:dz X (.type T) r) (hg:Gl X x) (hm:X.mg x=none) (hv:bootBuiltins x=some (.type T)) (ha:PA X (e :: es) t) (hn:x ≠ "__name__" := by decide) (hdb:(x == ("__debug__" : Str))=false:=by decide)
  (he:starEach (e :: es) X.env=(false,eval e X.env) :: starEach es X.env:=by rfl) (hpl:(backTo pos (starEach es X.env)).any (·.1)=false:=by rfl):PE X (.Call (.Name x p) (e :: es) [] pos) (tCB r t):=by
 intro pins s σ H Q I h
 refine wpAny_Call_Name_kw (kP I hg hm hv ?_ hn hdb)
 exact PyProof.Rows.callWith_type1 (thn (ha pos pins s σ H _ I h) fun us s1 ⟨vs,H1,I1,r1,q1⟩=>hc pins s1 σ H1 vs us Q I1 r1 q1) he hpl
end
end L2
namespace HT
open PySem PyProof.Rows
def lexLt:List Int→List Int→Bool
 | [],[]=>false
 | [],_ :: _=>true
 | _ :: _,[]=>false
 | x :: xs,y :: ys=>if x=y then lexLt xs ys else decide (x < y)
section
open PySem.SeqAt
open PySem.AutoSeq1 (wpAny_loadPart')
open PySem.MeetsSeq PySem.MeetsSeq2 PySem.MeetsSeq3
end
section
variable {prog:Program} {w:World} {A:Around} {E:Value→Shared→Prop} {s:Shared}
def sIx (n d:Nat):Option Int→Nat
 | none=>d
 | some v=>if v < 0 then (v+(n:Int)).toNat else min v.toNat n
theorem sIx_none (n d:Nat):sIx n d none=d:=rfl
theorem sIx_nat (n d k:Nat):sIx n d (some (k:Int))=min k n:=by
 show (if (k:Int) < 0 then ((k:Int)+(n:Int)).toNat else min (k:Int).toNat n)=min k n
 rw [if_neg (by omega),Int.toNat_natCast]
end
end HT
namespace L2
open PySem PySem.Spec PyProof.Rows
abbrev TO:=St→Hp→(Option Int→Hp→Prop)→Prop
def PO (X:Cx) (e:Option Expr) (t:TO):Prop:=
 ∀ (pins:List (Addr×Obj)) (s:Shared) (σ:St) (H:Hp) (Q:Option Int→Hp→Prop),Inv X pins σ H s→t σ H Q →
  wpAny (model X.prog X.w) X.A (evalPart e X.env) (fun u s'=>∃ o H',Inv X pins σ H' s'∧IsPart u o∧Q o H') X.xe s
def tS:TO:=fun _ H Q=>Q none H
def AH (t:TE):TO:=fun σ H Q=>t σ H fun x H1=>∃ i,x = .int i∧Q (some i) H1
theorem kW {ns:List Int}:∀ {us:List Value},Vals (ns.map V.int) us→IntsAre us ns:=by
 induction ns with
 | nil=>intro us r;rw [List.map_nil] at r;cases r;exact .nil
 | cons n ns ih=>
  intro us r
  rw [List.map_cons] at r
  cases r with
  | cons r1 r2=>
   obtain ⟨t,e⟩:=r1
   subst e
   exact .cons n t (ih r2)
section
variable {X:Cx} {e:Expr} {te:TE} {lo hi:Option Expr} {tl th:TO} {pos p2:Pos}
theorem cO:PO X none tS:=by
 intro pins s σ H Q I h
 rw [evalPart_none]
 exact wpAny_pure ⟨none,H,I,.none,h⟩
theorem bo (h:PE X e te):PO X (some e) (AH te):=by
 intro pins s σ H Q I hw
 rw [evalPart_some]
 refine thn (h pins s σ H _ I hw) fun u s1 ⟨x,H1,I1,r1,q1⟩ => ?_
 obtain ⟨i,rfl,q⟩:=q1
 obtain ⟨t,rfl⟩:=r1
 exact ⟨some i,H1,I1,.int i t,q⟩
def SlR (X:Cx) (r:V→Option Int→Option Int→Hp→VK→Prop):Prop:=
 ∀ (pins:List (Addr×Obj)) (s:Shared) (σ:St) (H:Hp) (x:V) (v vl vu:Value) (lo hi:Option Int) (sl:Addr) (Q:VK),Inv X pins σ H s→RelV x v→s.heap.IsSliceOf sl vl vu .none→IsPart vl lo→IsPart vu hi→r x lo hi H Q →
  ∃ T id,typeLookup (.type T) "__getitem__" = pure (some (.builtin id))∧s.TypeIs v T∧wpAny (model X.prog X.w) X.A (getItem v (.ref sl)) (EP X pins σ Q) X.xe s
def tSl (r:V→Option Int→Option Int→Hp→VK→Prop) (te:TE) (tl th:TO):TE:=fun σ H Q=>te σ H fun x H1=>tl σ H1 fun l H2=>th σ H2 fun u H3=>r x l u H3 Q
theorem bt {r:V→Option Int→Option Int→Hp→VK→Prop} (hr:SlR X r) (he:PE X e te) (hl:PO X lo tl) (hu:PO X hi th):PE X (.Subscript e (.Slice lo hi none p2) pos) (tSl r te tl th):=by
 intro pins s σ H Q I h
 refine Subscript_ (thn (he pins s σ H _ I h) fun v s1 ⟨x,H1,I1,r1,q1⟩ => ?_)
 refine wpAny_Slice (thn (hl pins s1 σ H1 _ I1 q1) fun vl s2 ⟨l,H2,I2,pl,q2⟩=>thn (hu pins s2 σ H2 _ I2 q2) fun vu s3 ⟨u,H3,I3,pu,q3⟩ => ?_)
 rw [evalPart_none]
 refine wpAny_pure ?_
 have I4:Inv X pins σ H3 {s3 with heap:=s3.heap.push {cls := .type "slice",data := .fields #[vl,vu,.none]}}:=I3.kept (t':=s3.toks) fun b ob q=>Heap.get?_push_of_some _ q
 obtain ⟨T,id,hT,ht,hg⟩:=hr pins {s3 with heap:=s3.heap.push {cls := .type "slice",data := .fields #[vl,vu,.none]}} σ H3 x v vl vu l u s3.heap.objs.size Q I4 r1 (Heap.IsSliceOf.new ..) pl pu q3
 show wpAny (model X.prog X.w) X.A (subscriptTail e (.Slice lo hi none p2) v (.ref s3.heap.objs.size)) (EP X pins σ Q) X.xe {s3 with heap:=s3.heap.push {cls := .type "slice",data := .fields #[vl,vu,.none]}}
 exact tail_any (ops:=[.ref s3.heap.objs.size,v]) ht hT hg (by with_unfolding_all rfl)
def jF (xs:List V) (lo hi:Option Int):List V:=(xs.drop (HT.sIx xs.length 0 lo)).take (HT.sIx xs.length xs.length hi - HT.sIx xs.length 0 lo)
theorem pj (xs:List V) (lo hi:Option Int):(jF xs lo hi).length≤xs.length:=by
 unfold jF
 rw [List.length_take,List.length_drop]
 omega
def Ft (K:PySem.W.Frag):V→Option Int→Option Int→Hp→VK→Prop:=fun x lo hi H Q=>∃ a xs,x = .ref a∧SqT K H a xs ∧
 ¬ (HT.sIx xs.length 0 lo=0∧HT.sIx xs.length xs.length hi=xs.length)∧∀ p,H p=none→Q (.ref p) (upd H p (.tup (jF xs lo hi)))
def Fu (K:PySem.W.Frag):R2:=fun x y H Q=>∃ a b ns ms,x = .ref a∧y = .ref b∧SqT K H a (ns.map V.int)∧SqT K H b (ms.map V.int)∧Q (.bl (HT.lexLt ns ms)) H
def ET (K:PySem.W.Frag):R2:=fun x y H Q=>∃ a b xs ys,x = .ref a∧y = .ref b∧SqT K H a xs∧SqT K H b ys∧xs≠[]∧xs.length+ys.length≤sizeLine ∧
 (ys=[]→Q (.ref a) H)∧(ys≠[]→∀ p,H p=none→Q (.ref p) (upd H p (.tup (xs++ys))))
end
end L2
namespace L2
open PySem PySem.Spec PyProof.Rows
def ixN (n:Nat) (i:Int):Option Nat:=if 0≤i then (if i < n then some i.toNat else none) else if -(n:Int)≤i then some (i+n).toNat else none
def atI {α:Type} (xs:List α) (i:Int):Option α:=(ixN xs.length i).bind fun j=>xs[j]?
theorem tT {n:Nat} {i:Int} {j:Nat} (h:ixN n i=some j):seqIndex? i n=some j∧j < n ∧ -(n:Int)≤i∧i < n:=by
 unfold ixN at h
 by_cases h0:0≤i
 ·rw [if_pos h0] at h
  by_cases h1:i < n
  ·rw [if_pos h1] at h
   have e:i.toNat=j:=Option.some.inj h
   exact ⟨by rw [seqIndex_of h0 h1,e],by omega,by omega,h1⟩
  ·rw [if_neg h1] at h;cases h
 ·rw [if_neg h0] at h
  by_cases h1 : -(n:Int)≤i
  ·rw [if_pos h1] at h
   have e:(i+n).toNat=j:=Option.some.inj h
   exact ⟨by rw [seqIndex_neg (by omega) h1,e],by omega,h1,by omega⟩
  ·rw [if_neg h1] at h;cases h
theorem tU {α:Type} {xs:List α} {i:Int} {v:α} (h:atI xs i=some v):∃ j,seqIndex? i xs.length=some j∧xs[j]? = some v∧j < xs.length ∧ -(xs.length:Int)≤i∧i < xs.length:=by
 unfold atI at h
 cases e:ixN xs.length i with
 | none=>rw [e] at h;cases h
 | some j=>
  rw [e] at h
  obtain ⟨h1,h2,h3,h4⟩:=tT e
  exact ⟨j,h1,h,h2,h3,h4⟩
theorem dE {α:Type} {xs:List α} {j:Nat} {v:α} (h:xs[j]? = some v):atI xs (j:Int)=some v:=by
 have hj:j < xs.length:=(List.getElem?_eq_some_iff.mp h).1
 have e:ixN xs.length (j:Int)=some j:=by
  unfold ixN
  rw [if_pos (by omega),if_pos (by omega)];simp
 unfold atI;rw [e];exact h
theorem vT {α:Type} (xs:List α) (v:α):atI (xs++[v]) (-1)=some v:=by
 have hl:(xs++[v]).length=xs.length+1:=by simp
 have e:ixN (xs++[v]).length (-1)=some xs.length:=by
  unfold ixN
  rw [hl,if_neg (by decide),if_pos (by omega)]
  congr 1
  omega
 unfold atI
 rw [e]
 show (xs++[v])[xs.length]? = some v
 simp
def yi (b:Expr):Prop:=∀ o i,subscripted b false o i=operate [o,i] (getItem o i)
def IxR (X:Cx) (r:R2):Prop:=
 ∀ (value slice:Expr) (pins:List (Addr×Obj)) (s:Shared) (σ:St) (H:Hp) (x y:V) (v u:Value) (Q:VK),Inv X pins σ H s→RelV x v→RelV y u→r x y H Q →
  subscripted slice false v u=operate [v,u] (getItem v u)→wpAny (model X.prog X.w) X.A (subscriptTail value slice v u) (EP X pins σ Q) X.xe s
def MtR (X:Cx) (id:String) (r:V→List V→Hp→VK→Prop):Prop:=
 ∀ (pins:List (Addr×Obj)) (s:Shared) (σ:St) (H:Hp) (x:V) (xs:List V) (v:Value) (us:List Value) (Q:VK),Inv X pins σ H s→RelV x v→Vals xs us→r x xs H Q →
  wpAny (model X.prog X.w) X.A (call (.builtin id) (v :: us)) (EP X pins σ Q) X.xe s
section
variable {X:Cx} {a b:Expr} {ta tb:TE} {pos:Pos}
theorem bh {r:R2} (hr:IxR X r) (ha:PE X a ta) (hb:PE X b tb) (hs:yi b):PE X (.Subscript a b pos) (tOp r ta tb):=by
 intro pins s σ H Q I h
 exact Subscript_ (CN ha hb I h fun v u s2 x y H2 I2 rx ry q=>hr a b pins s2 σ H2 x y v u Q I2 rx ry q (hs _ _))
def AI (K:PySem.W.Frag):R2:=fun x y H Q=>∃ p xs i v,x = .ref p∧y = .int i∧SqL K H p xs∧atI xs i=some v∧Q v H
def yj (K:PySem.W.Frag):R2:=fun x y H Q=>∃ p xs i v,x = .ref p∧y = .int i∧SqT K H p xs∧atI xs i=some v∧Q v H
def EU:R2:=fun x y H Q=>∃ z i c,x = .str z∧y = .int i∧z.length≤sizeLine∧atI z.cps.toList i=some c∧Q (.str ⟨#[c]⟩) H
theorem yk:IxR X (AI X.K):=by
 intro value slice pins s σ H x y v u Q I rx ry h hs
 obtain ⟨p,xs,i,z,rfl,rfl,hq,he,q⟩:=h
 cases rx
 obtain ⟨t,rfl⟩:=ry
 obtain ⟨its,r,pl,hz⟩:=I.list hq
 obtain ⟨j,h1,h2,h3,h4,h5⟩:=tU he
 obtain ⟨w,ew,rw'⟩:=r.get h2
 have hl:=r.length
 have hn:=mS
 have fin:EP X pins σ Q w s:=⟨z,H,I,rw',q⟩
 by_cases h0:0≤i
 ·have hj:i.toNat=j:=by
   rw [seqIndex_of h0 h5] at h1
   exact Option.some.inj h1
  exact item_listR pl.isList h0 (by omega) (by rw [hj];simpa using ew) fin hs
 ·have hj:(i+(its.toArray.size:Int)).toNat=j:=by
   rw [seqIndex_neg (by omega) h4] at h1
   rw [List.size_toArray,← hl]
   exact Option.some.inj h1
  exact subscriptTail_builtinR (x:=w) pl.isList.typeIs slot_list_getitem.lookup
   (wpAny_getItem_list_neg (Q:=fun r s'=>r=w∧EP X pins σ Q r s') pl.isList (by omega) (by rw [List.size_toArray] <;> omega) (by omega) (by rw [hj];simpa using ew) ⟨rfl,fin⟩) hs
theorem AJ:IxR X (yj X.K):=by
 intro value slice pins s σ H x y v u Q I rx ry h hs
 obtain ⟨p,xs,i,z,rfl,rfl,hq,he,q⟩:=h
 cases rx
 obtain ⟨t,rfl⟩:=ry
 obtain ⟨its,r,pl,hz⟩:=I.tuple hq
 obtain ⟨j,h1,h2,h3,h4,h5⟩:=tU he
 obtain ⟨w,ew,rw'⟩:=r.get h2
 have hl:=r.length
 have hn:=mS
 have fin:EP X pins σ Q w s:=⟨z,H,I,rw',q⟩
 exact subscriptTail_builtinR (x:=w) pl.typeIs slot_tuple_getitem.lookup
  (getItem_tuple (j:=j) (Q:=fun r s'=>r=w∧EP X pins σ Q r s') pl (by omega) (by omega) (by rw [List.size_toArray,← hl];exact h1) (by simpa using ew) ⟨rfl,fin⟩) hs
def rIx (K:PySem.W.Frag):R2:=fun x y H Q=>AI K x y H Q∨yj K x y H Q∨EU x y H Q
theorem sh (its:List Value) (n j:Nat) (u:Value):Obj.mapSeq (·.setIfInBounds j u) {cls := .type "list",data := .seq its.toArray n}={cls := .type "list",data := .seq (its.set j u).toArray n}:=by
 simp [Obj.mapSeq]
theorem Inv.lst {pins:List (Addr×Obj)} {σ:St} {H:Hp} {s:Shared} {p:Addr} {xs:List V} (I:Inv X pins σ H s) (h:H p=some (.lst xs)) :
  ∃ (its:List Value) (n:Nat),Vals xs its∧s.heap.get? p=some {cls := .type "list",data := .seq its.toArray n}∧xs.length≤sizeLine:=by
 obtain ⟨z,its,n,r,e⟩:=I.hok p _ h
 exact ⟨its,n,r,e,z⟩
theorem Inv.lstUpd {pins:List (Addr×Obj)} {σ:St} {H:Hp} {s:Shared} {p:Addr} {xs ys:List V} {its its':List Value} {n n':Nat} {f:Obj→Obj} (I:Inv X pins σ H s) (h:H p=some (.lst xs))
  (ho:s.heap.get? p=some {cls := .type "list",data := .seq its.toArray n}) (hf:f {cls := .type "list",data := .seq its.toArray n}={cls := .type "list",data := .seq its'.toArray n'}) (r:Vals ys its') (hz:ys.length≤sizeLine) (t:Nat) :
  Inv X pins σ (upd H p (.lst ys)) {s with heap:=s.heap.update p f,toks:=t}:=by
 have e:(s.heap.update p f).get? p=some {cls := .type "list",data := .seq its'.toArray n'}:=by
  rw [Heap.get?_update_self f ho (by rw [hf] <;> rfl),hf]
 refine I.write (x:=p) (e:=p) (by rw [h];trivial) (.inl rfl) (fun b u hb q=>(Heap.get?_update_other _ _ (Ne.symm hb)).trans q) ⟨_,e⟩ ?_
 exact ⟨hz,its',n',r,e⟩
def AK:V→V→V→Hp→(Hp→Prop)→Prop:=fun o i v H Q=>∃ p xs k j,o = .ref p∧i = .int k∧H p=some (.lst xs)∧ixN xs.length k=some j∧Q (upd H p (.lst (xs.set j v)))
theorem rg:D9 X AK:=by
 intro pins s σ H o i v ov iv u Q I ro ri rv h
 obtain ⟨p,xs,k,j,rfl,rfl,hp,hj,q⟩:=h
 cases ro
 obtain ⟨t,rfl⟩:=ri
 obtain ⟨its,n,r,ho,hz⟩:=I.lst hp
 obtain ⟨h1,h2,h3,h4⟩:=tT hj
 have hl:=r.length
 have hn:=mS
 have I':Inv X pins σ (upd H p (.lst (xs.set j v))) {s with heap:=s.heap.update p (Obj.mapSeq (·.setIfInBounds j u))}:=
  I.lstUpd hp ho (sh its n j u) (r.set rv j) (by rw [List.length_set];exact hz) s.toks
 by_cases h0:0≤k
 ·have hk:k.toNat=j:=by
   rw [seqIndex_of h0 h4] at h1
   exact Option.some.inj h1
  exact PySem.W.ki_setAt ho h0 (by omega) (by rw [List.size_toArray,← hl];exact h4) (by rw [hk];exact ⟨_,I',q⟩)
 ·have hk:(k+(its.toArray.size:Int)).toNat=j:=by
   rw [seqIndex_neg (by omega) h3] at h1
   rw [List.size_toArray,← hl]
   exact Option.some.inj h1
  exact PySem.W.ki_setBack ho (by omega) (by rw [List.size_toArray,← hl];exact h3) (by omega) (by rw [hk];exact ⟨_,I',q⟩)
theorem mY (lo hi:Option Int) (n:Nat):(sliceBounds lo hi none n).1=((HT.sIx n 0 lo:Nat):Int)∧(sliceBounds lo hi none n).2.1=((HT.sIx n n hi:Nat):Int)∧(sliceBounds lo hi none n).2.2=1:=by
 refine ⟨?_,?_,rfl⟩
 ·cases lo with
  | none=>simp [sliceBounds,HT.sIx]
  | some i=>
   simp only [sliceBounds,HT.sIx,Option.getD_none,show (1:Int) > 0 by decide,if_true]
   by_cases h:i < 0
   ·simp only [h,if_true] <;> omega
   ·simp only [h,if_false] <;> omega
 ·cases hi with
  | none=>simp [sliceBounds,HT.sIx]
  | some i=>
   simp only [sliceBounds,HT.sIx,Option.getD_none,show (1:Int) > 0 by decide,if_true]
   by_cases h:i < 0
   ·simp only [h,if_true] <;> omega
   ·simp only [h,if_false] <;> omega
theorem lL (its:List Value) (lo hi:Option Int):slicePick its.toArray lo hi none=((its.drop (HT.sIx its.length 0 lo)).take (HT.sIx its.length its.length hi - HT.sIx its.length 0 lo)).toArray:=by
 obtain ⟨h1,h2,h3⟩:=mY lo hi its.toArray.size
 unfold slicePick
 rw [h1,h2,h3]
 simp only [sliceRange_one,pick_run,List.size_toArray] <;> rfl
def CS (K:PySem.W.Frag):V→Option Int→Option Int→Hp→VK→Prop:=fun x lo hi H Q=>∃ a xs,x = .ref a∧SqL K H a xs∧∀ p,H p=none→Q (.ref p) (upd H p (.lst (jF xs lo hi)))
theorem yl:SlR X (CS X.K):=by
 intro pins s σ H x v vl vu lo hi sl Q I rx hs pl pu h
 obtain ⟨a,xs,rfl,hx,q⟩:=h
 cases rx
 obtain ⟨its,r,ht,hz⟩:=I.list hx
 have hlen:=r.length
 refine ⟨"list",_,slot_list_getitem.lookup,ht.isList.typeIs,?_⟩
 refine wpAny_getItem_list_slice ht.isList hs pl pu .none (by simp) ?_ (by rw [List.size_toArray] <;> omega)
 rw [lL,← hlen]
 refine ⟨.ref s.heap.objs.size,_,I.laid (t':=s.toks) (o := .lst (jF xs lo hi)) (fun b ob q=>Heap.get?_push_of_some _ q) (Nat.le_refl _) ?_,rfl,q _ (I.hok.fresh (Nat.le_refl _))⟩
 exact ⟨Nat.le_trans (pj xs lo hi) hz,_,0,(r.drop (HT.sIx xs.length 0 lo)).take (HT.sIx xs.length xs.length hi - HT.sIx xs.length 0 lo),Heap.get?_push_size _ rfl⟩
def ir:V→Bool
 | .non=>true
 | .bl _=>true
 | .int _=>true
 | .str _=>true
 | _=>false
def eqV:V→V→Bool
 | .non,.non=>true
 | .bl a,.bl b=>a == b
 | .bl a,.int b=>(if a then 1 else 0) == b
 | .int a,.bl b=>a == (if b then 1 else 0)
 | .int a,.int b=>a == b
 | .str a,.str b=>a == b
 | _,_=>false
theorem tV {A:Around} {s:Shared} {y x:V} {u v:Value} (ry:RelV y u) (rx:RelV x v) (fy:ir y=true) (fx:ir x=true):SeqAt.EqAt A s u v (eqV y x):=by
 cases y with
 | non=>
  cases ry
  cases x with
  | non=>cases rx;exact SeqAt.EqAt.same _
  | bl b=>cases rx;exact SeqAt.EqAt.none_bool b
  | int b=>obtain ⟨t,rfl⟩:=rx;exact SeqAt.EqAt.none_int b t
  | str b=>obtain ⟨t,rfl⟩:=rx;exact SeqAt.EqAt.none_str b t
  | _=>exact absurd (show false=true from fx) Bool.false_ne_true
 | bl a=>
  cases ry
  cases x with
  | non=>cases rx;exact SeqAt.EqAt.bool_none a
  | bl b=>cases rx;exact SeqAt.EqAt.bool_bool a b
  | int b=>obtain ⟨t,rfl⟩:=rx;exact SeqAt.EqAt.bool_int a b t
  | str b=>obtain ⟨t,rfl⟩:=rx;exact SeqAt.EqAt.bool_str a b t
  | _=>exact absurd (show false=true from fx) Bool.false_ne_true
 | int a=>
  obtain ⟨t',rfl⟩:=ry
  cases x with
  | non=>cases rx;exact SeqAt.EqAt.int_none a t'
  | bl b=>cases rx;exact SeqAt.EqAt.int_bool a t' b
  | int b=>obtain ⟨t,rfl⟩:=rx;exact SeqAt.EqAt.int_int a t' b t
  | str b=>obtain ⟨t,rfl⟩:=rx;exact SeqAt.EqAt.int_str a t' b t
  | _=>exact absurd (show false=true from fx) Bool.false_ne_true
 | str a=>
  obtain ⟨t',rfl⟩:=ry
  cases x with
  | non=>cases rx;exact SeqAt.EqAt.str_none a t'
  | bl b=>cases rx;exact SeqAt.EqAt.str_bool a t' b
  | int b=>obtain ⟨t,rfl⟩:=rx;exact SeqAt.EqAt.str_int a t' b t
  | str b=>obtain ⟨t,rfl⟩:=rx;exact SeqAt.EqAt.str_str a t' b t
  | _=>exact absurd (show false=true from fx) Bool.false_ne_true
 | _=>exact absurd (show false=true from fy) Bool.false_ne_true
def eqU (x:V) (u:Value):Bool:=match u with
 | .none=>eqV .non x
 | .bool b=>eqV (.bl b) x
 | .int i _=>eqV (.int i) x
 | .str z _=>eqV (.str z) x
 | _=>false
theorem xz {x y:V} {u:Value} (r:RelV y u) (f:ir y=true):eqU x u=eqV y x:=by
 cases y with
 | non=>cases r;rfl
 | bl b=>cases r;rfl
 | int i=>obtain ⟨t,rfl⟩:=r;rfl
 | str z=>obtain ⟨t,rfl⟩:=r;rfl
 | _=>exact absurd (show false=true from f) Bool.false_ne_true
theorem jG {x:V}:∀ {xs:List V} {us:List Value},Vals xs us→xs.all ir=true→us.any (eqU x)=xs.any fun y=>eqV y x
 | _,_,.nil,_=>rfl
 | y :: xs,u :: us,.cons r t,f=>by
  rw [List.all_cons,Bool.and_eq_true] at f
  rw [List.any_cons,List.any_cons,xz r f.1,jG t f.2]
theorem gG {A:Around} {s:Shared} {x:V} {v:Value} (rx:RelV x v) (fx:ir x=true):∀ {xs:List V} {us:List Value},Vals xs us→xs.all ir=true→∀ u∈us,SeqAt.EqAt A s u v (eqU x u)
 | _,_,.nil,_=>fun u hu=>by cases hu
 | y :: xs,u :: us,.cons r t,f=>fun u' hu=>by
  rw [List.all_cons,Bool.and_eq_true] at f
  rcases List.mem_cons.mp hu with rfl | hu
  ·rw [xz r f.1];exact tV r rx f.1 fx
  ·exact gG rx fx t f.2 u' hu
def inV (x:V) (xs:List V):Bool:=xs.any fun y=>eqV y x
def rIn (K:PySem.W.Frag) (neg:Bool):R2:=fun x y H Q=>∃ p xs,y = .ref p∧(SqL K H p xs∨SqT K H p xs)∧ir x=true∧xs.all ir=true∧Q (.bl (if neg then !inV x xs else inV x xs)) H
theorem tW:OpR X (compareOp .In) (rIn X.K false):=by
 intro pins s σ H x y v u Q I rx ry h
 obtain ⟨p,xs,rfl,hq,fx,fs,q⟩:=h
 cases ry
 rcases hq with hq | hq
 ·obtain ⟨its,r,pl,hz⟩:=I.list hq
  refine SeqAt.in_listAt (eqU x) pl.isList (fun w hw=>gG rx fx r fs w (by simpa using hw)) ⟨.bl _,H,I,rfl,?_⟩
  rw [show its.toArray.any (eqU x)=its.any (eqU x) by simp,jG r fs]
  exact q
 ·obtain ⟨its,r,pl,hz⟩:=I.tuple hq
  refine SeqAt.in_tupleAt (eqU x) pl (fun w hw=>gG rx fx r fs w (by simpa using hw)) ⟨.bl _,H,I,rfl,?_⟩
  rw [show its.toArray.any (eqU x)=its.any (eqU x) by simp,jG r fs]
  exact q
theorem mZ:OpR X (compareOp .NotIn) (rIn X.K true):=by
 intro pins s σ H x y v u Q I rx ry h
 obtain ⟨p,xs,rfl,hq,fx,fs,q⟩:=h
 cases ry
 rcases hq with hq | hq
 ·obtain ⟨its,r,pl,hz⟩:=I.list hq
  refine SeqAt.notIn_listAt (eqU x) pl.isList (fun w hw=>gG rx fx r fs w (by simpa using hw)) ⟨.bl _,H,I,rfl,?_⟩
  rw [show its.toArray.any (eqU x)=its.any (eqU x) by simp,jG r fs]
  exact q
 ·obtain ⟨its,r,pl,hz⟩:=I.tuple hq
  refine SeqAt.notIn_tupleAt (eqU x) pl (fun w hw=>gG rx fx r fs w (by simpa using hw)) ⟨.bl _,H,I,rfl,?_⟩
  rw [show its.toArray.any (eqU x)=its.any (eqU x) by simp,jG r fs]
  exact q
theorem m7:dz X (.builtin "len") (fun xs H Q=>∃ p ys,xs=[.ref p]∧(SqL X.K H p ys∨SqT X.K H p ys)∧Q (.int ys.length) H):=by
 intro pins s σ H xs us Q I r h
 obtain ⟨p,ys,rfl,hq,q⟩:=h
 obtain ⟨u,rfl,rx⟩:=kq r
 cases rx
 have hn:=mS
 rcases hq with hq | hq
 ·obtain ⟨its,r',pl,hz⟩:=I.list hq
  have hlen:=r'.length
  exact Calls.call_len_list pl.isList (by simp only [List.size_toArray] <;> omega) ⟨.int ys.length,H,I.tok _,⟨s.toks+1,by rw [List.size_toArray,hlen]⟩,q⟩
 ·obtain ⟨its,r',pl,hz⟩:=I.tuple hq
  have hlen:=r'.length
  exact len_tuple pl (by simp only [List.size_toArray] <;> omega) ⟨.int ys.length,H,I.tok _,⟨s.toks+1,by rw [List.size_toArray,hlen]⟩,q⟩
theorem m8:dz X (.type "list") (fun xs H Q=>∃ p ys,xs=[.ref p]∧(SqL X.K H p ys∨SqT X.K H p ys)∧∀ l,H l=none→Q (.ref l) (upd H l (.lst ys))):=by
 intro pins s σ H xs us Q I r h
 obtain ⟨p,ys,rfl,hq,q⟩:=h
 obtain ⟨u,rfl,rx⟩:=kq r
 cases rx
 have fin:∀ (its:List Value),Vals ys its→ys.length≤sizeLine→∀ (h':Heap) (c':Nat),(∀ b o',s.heap.get? b=some o'→h'.get? b=some o') →
   h'.get? s.heap.objs.size=some {cls := .type "list",dict:=none,data := .seq its.toArray c',slots:=#[]}→EP X pins σ Q (.ref s.heap.objs.size) {s with heap:=h'}:=fun its r' hz h' c' kp e=>
  ⟨.ref s.heap.objs.size,_,I.laid (t':=s.toks) kp (Nat.le_refl _) (show ObjOk X.prog X.w _ h' _ (.lst ys) from ⟨hz,its,c',r',e⟩),rfl,q _ (I.hok.fresh (Nat.le_refl _))⟩
 rcases hq with hq | hq
 ·obtain ⟨its,r',pl,hz⟩:=I.list hq
  have hlen:=r'.length
  obtain ⟨o,ho,hc,n,hd⟩:=pl.isList
  exact call_list_seq p (.inl rfl) ho hc hd (fun h' c' kp e=>fin its r' hz h' c' kp e) (by simp only [List.size_toArray] <;> omega)
 ·obtain ⟨its,r',pl,hz⟩:=I.tuple hq
  have hlen:=r'.length
  obtain ⟨o,ho,hc,n,hd⟩:=pl
  exact call_list_seq p (.inr rfl) ho hc hd (fun h' c' kp e=>fin its r' hz h' c' kp e) (by simp only [List.size_toArray] <;> omega)
def tyV (K:PySem.W.Frag) (T:String) (x:V) (H:Hp):Prop:=match x with
 | .str _=>T = "str"
 | .int _=>T = "int"
 | .ref p=>(T = "list" ∧ ∃ xs,SqL K H p xs)∨(T = "tuple" ∧ ∃ o,K.lookup p=some o∧o.cls = .type "tuple" ∧ o.dict=none) ∨
   (T = "dict" ∧ ((∃ kvs,H p=some (.dK kvs))∨∃ kvs,H p=some (.dT kvs)))∨(T = "set" ∧ ∃ S n,H p=some (.set S n))
 | _=>False
theorem AL {pins:List (Addr×Obj)} {σ:St} {H:Hp} {s:Shared} {T:String} {x:V} {v:Value} (I:Inv X pins σ H s) (r:RelV x v) (ty:tyV X.K T x H) :
  s.TypeIs v T∧∀ a,v = .ref a→∃ ob,s.heap.get? a=some ob∧ob.dict=none:=by
 cases x with
 | str z=>
  obtain ⟨t,rfl⟩:=r
  cases (show T = "str" from ty)
  exact ⟨typeIs_str s z t,fun _ e=>nomatch e⟩
 | int i=>
  obtain ⟨t,rfl⟩:=r
  cases (show T = "int" from ty)
  exact ⟨typeIs_int s i t,fun _ e=>nomatch e⟩
 | ref p=>
  cases r
  rcases ty with ⟨rfl,xs,hq⟩ | ⟨rfl,o,hk,hc,hd⟩ | ⟨rfl,hk⟩ | ⟨rfl,S,n,hk⟩
  ·obtain ⟨its,_,pl,_⟩:=I.list hq
   refine ⟨pl.isList.typeIs,fun a e => ?_⟩
   cases e
   obtain ⟨o,n,e,c,hd,_⟩:=pl
   exact ⟨o,e,hd⟩
  ·refine ⟨⟨o,I.kIn p o hk,hc⟩,fun a e => ?_⟩
   cases e
   exact ⟨o,I.kIn _ o hk,hd⟩
  ·have z:∃ o,s.heap.get? p=some o∧o.ExactDict:=by
    rcases hk with ⟨kvs,hk⟩ | ⟨kvs,hk⟩
    ·obtain ⟨_,_,_,_,o,_,_,e,ex,_⟩:=I.hok p _ hk
     exact ⟨o,e,ex⟩
    ·obtain ⟨_,_,_,_,o,_,_,e,ex,_⟩:=I.hok p _ hk
     exact ⟨o,e,ex⟩
   obtain ⟨o,e,ex⟩:=z
   refine ⟨⟨o,e,ex.1⟩,fun a e2 => ?_⟩
   cases e2
   exact ⟨o,e,ex.2.1⟩
  ·obtain ⟨o,_,_,_,e,ex,_⟩:=I.hok p _ hk
   refine ⟨⟨o,e,ex.1⟩,fun a e2 => ?_⟩
   cases e2
   exact ⟨o,e,ex.2.1⟩
 | _=>exact False.elim ty
def Fv (K:PySem.W.Frag) (T:String) (r:V→List V→Hp→VK→Prop) (to:TE):TE:=fun σ H Q=>to σ H fun x H1=>tyV K T x H1∧r x [] H1 Q
def tBM (K:PySem.W.Frag) (T:String) (r:V→List V→Hp→VK→Prop) (to:TE) (t:TA):TE:=fun σ H Q=>to σ H fun x H1=>tyV K T x H1∧t σ H1 fun xs H2=>r x xs H2 Q
variable {o e:Expr} {es:List Expr} {to:TE} {t:TA} {name:Str} {apos cpos:Pos} {T id:String} {r:V→List V→Hp→VK→Prop}
theorem CT (pa:PlainAttrs T) (slot:Slot T name id) (hty:typeOf (.builtin id)=pure (.type "method_descriptor")) (hm:MtR X id r) (ho:PE X o to) (ha:PA X (e :: es) t)
  (hbase:attributeBase o name X.env (eval o X.env)=eval o X.env:=by rfl)
  (hfew:((backTo cpos (starEach (e :: es) X.env)).all (fun x => !x.1) && (backToKw cpos (keywordEach [] X.env)).all (fun x=>x.1.isSome)
   && decide ((e :: es).length+([]:List Keyword).length+(if ([]:List Keyword).isEmpty then 0 else 1) < 30))=true:=by rfl)
  (hline:(apos.endLine == cpos.line)=true:=by rfl) (hs:starEach (e :: es) X.env=(false,eval e X.env) :: starEach es X.env:=by rfl) (hplain:(backTo cpos (starEach es X.env)).any (·.1)=false:=by rfl) :
  PE X (.Call (.Attribute o name apos) (e :: es) [] cpos) (tBM X.K T r to t):=by
 intro pins s σ H Q I h
 refine wpAny_Call_method_late hbase hfew hline rfl (thn (ho pins s σ H _ I h) fun v s1 ⟨x,H1,I1,r1,ty,q1⟩ => ?_)
 obtain ⟨h1,h2⟩:=AL I1 r1 ty
 refine ⟨T,id,pa,slot,hty,h1,h2,?_⟩
 have hA:=ha cpos pins s1 σ H1 _ I1 q1
 rw [hs] at hA ⊢
 refine Calls.callWith_builtin (by show (false || (backTo cpos (starEach es X.env)).any (·.1))=false;rw [hplain] <;> rfl) (Calls.evalArgs_plain ?_)
 exact thn hA fun us s2 ⟨vs,H2,I2,r2,q2⟩=>hm pins s2 σ H2 x vs v us Q I2 r1 r2 q2
end
end L2
namespace L2
open PySem PySem.Spec PyProof.Rows
def MtM (X:Cx) (id:String) (r:V→List V→Hp→VK→Prop):Prop:=
 ∀ (pins:List (Addr×Obj)) (s:Shared) (σ:St) (H:Hp) (x:V) (xs:List V) (v:Value) (us:List Value) (Q:VK),Inv X pins σ H s→RelV x v→Vals xs us→r x xs H Q →
  wpAny (model X.prog X.w) X.A (call (.builtin id) (v :: us)) (EP X pins σ Q) X.xe s
theorem Vals.one:∀ {x:V} {us:List Value},Vals [x] us→∃ u,us=[u]∧RelV x u
 | _,_,.cons r .nil=>⟨_,rfl,r⟩
theorem Vals.two:∀ {x y:V} {us:List Value},Vals [x,y] us→∃ u v,us=[u,v]∧RelV x u∧RelV y v
 | _,_,_,.cons r (.cons q .nil)=>⟨_,_,rfl,r,q⟩
theorem Vals.eraseIdx:∀ {xs:List V} {us:List Value} (i:Nat),Vals xs us→Vals (xs.eraseIdx i) (us.eraseIdx i)
 | _,_,_,.nil => .nil
 | _,_,0,.cons _ t=>t
 | _,_,i+1,.cons r t => .cons r (Vals.eraseIdx i t)
theorem Vals.rep {xs:List V} {us:List Value} (h:Vals xs us):∀ k:Nat,Vals (List.replicate k xs).flatten (List.replicate k us).flatten
 | 0 => .nil
 | k+1=>by
  rw [List.replicate_succ,List.replicate_succ,List.flatten_cons,List.flatten_cons]
  exact Vals.append h (Vals.rep h k)
theorem m9 {α:Type}:∀ (l:List α) (i:Nat),(l.eraseIdx i).length≤l.length
 | [],_=>Nat.le_refl _
 | _ :: _,0=>Nat.le_succ _
 | _ :: r,i+1=>Nat.succ_le_succ (m9 r i)
theorem ng (its:List Value):∀ (k:Nat) (acc:List Value),
  List.foldl (fun x1 x2=>x1++x2) acc.toArray (List.replicate k its.toArray)=(acc++(List.replicate k its).flatten).toArray
 | 0,acc=>by simp
 | k+1,acc=>by
  have e:acc.toArray++its.toArray=(acc++its).toArray:=by simp
  have e2:(acc++its)++(List.replicate k its).flatten=acc++(List.replicate (k+1) its).flatten:=by
   rw [List.replicate_succ,List.flatten_cons,List.append_assoc]
  rw [← e2,← ng its k (acc++its),← e,List.replicate_succ,List.foldl_cons]
section
variable {X:Cx} {pins:List (Addr×Obj)} {σ:St} {H:Hp} {s:Shared} {l b:Addr} {xs ys zs:List V}
theorem Inv.lset {its its':List Value} {n:Nat} {f:Array Value→Array Value} {t':Nat} (I:Inv X pins σ H s) (hH:H l=some (.lst xs))
  (e:s.heap.get? l=some {cls := .type "list",data := .seq its.toArray n}) (hf:f its.toArray=its'.toArray) (hv:Vals ys its') (hz:ys.length≤sizeLine) :
  Inv X pins σ (upd H l (.lst ys)) {s with heap:=s.heap.update l (Obj.mapSeq f),toks:=t'}:=by
 have q:=PySem.IsL.update e f
 rw [hf] at q
 refine I.write (x:=l) (e:=l) (by rw [hH];exact trivial) (.inl rfl) (fun b' u hb hu=>(Heap.get?_update_other s.heap (Obj.mapSeq f) (Ne.symm hb)).trans hu) ⟨_,q⟩ ?_
 exact ⟨hz,its',_,hv,q⟩
theorem Inv.lnew {its:List Value} {t':Nat} (I:Inv X pins σ H s) (hv:Vals ys its) (hz:ys.length≤sizeLine) :
  Inv X pins σ (upd H s.heap.objs.size (.lst ys)) {s with heap:=s.heap.push {cls := .type "list",data := .seq its.toArray},toks:=t'}:=
 I.laid (fun _ _ q=>Heap.get?_push_of_some _ q) (Nat.le_refl _) ⟨hz,its,0,hv,Heap.get?_push_size _ rfl⟩
theorem Inv.fresh (I:Inv X pins σ H s):H s.heap.objs.size=none:=I.hok.fresh (Nat.le_refl _)
theorem Inv.lstM (I:Inv X pins σ H s) (hH:H l=some (.lst xs)):xs.length≤sizeLine∧∃ (its:List Value) (n:Nat),Vals xs its∧xs.length=its.length∧s.heap.get? l=some {cls := .type "list",data := .seq its.toArray n}:=by
 obtain ⟨z,its,n,r,e⟩:=I.hok l _ hH
 exact ⟨z,its,n,r,r.length,e⟩
theorem rh {n:Nat} (h:n≤sizeLine):Builtin.List.listTooLong n=false:=by
 unfold Builtin.List.listTooLong
 exact decide_eq_false (by omega)
end
section
variable {X:Cx}
def tX:V→List V→Hp→VK→Prop:=fun x vs H Q=>∃ l xs y,x = .ref l∧vs=[y]∧H l=some (.lst xs)∧xs.length < sizeLine∧Q .non (upd H l (.lst (xs++[y])))
theorem bN:MtM X "list.append" tX:=by
 intro pins s σ H x vs v us Q I rx rv h
 obtain ⟨l,xs,y,rfl,rfl,hH,hz,q⟩:=h
 cases rx
 obtain ⟨u,rfl,ru⟩:=rv.one
 obtain ⟨z,its,n,r,hl,e⟩:=I.lstM hH
 refine call_meets F.slot_list_append ⟨_,e,rfl⟩ F.entry_list_append (F.args_list_append_2 _ _) (PySem.list_append l its.toArray n u (by rw [List.size_toArray];omega)) ⟨e,?_⟩
 refine ⟨.non,_,I.lset (its':=its++[u]) hH e (by simp) (r.append (.cons ru .nil)) ?_,rfl,q⟩
 rw [List.length_append,List.length_singleton]
 omega
def ym:V→List V→Hp→VK→Prop:=fun x vs H Q=>∃ l b xs zs,x = .ref l∧vs=[.ref b]∧H l=some (.lst xs)∧H b=some (.lst zs)∧xs.length+zs.length≤sizeLine∧Q .non (upd H l (.lst (xs++zs)))
theorem tY:MtM X "list.extend" ym:=by
 intro pins s σ H x vs v us Q I rx rv h
 obtain ⟨l,b,xs,zs,rfl,rfl,hH,hB,hz,q⟩:=h
 cases rx
 obtain ⟨u,rfl,ru⟩:=rv.one
 cases ru
 obtain ⟨z,its,n,r,hl,e⟩:=I.lstM hH
 obtain ⟨z2,its2,n2,r2,hl2,e2⟩:=I.lstM hB
 have hsz:its.toArray.size+its2.toArray.size≤sizeLine:=by rw [List.size_toArray,List.size_toArray];omega
 have hlong:¬ (!its.toArray.isEmpty && Builtin.List.listTooLong (its.toArray.size+its2.toArray.size))=true:=by
  rw [rh hsz,Bool.and_false]
  exact Bool.false_ne_true
 refine call_meets F.slot_list_extend ⟨_,e,rfl⟩ F.entry_list_extend (F.args_list_extend_2 _ _)
  (AutoSeq1.list_extend_list_list_0 l its.toArray n b its2.toArray n2 hlong (by rw [List.size_toArray];omega) (by omega)) ⟨e,e2,?_⟩
 refine ⟨.non,_,I.lset (its':=its++its2) hH e (by simp) (r.append r2) ?_,rfl,q⟩
 rw [List.length_append]
 omega
def Fw:V→List V→Hp→VK→Prop:=fun x vs H Q=>∃ l xs y,x = .ref l∧vs=[]∧H l=some (.lst xs)∧xs[xs.length - 1]? = some y∧Q y (upd H l (.lst xs.dropLast))
def AM:V→List V→Hp→VK→Prop:=fun x vs H Q=>∃ l xs i k y,x = .ref l∧vs=[.int i]∧H l=some (.lst xs) ∧ -(2 ^ 63)≤i∧i < 2 ^ 63∧seqIndex? i xs.length=some k∧xs[k]? = some y∧Q y (upd H l (.lst (xs.eraseIdx k)))
theorem vU:MtM X "list.pop" AM:=by
 intro pins s σ H x vs v us Q I rx rv h
 obtain ⟨l,xs,i,k,y,rfl,rfl,hH,h1,h2,hk,hy,q⟩:=h
 cases rx
 obtain ⟨u,rfl,ru⟩:=rv.one
 obtain ⟨t,rfl⟩:=ru
 obtain ⟨z,its,n,r,hl,e⟩:=I.lstM hH
 obtain ⟨w,hw,rw'⟩:=r.get hy
 refine call_meets F.slot_list_pop ⟨_,e,rfl⟩ F.entry_list_pop (F.args_list_pop_2 _ _)
  (MeetsSeq.list_pop_at l its.toArray n i t k w (fitsIndex_both h1 h2) (by rw [List.size_toArray,← hl];exact hk) (by rw [← Array.getElem?_toList];exact hw) (by rw [List.size_toArray];omega)) ⟨e,?_⟩
 refine ⟨y,_,I.lset (its':=its.eraseIdx k) hH e ?_ (r.eraseIdx k) ?_,rw',q⟩
 ·show its.toArray.eraseIdxIfInBounds k=(its.eraseIdx k).toArray
  rw [List.eraseIdxIfInBounds_toArray]
 ·have:=m9 xs k
  omega
def CD:V→List V→Hp→VK→Prop:=fun x vs H Q=>∃ l xs,x = .ref l∧vs=[]∧H l=some (.lst xs)∧Q .non (upd H l (.lst xs.reverse))
def Eg:V→List V→Hp→VK→Prop:=fun x vs H Q=>∃ l xs,x = .ref l∧vs=[]∧H l=some (.lst xs)∧Q .non (upd H l (.lst []))
def Eh:R2:=fun x y H Q=>∃ l b xs zs,x = .ref l∧y = .ref b∧H l=some (.lst xs)∧H b=some (.lst zs)∧xs.length+zs.length≤sizeLine∧∀ p,H p=none→Q (.ref p) (upd H p (.lst (xs++zs)))
theorem d9:OpR X (binaryOp .Add) Eh:=by
 intro pins s σ H x y v u Q I rx ry h
 obtain ⟨l,b,xs,zs,rfl,rfl,hH,hB,hz,q⟩:=h
 cases rx
 cases ry
 obtain ⟨z,its,n,r,hl,e⟩:=I.lstM hH
 obtain ⟨z2,its2,n2,r2,hl2,e2⟩:=I.lstM hB
 refine PySem.P.add_list e e2 ?_ (by rw [List.size_toArray,List.size_toArray];omega)
 have ea:its.toArray++its2.toArray=(its++its2).toArray:=by simp
 rw [ea]
 exact ⟨.ref _,_,I.lnew (t':=s.toks) (r.append r2) (by rw [List.length_append];omega),rfl,q _ I.fresh⟩
def Ei:R2:=fun x y H Q=>∃ l k xs,x = .ref l∧y = .int k∧H l=some (.lst xs) ∧ -(2 ^ 63)≤k∧k < 2 ^ 63∧xs.length * k.toNat≤sizeLine ∧
 ∀ p,H p=none→Q (.ref p) (upd H p (.lst (List.replicate k.toNat xs).flatten))
theorem yn {α:Type} (xs:List α) (k:Nat):(List.replicate k xs).flatten.length=k * xs.length:=by
 induction k with
 | zero=>simp
 | succ k ih=>rw [List.replicate_succ,List.flatten_cons,List.length_append,ih,Nat.succ_mul,Nat.add_comm]
theorem nh:OpR X (binaryOp .Mult) Ei:=by
 intro pins s σ H x y v u Q I rx ry h
 obtain ⟨l,k,xs,rfl,rfl,hH,h1,h2,hz,q⟩:=h
 cases rx
 obtain ⟨t,rfl⟩:=ry
 obtain ⟨z,its,n,r,hl,e⟩:=I.lstM hH
 have hlen:its.toArray.size * k.toNat≤sizeLine:=by rw [List.size_toArray,← hl];exact hz
 have hcap:¬ its.toArray.size * k.toNat > (2 ^ 63 - 1) / 8:=by
  have:(sizeLine:Nat)≤(2 ^ 63 - 1) / 8:=by decide
  omega
 have hfit:¬ (!Builtin.List.listFitsIndex k)=true:=by
  rw [fitsIndex_both h1 h2]
  exact Bool.false_ne_true
 have hlong:¬ Builtin.List.listTooLong (its.toArray.size * k.toNat)=true:=by
  rw [rh hlen]
  exact Bool.false_ne_true
 have hnew:List.foldl (fun x1 x2=>x1++x2) #[] (List.replicate (if its.toArray.isEmpty=true then 0 else k.toNat) its.toArray)=(List.replicate k.toNat its).flatten.toArray:=by
  have f0:∀ m:Nat,List.foldl (fun x1 x2=>x1++x2) #[] (List.replicate m its.toArray)=(List.replicate m its).flatten.toArray:=fun m=>by
   have:=ng its m []
   rw [List.nil_append] at this
   exact this
  rw [f0]
  cases its with
  | nil=>simp
  | cons a r'=>rw [if_neg (by simp)]
 refine wpAny_binaryOp_repeat_ref (T := "list") (U := "int") (by decide) ⟨_,e,rfl⟩ (fun s'=>typeIs_int s' k t) noFill_list_mul F.fills_int_mul F.slot_int_rmul repeat_list F.slot_int_index.lookup
  (call_meets F.slot_int_rmul (typeIs_int s k t) F.entry_int_rmul (F.args_int_rmul_2 _ _) (int___rmul___int_list k t l its.toArray n)
   ⟨e,rfl,⟨_,e,rfl⟩,call_meets F.slot_list_mul ⟨_,e,rfl⟩ F.entry_list_mul (F.args_list_mul_2 _ _) (AutoListH.list___mul___list_int_3 l its.toArray n k t hfit hcap hlong) ⟨e,?_⟩⟩)
 rw [hnew]
 exact ⟨.ref _,_,I.lnew (t':=s.toks) (r.rep k.toNat) (by rw [yn,Nat.mul_comm];exact hz),rfl,q _ I.fresh⟩
end
section
variable {prog:Program} {w:World} {A:Around} {E:Value→Shared→Prop} {s:Shared}
set_option maxRecDepth 100000 in
end
section
variable {X:Cx}
end
end L2
namespace Att
open PySem PySem.W PySem.Calls PyProof.Rows
theorem jH {P:Params} {h:Heap}:∀ (ns:List Int) (vs:List Value),WellAll P h vs (ns.map WData.int)→IntsAre vs ns:=by
 intro ns
 induction ns with
 | nil=>
  intro vs w
  rw [List.map_nil] at w
  cases w
  exact .nil
 | cons n ns ih=>
  intro vs w
  rw [List.map_cons] at w
  cases w with
  | cons a b=>
   cases a
   exact .cons _ _ (ih _ b)
theorem tZ {l:OpenLaw} {n:Nat} (hn:l.most=some n) {P:Params} {h:Heap} {args:List WData} {vals:List Value}
  (hpre:l.row.toRowW.claim.pre args=true) (hwl:WellAll P h vals args) :
  ∃ a vs ns,vals=[Value.ref a]∧args=[WData.list (ns.map WData.int)]∧h.get? a=some {cls := .type "list",data := .seq vs.toArray}∧IntsAre vs ns∧ns.length≤n:=by
 have hsh:WShape.hasAll [] args [.list .int]=true:=(pre_splitW hpre).1
 have hc:l.pre.holds [] {args:=args}=true:=(pre_splitW hpre).2
 obtain ⟨d,r,rfl,h1,h2⟩:=hasAllW_cons hsh
 obtain rfl:=hasAllW_nil h2
 obtain ⟨xs,rfl,h3⟩:=hasW_list h1
 obtain ⟨ns,rfl⟩:=items_int h3
 have hlen:ns.length≤n:=by
  unfold OpenLaw.pre at hc
  have h4:(WTm.not (.lt (.lit (.int (n:Int))) (.len (.arg 0)))).holds [] {args:=[.list (ns.map .int)]}=true:=by
   have h4:=(holds_andW hc).1
   rw [hn] at h4
   exact h4
  have h5:=condW_of h4 (w_not (w_lt w_lit (w_len_list (w_arg rfl))))
  rw [List.length_map] at h5
  refine Nat.le_of_not_lt fun q => ?_
  have q':(n:Int) < ((ns.length:Nat):Int):=by omega
  first
   | (rw [decide_eq_true q'] at h5;exact absurd h5 (by decide))
   | (simp at h5;omega)
 cases hwl with
 | cons w1 w2=>
  cases w2
  cases w1 with
  | list ho hall=>exact ⟨_,_,ns,rfl,rfl,ho,jH ns _ hall,hlen⟩
theorem t0 (l:OpenLaw) (args:List WData):l.row.toRowW.claim.post args (.bool true) args=true:=
 postW_of (r:=l.row.toRowW) (X:=(true == true))
  (show WShape.has [] (.bool true) .bool=true by first | rfl | decide | simp [WShape.has,WShape.arms,WShape.armsAll])
  (show (WTm.eq .res (.lit (.bool true))).value [] {args:=args,res:=some (.bool true),after:=args}=some (.bool (true == true)) from w_eq_bool (w_res rfl) w_lit) rfl
theorem attach_call {l:OpenLaw} {n:Nat} {q:Program} {loose:List Str} {XP:(Str→Option Value)→Heap→Prop} {YP:World→Heap→Prop} {d:DefRec}
  (hn:l.most=some n) (hdf:d.params.defaults=[])
  (call:∀ (w:World) (s₀ s₁:Shared) (mg mb:Str→Option Value) (fa:Addr) (o:Obj) (pm cd doc:Value) (a:Addr) (vs:List Value) (ns:List Int),
   Ground q loose [] XP w s₀ mg mb s₁.heap→YP w s₁.heap →
   s₁.heap.get? fa=some o→o.data = .func (docDef d.name d.params d.body d.scope pm cd doc)→s₁.heap.CodeRec cd d.name→mg d.name=some (.ref fa) →
   s₁.heap.get? a=some {cls := .type "list",data := .seq vs.toArray}→IntsAre vs ns→ns.length≤n→s₁.gens=#[] →
   codeAny (model l.prog w) callerA (.call (.ref fa) ⟨[.ref a],[]⟩) (fun r s'=>r = .ok (.ret (.bool true))∧OldK s₁.heap s'.heap∧s'.os=s₁.os∧AllBare s'.gens) s₁) :
  WalkO q loose XP YP l.row.toRowW d [] (fun f vs=>PySem.call f vs):=by
 intro w s₀ s₁ mg mb G Y fa o pm cd doc dV kV ho hd hcd hD hmg hg args vals as hpre hlay hrd hwl hlo
 obtain rfl:dV = .none:=Dflts.none hD hdf
 obtain rfl:kV = .none:=Dflts.noKw hD
 obtain ⟨a,vs,ns,rfl,rfl,hobj,hints,hlen⟩:=tZ hn hpre hwl
 refine enter_call (codeAny_mono (call w s₀ s₁ mg mb fa o pm cd doc a vs ns G Y ho (fd_plain hd) hcd hmg hobj hints hlen hg) fun r s' hq => ?_)
 obtain ⟨rfl,h2,h3,h4⟩:=hq
 exact ⟨.inl ⟨.bool true,.bool true,[],rfl,fun _=>rfl,.bool true,t0 l _,fun _=>⟨List.Pairwise.nil,fun _ hm=>(nomatch hm)⟩⟩,h2,h3,h4⟩
section
variable {prog:Program} {w:World} {A:Around} {E:Value→Shared→Prop} {s:Shared} {K:Frag}
def Ej (h:Heap):Heap:={h with objs:=#[]}
def Ek (h:Heap) (L d:Addr):List (Addr×Obj):=(List.range h.objs.size).filterMap fun a=>if a=L∨a=d then none else (h.get? a).map fun o=>(a,o)
end
end Att
namespace L2
open PySem PySem.Spec PyProof.Rows
theorem ni:∀ {vs:List Value} {ns:List Int},IntsAre vs ns→Vals (ns.map V.int) vs
 | _,_,.nil => .nil
 | _,_,.cons n t h => .cons ⟨t,rfl⟩ (ni h)
def CU (H:Hp):Prop:=∀ b,H b=none∨∃ o xs,H b=some (.frz o (.lst xs))
theorem vV {P:Program} {w:World} {K:PySem.W.Frag} {mg mb:Str→Option Value} {CX:CXT} {k:Nat} {fa a:Addr} {fd:FuncData} {x:Str} {sp:Sp} {s₁:Shared} {vs:List Value} {ns:List Int}
  (KX:K.In s₁.heap) (hns:s₁.heap.Ns mainGlobals mg) (hb:s₁.heap.Ns builtinsNs mb) (hbb:∀ x:Str,x ≠ "__name__" → mb x=bootBuiltins x) (hlim:s₁.heap.NoLimit) (hg:s₁.gens=#[])
  (ha:s₁.heap.get? a=some {cls := .type "list",data := .seq vs.toArray}) (hi:IntsAre vs ns) (hl:ns.length≤sizeLine) (hr:Room k callerA)
  (F:∀ base:Heap,K.In base→base.Ns mainGlobals mg→FnOk P w K mg base CX k fa fd [x] sp) (hbind:∀ (s:Shared) (u:Value),BindsTo s fd ⟨[u],[]⟩ [(x,u)])
  (hsp:∀ H:Hp,CU H→SqL K H a (ns.map V.int)→sp [.ref a] H (fun v _=>v = .bl true) fun _ _ _=>False)
  (hCX:∀ H e s',CX [] H s₁ (fun _ _ _=>False) e s'→False) :
  codeAny (model P w) callerA (.call (.ref fa) ⟨[.ref a],[]⟩) (fun r s'=>r = .ok (.ret (.bool true))∧OldK s₁.heap s'.heap∧s'.os=s₁.os∧AllBare s'.gens) s₁:=by
 have rv:=ni hi
 have lenV:=hi.length
 have core:∀ H:Hp,CU H→SqL K H a (ns.map V.int)→HOk P w H s₁.heap→(∀ b,H b≠none→b=a)→(H a≠none→K.lookup a=none) →
   codeAny (model P w) callerA (.call (.ref fa) ⟨[.ref a],[]⟩) (fun r s'=>r = .ok (.ret (.bool true))∧OldK s₁.heap s'.heap∧s'.os=s₁.os∧AllBare s'.gens) s₁:=by
  intro H hO hS hok hA hK
  have base_of:∀ {b:Addr} {o:Obj},s₁.heap.get? b=some o→H b=none→(vI s₁.heap H).get? b=some o:=fun e n=>vJ e n
  have noA:∀ {b:Addr} {o:Obj} {es:Array DictEntry} {ep:Nat},s₁.heap.get? b=some o→o.data = .dict es ep→H b=none:=fun {b o es ep} e d=>by
   cases q:H b with
   | none=>rfl
   | some u=>
    have e':b=a:=hA b (by rw [q];simp)
    subst e'
    rw [ha] at e;cases e
    have d':Data.seq vs.toArray _=Data.dict es ep:=d
    cases d'
  have nsK:∀ {b:Addr} {m:Str→Option Value},s₁.heap.Ns b m→(vI s₁.heap H).Ns b m:=fun {b m} ⟨o,es,ep,e,d,r⟩=>⟨o,es,ep,base_of e (noA e d),d,r⟩
  have hKb:K.In (vI s₁.heap H):=fun b o e=>base_of (KX b o e) (by
   cases q:H b with
   | none=>rfl
   | some u=>
    have e':b=a:=hA b (by rw [q];simp)
    subst e'
    rw [hK (by rw [q];simp)] at e;cases e)
  have hM:Mod K mg (vI s₁.heap H):=⟨hKb,nsK hns,⟨mb,nsK hb,hbb⟩,let ⟨mc,h1,h2⟩:=hlim;⟨mc,nsK h1,h2⟩⟩
  have e0:Env0 P w K mg (vI s₁.heap H) callerA [] s₁ H:=⟨rfl,hM,fun b o e=>xT e,Nat.le_of_eq (tD _ _),trivial,fun b hb=>absurd (show b∈([]:List Addr) from hb) (by simp),hok,.of_eq hg⟩
  refine codeAny_mono ((F _ hKb (nsK hns)).run callerA [] s₁ H ⟨[.ref a],[]⟩ [.ref a] [.ref a] _ _ hr e0 (hbind s₁ (.ref a)) (.cons rfl .nil) (hsp H hO hS)) fun r s' h => ?_
  cases r with
  | error e=>exact (hCX H e s' h).elim
  | ok fl=>
   cases fl with
   | next=>exact False.elim h
   | brk=>exact False.elim h
   | cont=>exact False.elim h
   | ret u=>
    obtain ⟨v,H',os,bare,un,hok',r',q⟩:=h
    have q':v = .bl true:=q
    subst q'
    obtain rfl:u=Value.bool true:=r'
    refine ⟨rfl,OldK.of_keep fun b o e => ?_,os,bare⟩
    cases q:H b with
    | none=>exact un.keep b o e q (by intro z;exact absurd (show b∈([]:List Addr) from z) (by simp)) (by simp)
    | some u=>
     rcases hO b with z | ⟨ob,xs,z⟩
     ·rw [q] at z;cases z
     ·have z2:=un.frzs b ob _ z
      obtain ⟨e1,_⟩:=hok b _ z
      obtain ⟨e2,_⟩:=hok' b _ z2
      rw [e] at e1;cases e1
      exact e2
 cases hk:K.lookup a with
 | some o=>
  have e:=KX a o hk
  rw [ha] at e
  cases e
  refine core (fun _=>none) (fun _ => .inl rfl) (.inr ⟨_,vs.toArray,_,hk,rfl,rfl,rfl,by rw [List.size_toArray,lenV];exact hl,by simpa using rv⟩) (fun b u z=>by have z':(none:Option HO)=some u:=z;cases z') (fun b z=>absurd rfl z) fun z=>absurd rfl z
 | none=>
  refine core (fun b=>if b=a then some (.frz {cls := .type "list",data := .seq vs.toArray} (.lst (ns.map V.int))) else none) (fun b => ?_) (.inl (.inr ⟨{cls := .type "list",data := .seq vs.toArray},if_pos rfl⟩)) (fun b u z => ?_) (fun b z => ?_) fun _=>hk
  ·by_cases hb:b=a
   ·exact .inr ⟨_,_,if_pos hb⟩
   ·exact .inl (if_neg hb)
  ·by_cases hb:b=a
   ·have z':=(if_pos hb).symm.trans z
    cases z'
    subst hb
    exact ⟨ha,by rw [List.length_map];exact hl,vs,_,rv,ha⟩
   ·have z':=(if_neg hb).symm.trans z
    cases z'
  ·by_cases hb:b=a
   ·exact hb
   ·exact absurd (if_neg hb) z
end L2
namespace L2
open PySem PySem.Spec PyProof.Rows
abbrev KOf {K:PySem.W.Frag} {h:Heap} (_:K.In h):PySem.W.Frag:=K
theorem walk_of {l:PySem.W.OpenLaw} {n k:Nat} {q:Program} {loose:List Str} {XP:(Str→Option Value)→Heap→Prop} {YP:World→Heap→Prop} {d:DefRec} {K:Params→PySem.W.Frag} {CX:World→CXT} {sp:World→Sp} {x:Str}
  (hn:l.most=some n) (hn2:n≤sizeLine) (hdf:d.params.defaults=[]) (hr:Room k callerA)
  (hY:∀ (w:World) (h:Heap),YP w h→(K w.params).In h)
  (F:∀ (w:World) (mg:Str→Option Value) (fa:Addr) (h:Heap),(K w.params).In h→h.Ns mainGlobals mg→mg d.name=some (.ref fa) →
   ∃ fd:FuncData,(∀ (s:Shared) (u:Value),BindsTo s fd ⟨[u],[]⟩ [(x,u)]) ∧
    ∀ base:Heap,(K w.params).In base→base.Ns mainGlobals mg→FnOk l.prog w (K w.params) mg base (CX w) k fa fd [x] (sp w))
  (hsp:∀ (w:World) (H:Hp) (a:Addr) (ns:List Int),ns.length≤n→CU H→SqL (K w.params) H a (ns.map V.int)→sp w [.ref a] H (fun v _=>v = .bl true) fun _ _ _=>False)
  (hCX:∀ (w:World) (H:Hp) (s:Shared) (e:Value) (s':Shared),CX w [] H s (fun _ _ _=>False) e s'→False) :
  PySem.W.WalkO q loose XP YP l.row.toRowW d [] (fun f vs=>PySem.call f vs):=by
 refine Att.attach_call hn hdf fun w s₀ s₁ mg mb fa o pm cd doc a vs ns G Y ho hd hcd hmg hobj hints hlen hg => ?_
 have KX:=hY w _ Y
 obtain ⟨fd,hb,hF⟩:=F w mg fa _ KX G.T.g hmg
 exact vV KX G.T.g G.T.b G.T.builtins G.T.nolimit hg hobj hints (Nat.le_trans hlen hn2) hr hF hb (fun H hO hS=>hsp w H a ns hlen hO hS) fun H e s'=>hCX w H s₁ e s'
end L2
namespace L2
open PySem PySem.Spec PyProof.Rows
def aj (s:Stmt) (j:Nat):Stmt:=match s with
 | .ClassDef _ _ _ body _ _ _ _ _ _ _=>body.getD j (.Pass ⟨0,0,0,0⟩)
 | _ => .Pass ⟨0,0,0,0⟩
def iu (s:Stmt):Arguments:=match s with
 | .FunctionDef _ a _ _ _ _ _ _ _ _=>a
 | _=>{posonlyargs:=[],args:=[],vararg:=none,kwonlyargs:=[],kw_defaults:=[],kwarg:=none,defaults:=[]}
def cv (s:Stmt):List Stmt:=match s with
 | .FunctionDef _ _ b _ _ _ _ _ _ _=>b
 | _=>[]
def ah (s:Stmt):Scope:=match s with
 | .FunctionDef _ _ _ _ _ _ sc _ _ _=>sc
 | _=>{kind := .function,names:=[],isGenerator:=false,isCoroutine:=false}
abbrev CX0:CXT:=fun _ _ _ _ _ _=>False
abbrev E0:XK:=fun _ _ _=>False
theorem ay {X:Cx}:cI CX0 X E0:=fun _ _ _ _ _ _ _ h=>h.elim
structure Fun (K:PySem.W.Frag) (x qual:Str) (st:Stmt) (f:Addr) (fd:FuncData):Prop where
 ex:∃ (oc:Value) (od:Option Addr) (kV doc pm:Value) (an:Option Addr) (cdv ct:Value) (osl:Array (Option Value)),
  fd=PySem.W.fnOf x qual (iu st) (cv st) (ah st) .none kV doc pm an cdv ct∧K.lookup f=some ⟨oc,od,.func fd,osl⟩∧PySem.W.codeIn K cdv qual=true
 kp:PySem.W.keepIn K (.ref f)=true
section
variable {P:Program} {w:World} {K:PySem.W.Frag} {mg:Str→Option Value} {base:Heap}
theorem Fun.ok {x qual:Str} {st:Stmt} {f:Addr} {fd:FuncData} {N ps:List Str} {k:Nat} {sp:Sp} (F:Fun K x qual st f fd) (S:FnScope N ps (ah st)) (len:∀ vs H Q E,sp vs H Q E→vs.length=ps.length)
  (hbody:∀ (cdv:Value) (A:Around) (outer:List Env) (s:Shared) (H:Hp) (vs:List V) (Q:VK) (E:XK),Room k (A.deeper (envOfC qual (ah st) s.heap.objs.size f cdv))→sp vs H Q E →
   ∃ t,PSs (br CX0 P w K mg base N qual (ah st) f cdv A outer s H E).nox (cv st) t∧t {nx:=fun _ H'=>Q .non H',rt:=Q} (start N vs) H):FnOk P w K mg base CX0 (k+1) f fd ps sp:=by
 obtain ⟨oc,od,kV,doc,pm,an,cdv,ct,osl,rfl,lk,hcd⟩:=F.ex
 refine AG lk hcd S len fun A outer s H vs Q E hr hsp => ?_
 obtain ⟨t,h,q⟩:=hbody cdv A outer s H vs Q E hr hsp
 exact ⟨t,h.nox,q⟩
theorem Fun.binds {x qual:Str} {st:Stmt} {f:Addr} {fd:FuncData} {ps:List Str} (F:Fun K x qual st f fd)
  (h:∀ (kV doc pm:Value) (an:Option Addr) (cdv ct:Value) (us:List Value),us.length=ps.length→bindArgs (PySem.W.fnOf x qual (iu st) (cv st) (ah st) .none kV doc pm an cdv ct) ⟨us,[]⟩=pure (ps.zip us)):Binds K fd ps []:=by
 obtain ⟨oc,od,kV,doc,pm,an,cdv,ct,osl,rfl,lk,hcd⟩:=F.ex
 exact .all (h kV doc pm an cdv ct)
theorem AN {x qual:Str} {st:Stmt} {f:Addr} {oc:Value} {od an:Option Addr} {osl:Array (Option Value)} {kV doc pm cdv ct:Value} (l:K.lookup f=some ⟨oc,od,.func (PySem.W.fnOf x qual (iu st) (cv st) (ah st) .none kV doc pm an cdv ct),osl⟩)
  (c:PySem.W.codeIn K cdv qual=true) (k:PySem.W.keepIn K (.ref f)=true):Fun K x qual st f (PySem.W.fnOf x qual (iu st) (cv st) (ah st) .none kV doc pm an cdv ct):=⟨⟨oc,od,kV,doc,pm,an,cdv,ct,osl,rfl,l,c⟩,k⟩
end
theorem aI {A:Around} {k:Nat} (hr:Room k A):A.units+1 < cLine:=Nat.lt_of_le_of_lt (Nat.add_le_add_left (by decide:1≤64) _) hr.units
theorem bu {n:Nat} (h:n≤1000):n < sizeLine:=Nat.lt_of_le_of_lt h (by decide)
section
variable {X:Cx}
theorem pv (i:Nat) {x:Str} {pos:Pos} (hN:X.N[i]? = some x:=by rfl) (hv:Vis X.env.scope x:=by first | exact Or.inl rfl | exact Or.inr (Or.inl rfl) | exact Or.inr (Or.inr rfl)) (hd:(x == ("__debug__" : Str))=false:=by decide)
  (hcd:(x == ("__classdict__" : Str))=false:=by decide):PE X (.Name x pos) (iT i):=xt hN hv hd hcd
end
theorem xA {A B:Prop} (h:B):if false=true then A else B:=by
 rw [if_neg Bool.false_ne_true]
 exact h
theorem tq {A B:Prop} (h:A):if true=true then A else B:=by
 rw [if_pos rfl]
 exact h
theorem El {c A B:Prop} [Decidable c] (h1:c→A) (h2:¬ c→B):if c then A else B:=by
 by_cases h:c
 ·rw [if_pos h]
  exact h1 h
 ·rw [if_neg h]
  exact h2 h
def Same (H H':Hp):Prop:=∀ b o,H b=some o→H' b=some o
theorem Same.refl (H:Hp):Same H H:=fun _ _ h=>h
theorem Same.trans {H H1 H2:Hp} (a:Same H H1) (b:Same H1 H2):Same H H2:=fun c o h=>b c o (a c o h)
theorem Same.free {H H':Hp} (e:Same H H') {l:Addr} (h:H' l=Option.none):H l=Option.none:=by
 cases q:H l with
 | none=>rfl
 | some o=>
  rw [e l o q] at h
  cases h
theorem Same.seq {K:PySem.W.Frag} {H H':Hp} {a:Addr} {xs:List V} (e:Same H H') (h:SqL K H a xs):SqL K H' a xs:=by
 rcases h with (h | ⟨o,h⟩) | h
 ·exact .inl (.inl (e _ _ h))
 ·exact .inl (.inr ⟨o,e _ _ h⟩)
 ·exact .inr h
end L2
set_option maxHeartbeats 4000000
namespace L2
open PySem PySem.Spec PyProof.Rows
def dX (env:Env) (cs:List (Str×Addr)) (y:Str×NameKind):List (Str×Addr):=
 if (y.2 == NameKind.free)=true then (y.1,(env.cells.lookup y.1).getD 0) :: cs else cs
def yo (scope:Scope) (env:Env):List (Str×Addr):=scope.names.foldl (dX env) []
theorem yp {scope:Scope} {env:Env} (h:∀ y∈scope.names,y.2 = .free→∃ c,env.cells.lookup y.1=some c):closureFor scope env=pure (yo scope env):=by
 have main:∀ (l:List (Str×NameKind)) (cs:List (Str×Addr)),(∀ y∈l,y.2 = .free→∃ c,env.cells.lookup y.1=some c) →
   (forIn l cs fun (y:Str×NameKind) (r:List (Str×Addr))=>match y with | (name,kind)=>if (kind == NameKind.free)=true then (do let a ← cellOf env name;pure (ForInStep.yield ((name,a) :: r)):Sem _) else pure (ForInStep.yield r))=(pure (l.foldl (dX env) cs):Sem _):=by
  intro l
  induction l with
  | nil=>intro cs _;rfl
  | cons y l ih=>
   intro cs hl
   obtain ⟨n,k⟩:=y
   rw [List.forIn_cons,List.foldl_cons]
   have hr:=fun cs'=>ih cs' fun z hz=>hl z (List.mem_cons_of_mem _ hz)
   by_cases hk:(k == NameKind.free)=true
   ·obtain ⟨c,hc⟩:=hl (n,k) List.mem_cons_self (by simpa using hk)
    have hc:env.cells.lookup n=some c:=hc
    have e1:dX env cs (n,k)=(n,c) :: cs:=by unfold dX;rw [if_pos hk,hc];rfl
    have e2:cellOf env n=pure c:=by unfold cellOf;rw [hc]
    rw [e1,← hr]
    simp only [if_pos hk,e2]
    rfl
   ·have e1:dX env cs (n,k)=cs:=by unfold dX;rw [if_neg hk]
    rw [e1,← hr]
    simp only [if_neg hk]
    rfl
 unfold yo closureFor
 have:=main scope.names [] h
 show (forIn scope.names [] _ >>= fun r=>pure r)=_
 rw [this]
 rfl
theorem xB {env:Env}:∀ {l:List (Str×NameKind)} {cs:List (Str×Addr)} {p:Str×Addr},p∈l.foldl (dX env) cs→p∈cs∨((p.1,NameKind.free)∈l∧p.2=(env.cells.lookup p.1).getD 0)
 | [],_,_,h => .inl h
 | y :: l,cs,p,h=>by
  rcases xB (l:=l) h with h | ⟨h,e⟩
  ·unfold dX at h
   by_cases hk:(y.2 == NameKind.free)=true
   ·rw [if_pos hk] at h
    rcases List.mem_cons.mp h with rfl | h
    ·refine .inr ⟨?_,rfl⟩
     have e:y.2=NameKind.free:=by simpa using hk
     rw [← e]
     exact List.mem_cons_self
    ·exact .inl h
   ·rw [if_neg hk] at h;exact .inl h
  ·exact .inr ⟨List.mem_cons_of_mem _ h,e⟩
theorem xC {env:Env}:∀ {l:List (Str×NameKind)} {cs:List (Str×Addr)} {x:Str},((x,NameKind.free)∈l∨∃ c,(x,c)∈cs)→∃ c,(x,c)∈l.foldl (dX env) cs
 | [],_,_,h=>by
  rcases h with h | h
  ·cases h
  ·exact h
 | y :: l,cs,x,h=>by
  refine xC (l:=l) ?_
  rcases h with h | ⟨c,h⟩
  ·rcases List.mem_cons.mp h with e | h
   ·subst e
    exact .inr ⟨_,by unfold dX;rw [if_pos (by rfl)];exact List.mem_cons_self⟩
   ·exact .inl h
  ·refine .inr ⟨c,?_⟩
   unfold dX
   split
   ·exact List.mem_cons_of_mem _ h
   ·exact h
theorem gH {α:Type}:∀ {l:List (Str×α)} {x:Str} {c:α},(x,c)∈l→∃ d,l.lookup x=some d
 | [],_,_,h=>by cases h
 | (n,d) :: l,x,c,h=>by
  by_cases e:(x == n)=true
  ·exact ⟨d,by rw [List.lookup_cons,e]⟩
  ·rcases List.mem_cons.mp h with q | h
   ·cases q;simp at e
   ·obtain ⟨d',hd⟩:=gH h
    exact ⟨d',by rw [List.lookup_cons,Bool.eq_false_iff.mpr e];exact hd⟩
theorem eu {env:Env}:∀ {names:List (Str×NameKind)} {x:Str} {k:NameKind},(∀ y∈names,y.2 ≠ .cell)→(k = .cell∨k = .free) →
  (names.map fun (n,k)=>if (k == NameKind.free && env.scope.kind == .function && env.kindOf n == some .cell) then (n,NameKind.cell) else (n,k)).lookup x=some k→(x,NameKind.free)∈names
 | [],_,_,_,_,h=>by simp at h
 | (n,k') :: r,x,k,hc,hk,h=>by
  have ih:=@eu env r x k (fun y hy=>hc y (List.mem_cons_of_mem _ hy)) hk
  rw [List.map_cons,List.lookup_cons] at h
  by_cases hx:(x == n)=true
  ·have e:x=n:=by simpa using hx
   subst e
   by_cases hb:(k' == NameKind.free && env.scope.kind == .function && env.kindOf x == some .cell)=true
   ·have:k' = .free:=by
     have:=(Bool.and_eq_true_iff.mp (Bool.and_eq_true_iff.mp hb).1).1
     simpa using this
    subst this
    exact List.mem_cons_self
   ·simp only [if_neg hb,hx] at h
    have e2:k'=k:=Option.some.inj h
    subst e2
    rcases hk with z | z
    ·exact absurd z (hc _ List.mem_cons_self)
    ·subst z;exact List.mem_cons_self
  ·have hx':(x == n)=false:=Bool.eq_false_iff.mpr hx
   by_cases hb:(k' == NameKind.free && env.scope.kind == .function && env.kindOf n == some .cell)=true
   ·simp only [if_pos hb,hx'] at h
    exact List.mem_cons_of_mem _ (ih h)
   ·simp only [if_neg hb,hx'] at h
    exact List.mem_cons_of_mem _ (ih h)
theorem iV {env:Env}:∀ {names:List (Str×NameKind)} {x:Str},names.lookup x=some .free →
  (names.map fun (n,k)=>if (k == NameKind.free && env.scope.kind == .function && env.kindOf n == some .cell) then (n,NameKind.cell) else (n,k)).lookup x=some .cell ∨
  (names.map fun (n,k)=>if (k == NameKind.free && env.scope.kind == .function && env.kindOf n == some .cell) then (n,NameKind.cell) else (n,k)).lookup x=some .free
 | [],_,h=>by simp at h
 | (n,k') :: r,x,h=>by
  have ih:=@iV env r x
  rw [List.lookup_cons] at h
  rw [List.map_cons,List.lookup_cons]
  by_cases hx:(x == n)=true
  ·simp only [hx] at h
   have e:k' = .free:=Option.some.inj h
   subst e
   by_cases hb:(NameKind.free == NameKind.free && env.scope.kind == .function && env.kindOf n == some .cell)=true
   ·left;simp only [if_pos hb,hx]
   ·right;simp only [if_neg hb,hx]
  ·have hx':(x == n)=false:=Bool.eq_false_iff.mpr hx
   simp only [hx'] at h
   by_cases hb:(k' == NameKind.free && env.scope.kind == .function && env.kindOf n == some .cell)=true
   ·simp only [if_pos hb,hx'];exact ih h
   ·simp only [if_neg hb,hx'];exact ih h
def jI (sc scope:Scope) (N:List Str) (x:Str) (fv:List Str) (js:List Nat):Bool:=
 (scope.kind == .function) && scope.names.all (fun y => !(y.2 == NameKind.cell)) && scope.names.all (fun y => !(y.2 == NameKind.local) || scope.names.lookup y.1 == some .local)
 && (scope.names.lookup x == some .local) && decide ((fv++[x]).Nodup) && (fv.map some == js.map (fun j=>N[j]?))
 && fv.all (fun y=>scope.names.lookup y == some .free)
 && scope.names.all (fun y => !(y.2 == NameKind.free) || sc.names.lookup y.1 == some .cell || sc.names.lookup y.1 == some .free)
structure Caps (sc scope:Scope) (N:List Str) (x:Str) (fv:List Str) (js:List Nat):Prop where
 kind:scope.kind = .function
 nocell:∀ y∈scope.names,y.2 ≠ .cell
 names:∀ y∈scope.names,y.2 = .local→scope.names.lookup y.1=some .local
 tgt:scope.names.lookup x=some .local
 nd:(fv++[x]).Nodup
 cap:fv.map some=js.map (fun j=>N[j]?)
 see:∀ y∈fv,scope.names.lookup y=some .free
 fre:∀ y∈scope.names,y.2 = .free→sc.names.lookup y.1=some .cell∨sc.names.lookup y.1=some .free
theorem Caps.of {sc scope:Scope} {N:List Str} {x:Str} {fv:List Str} {js:List Nat} (h:jI sc scope N x fv js=true):Caps sc scope N x fv js:=by
 unfold jI at h
 simp only [Bool.and_eq_true,List.all_eq_true,Bool.or_eq_true,Bool.not_eq_true',beq_iff_eq,decide_eq_true_eq] at h
 obtain ⟨⟨⟨⟨⟨⟨⟨h1,h2⟩,h3⟩,h4⟩,h5⟩,h6⟩,h7⟩,h8⟩:=h
 refine ⟨by simpa using h1,fun y hy e => ?_,fun y hy e => ?_,by simpa using h4,h5,h6,fun y hy=>by simpa using h7 y hy,fun y hy e => ?_⟩
 ·have:=h2 y hy
  rw [e] at this;simp at this
 ·rcases h3 y hy with z | z
  ·rw [e] at z;simp at z
  ·simpa using z
 ·rcases h8 y hy with (z | z) | z
  ·rw [e] at z;simp at z
  ·exact .inl (by simpa using z)
  ·exact .inr (by simpa using z)
def cxC (X:Cx) (N:List Str) (scope:Scope) (fp:List Addr) (s:Shared) (H:Hp):Cx where
 prog:=X.prog
 w:=X.w
 K:=X.K
 mg:=X.mg
 base:=X.base
 A:=X.A
 N:=N
 s₀:=s
 H₀:=H
 env:=compEnvC scope (yo scope X.env) s.heap.objs.size X.env
 outer:=X.stack
 stack:=X.stack
 ex:=fp
 fn:=fun _=>false
 calm:=X.calm
 pn:=[]
 xe:=fun _ _=>False
def o6 (σ:St) (js:List Nat):St:=js.map fun j=>σ.getD j none
section
variable {X:Cx} {pins:List (Addr×Obj)} {σ:St} {H:Hp} {s:Shared} {scope:Scope} {x:Str} {fv:List Str} {js:List Nat} {fp:List Addr}
theorem Inv.capCell (I:Inv X pins σ H s) (C:Caps X.env.scope scope X.N x fv js) {y:Str} {c:Addr} (h:(yo scope X.env).lookup y=some c):X.env.cells.lookup y=some c:=by
 have hm:(y,c)∈scope.names.foldl (dX X.env) []:=PySem.mem_of_lookup h
 rcases xB hm with z | ⟨z,e⟩
 ·cases z
 ·obtain ⟨c',hc⟩:=I.ok.has y (C.fre _ z rfl)
  have e':c=c':=by
   have e:c=(X.env.cells.lookup y).getD 0:=e
   rw [hc] at e
   exact e
  rw [hc,e']
theorem Inv.capHas (C:Caps X.env.scope scope X.N x fv js) {y:Str} (h:(y,NameKind.free)∈scope.names):∃ c,(yo scope X.env).lookup y=some c:=by
 obtain ⟨c,hc⟩:=xC (env:=X.env) (cs:=[]) (.inl h)
 exact gH hc
theorem Caps.len {sc:Scope} {N:List Str} (C:Caps sc scope N x fv js):js.length=fv.length:=by
 have:=congrArg List.length C.cap
 rw [List.length_map,List.length_map] at this
 exact this.symm
theorem t4 {h1:Heap} {t':Nat} {m1:Str→Option Value} (I:Inv X pins σ H s) (C:Caps X.env.scope scope X.N x fv js) (hf:∀ b∈fp,tm X pins H b) (hlt:∀ b∈fp,b < s.heap.objs.size)
  (hn:h1.Ns s.heap.objs.size m1) (hk:∀ b o,s.heap.get? b=some o→h1.get? b=some o) :
  Inv (cxC X (fv++[x]) scope fp s H) [] (o6 σ js++[none]) H {s with heap:=h1,toks:=t'}:=by
 have jl:=C.len
 refine ⟨⟨I.ok.mod,C.kind,I.ok.glob,I.ok.blt,Nat.le_refl _,fun y z c e1 e2 => ?_,fun y hy => ?_,fun y c e _ => ?_,I.ok.hd,I.ok.frames,.inl rfl,fun b hb=>⟨?_,fun y c e => ?_⟩,I.bs,Nat.le_trans I.ok.bsz I.sz,fun b o e hb => ?_,fun b hb z => ?_,I.stack,I.stkFree⟩,
  rfl,I.bare,Un.kept hk,⟨m1,hn,fun i y v e1 e2 e3 => ?_⟩,fun y c e => ?_,I.hok.fresh (Nat.le_refl _),fun y c e => ?_,fun p hp=>absurd (show p∈([]:List (Addr×Obj)) from hp) (by simp),I.hok.kept hk,?_⟩
 ·exact I.ok.inj y z c (I.capCell C e1) (I.capCell C e2)
 ·refine Inv.capHas C (?_:(y,NameKind.free)∈scope.names)
  rcases hy with hy | hy
  ·exact eu C.nocell (.inl rfl) hy
  ·exact eu C.nocell (.inr rfl) hy
 ·cases e
 ·exact Nat.ne_of_lt (hlt b hb)
 ·exact (hf b hb).2.2.2.2.1 y c (I.capCell C e)
 ·rcases (hf b hb).2.2.2.1 with z | z
  ·exact I.ok.noex b o e z
  ·have h1:b < X.base.objs.size:=Heap.lt_size e
   have h2:=I.ok.bsz
   have z':X.s₀.heap.objs.size≤b:=z
   exact absurd (Nat.lt_of_lt_of_le h1 (Nat.le_trans h2 z')) (Nat.lt_irrefl _)
 ·rcases List.mem_cons.mp (I.stkSub b z) with q | q
  ·exact (hf b hb).2.1 q
  ·exact (hf b hb).2.2.1 q
 ·have e1:(fv++[x])[i]? = some y:=e1
  by_cases hi:i < fv.length
  ·rw [List.getElem?_append_left hi] at e1
   have hij:i < js.length:=by omega
   rw [List.getElem?_append_left (by unfold o6;rw [List.length_map];exact hij)] at e2
   unfold o6 at e2
   rw [List.getElem?_map,List.getElem?_eq_getElem hij] at e2
   have e2':σ.getD js[i] none=some v:=Option.some.inj e2
   have hc:=congrArg (fun l=>l[i]?) C.cap
   simp only [List.getElem?_map] at hc
   rw [e1,List.getElem?_eq_getElem hij] at hc
   have hN:X.N[js[i]]? = some y:=(Option.some.inj hc).symm
   have hσ:σ[js[i]]? = some (some v):=by
    rw [List.getD_eq_getElem?_getD] at e2'
    cases q:σ[js[i]]? with
    | none=>rw [q] at e2';cases e2'
    | some o=>rw [q] at e2';exact congrArg some e2'
   have hy:y∈fv:=List.mem_of_getElem? e1
   have hfree:=PySem.mem_of_lookup (C.see y hy)
   have hout:=C.fre _ hfree rfl
   obtain ⟨m,_,hl⟩:=I.loc
   obtain ⟨u,r,l⟩:=hl _ y v hN hσ (hout.elim (fun z => .inr (.inl z)) fun z => .inr (.inr z))
   refine ⟨u,r,?_⟩
   rcases l with ⟨k,_⟩ | ⟨_,c,hc,hcell⟩
   ·have k:X.env.scope.names.lookup y=some .local:=k
    rcases hout with z | z <;> rw [k] at z <;> cases z
   ·obtain ⟨c',hc'⟩:=Inv.capHas (X:=X) C hfree
    have q:=I.capCell C hc'
    rw [hc] at q
    cases q
    refine .inr ⟨iV (C.see y hy),c,hc',?_⟩
    obtain ⟨o,ho,hd⟩:=hcell
    exact ⟨o,hk _ _ ho,hd⟩
  ·have hl:(o6 σ js).length=fv.length:=by unfold o6;rw [List.length_map];exact jl
   rw [List.getElem?_append_right (by omega)] at e2
   have:i - (o6 σ js).length=0∨1≤i - (o6 σ js).length:=by omega
   rcases this with z | z
   ·rw [z] at e2;cases e2
   ·rw [List.getElem?_eq_none (by simpa using z)] at e2;cases e2
 ·obtain ⟨v,o,ho,hd⟩:=I.cell y c (I.capCell C e)
  exact ⟨v,o,hk _ _ ho,hd⟩
 ·exact I.freeC y c (I.capCell C e)
 ·show (o6 σ js++[none]).length=(fv++[x]).length
  unfold o6
  rw [List.length_append,List.length_append,List.length_map,jl]
  rfl
def bE:TT:=fun _ H Q=>Q true H
def EV (J:It) (te:TE) (caps:St) (D:Addr) (W:Nat→Nat→List V→Hp→Prop) (Q:VK):Prop:=
 ∀ i n ys Hc,W i n ys Hc→Hc D=some (.lst ys)∧((J.stop i Hc∧Q (.ref D) Hc) ∨
  (J.go i Hc∧ys.length < sizeLine∧∀ v H',J.yld i Hc v H'→te (caps++[some v]) H' fun y H2=>H2 D=some (.lst ys)∧∃ n',n' < n∧W (i+1) n' (ys++[y]) (upd H2 D (.lst (ys++[y])))))
def eB (J:It) (tt:TT) (te:TE) (caps:St) (D:Addr) (W:Nat→Nat→List V→Hp→Prop) (Q:VK):Prop:=
 ∀ i n ys Hc,W i n ys Hc→Hc D=some (.lst ys)∧((J.stop i Hc∧Q (.ref D) Hc) ∨
  (J.go i Hc∧ys.length < sizeLine∧∀ v H',J.yld i Hc v H'→tt (caps++[some v]) H' fun b H1=>
   if b=true then te (caps++[some v]) H1 fun y H2=>H2 D=some (.lst ys)∧∃ n',n' < n∧W (i+1) n' (ys++[y]) (upd H2 D (.lst (ys++[y])))
   else H1 D=some (.lst ys)∧∃ n',n' < n∧W (i+1) n' ys H1))
theorem AO {α β:Type} {M:Model} {A:Around} {a:α} {t:Sem β} {Q:α→Shared→Prop} {Q':β→Shared→Prop} {E E':Value→Shared→Prop} {s1:Shared} (h:wpAny M A (pure a:Sem α) Q E s1) (k:Q a s1→wpAny M A t Q' E' s1):wpAny M A t Q' E' s1:=
 fun G p hG=>k (h G p hG) G p hG
theorem lM {σc:St} {Hc:Hp} {sc:Shared} {Nc:List Str} {pc:List (Addr×Obj)} (I:Inv (cxC X Nc scope fp s H) pc σc Hc sc) (hn:∀ b∈fp,Hc b=none) (hp:pc=[]):∀ b∈fp,tm (cxC X Nc scope fp s H) pc Hc b:=fun b hb=>by
 subst hp
 exact ⟨hn b hb,(I.ok.exf b hb).1,I.ok.exfs b hb,.inl hb,(I.ok.exf b hb).2,fun p hp=>absurd (show p∈([]:List (Addr×Obj)) from hp) (by simp)⟩
theorem vW (l:St) (o:Option V) (v:V):(l++[o]).set l.length (some v)=l++[some v]:=by
 rw [List.set_append_right _ _ (Nat.le_refl _),Nat.sub_self]
 rfl
theorem t5 {elt iter:Expr} {tt:TT} {te:TE} {ifs:List Expr} {px pos:Pos} {it D:Addr} {J:It} {tn:Nat→Heap→Prop} {W:Nat→Nat→List V→Hp→Prop} {Q:VK} {R:Result→Shared→Prop} {s1:Shared} {n:Nat} {caps:St}
  (C:Caps X.env.scope scope X.N x fv js) (hcalm:X.calm=true) (hcl:caps.length=fv.length) (T:Turn X.prog X.w X.K (.Name x px) J fp it tn) (he:PE (cxC X (fv++[x]) scope fp s H) elt te)
  (ht:(ifs=[]∧tt=bE)∨∃ c,ifs=[c]∧PT (cxC X (fv++[x]) scope fp s H) c tt)
  (sE:eB J tt te caps D W Q) (I1:Inv (cxC X (fv++[x]) scope fp s H) [] (caps++[none]) H s1) (st1:tn 0 s1.heap) (hf1:∀ b∈fp,H b=none) (w1:W 0 n [] H)
  (hR:∀ s' Hc o,Inv (cxC X (fv++[x]) scope fp s H) [] (caps++[o]) Hc s'→Q (.ref D) Hc→R (.ok .next) s') :
  codeAny (model X.prog X.w) X.A (.compLoop (.ListComp elt [⟨.Name x px,iter,ifs,0⟩] scope pos) 0 (.ref it) (.ref D) (cxC X (fv++[x]) scope fp s H).env) R s1:=by
 have tgt:PG (cxC X (fv++[x]) scope fp s H) (.Name x px) (d4 fv.length):=
  bc C.nd (by show (fv++[x])[fv.length]? = some x;simp) (.inl (lookup_relabel_local C.tgt)) (.inr (lookup_relabel_local C.tgt))
 refine codeAny_compLoop_tests (fun m s'=>∃ i ys Hc o,Inv (cxC X (fv++[x]) scope fp s H) [] (caps++[o]) Hc s'∧tn i s'.heap∧(∀ b∈fp,Hc b=none)∧W i m ys Hc) ?_ n ⟨0,[],H,none,I1,st1,hf1,w1⟩
 rintro m s3 ⟨i,ys,H3,o,I3,st3,fr3,w3⟩
 obtain ⟨hD,hw⟩:=sE i m ys H3 w3
 rcases hw with ⟨stop,q⟩ | ⟨go,hz,step⟩
 ·refine wpAny_mono (T.done (cxC X (fv++[x]) scope fp s H) rfl rfl rfl hcalm i [] s3 _ H3 (fun _ _=>False) I3 (lM I3 fr3 rfl) st3 stop) (fun r s4 ⟨hr,I4⟩ => ?_) fun _ _ f=>f.elim
  subst hr
  exact hR s4 H3 o I4 q
 ·refine wpAny_mono (T.item (cxC X (fv++[x]) scope fp s H) rfl rfl rfl hcalm i [] s3 _ H3 (fun _ _=>False) I3 (lM I3 fr3 rfl) st3 go) (fun r s4 ⟨u,hr,h4⟩ => ?_) fun _ _ f=>f.elim
  subst hr
  refine AO (a:=()) h4 fun ⟨v,H5,I5,r5,y5,st5,fr5⟩ => ?_
  have I5':=I5.pinned (lM I5 fr5 rfl) (T.obj _ _ st5)
  refine wpAny_mono (tgt _ s4 _ H5 v u (fun σ' H'=>σ'=caps++[some v]∧H'=H5) I5' r5 ⟨by rw [← hcl];exact vW caps o v,rfl⟩) (fun _ s6 ⟨σ6,H6,I6,e1,e2⟩ => ?_) fun _ _ f=>f.elim
  subst e1
  subst e2
  have again:∀ {o7:Option V} {H7:Hp} {ys7:List V} {s7:Shared},Inv (cxC X (fv++[x]) scope fp s H) ([]++kQ fp s4.heap) (caps++[o7]) H7 s7→(∃ n',n' < m∧W (i+1) n' ys7 H7) →
    ∃ m',m' < m∧∃ i ys Hc o,Inv (cxC X (fv++[x]) scope fp s H) [] (caps++[o]) Hc s7∧tn i s7.heap∧(∀ b∈fp,Hc b=none)∧W i m' ys Hc:=fun {o7 H7 ys7 s7} I7 ⟨n',hn',w7⟩=>by
   refine ⟨n',hn',i+1,ys7,H7,o7,I7.unpinned,T.keep _ _ _ st5 fun b hb o e=>(I7.pin (b,o) (List.mem_append_right _ (List.mem_append_right _ (e9 hb e)))).1,fun b hb => ?_,w7⟩
   obtain ⟨o,e,_⟩:=T.obj _ _ st5 b hb
   exact (I7.pin (b,o) (List.mem_append_right _ (List.mem_append_right _ (e9 hb e)))).2.1
  have st:=step v H6 y5
  have after:∀ s8 H8,Inv (cxC X (fv++[x]) scope fp s H) ([]++kQ fp s4.heap) (caps++[some v]) H8 s8 →
    (te (caps++[some v]) H8 fun y H2=>H2 D=some (.lst ys)∧∃ n',n' < m∧W (i+1) n' (ys++[y]) (upd H2 D (.lst (ys++[y]))))→∀ E':Value→Shared→Prop,
    wpAny (model X.prog X.w) X.A (eval elt (cxC X (fv++[x]) scope fp s H).env) (fun x' s9=>wpAny (model X.prog X.w) X.A (call (.builtin "list.append") [.ref D,x']) (fun _ s10=>∃ m',m' < m∧∃ i ys Hc o,Inv (cxC X (fv++[x]) scope fp s H) [] (caps++[o]) Hc s10∧tn i s10.heap∧(∀ b∈fp,Hc b=none)∧W i m' ys Hc) E' s9) E' s8:=fun s8 H8 I8 hq E'=>by
   refine wpAny_mono (he _ s8 _ H8 _ I8 hq) (fun u9 s9 ⟨y,H9,I9,r9,hD9,hw9⟩ => ?_) fun _ _ f=>f.elim
   refine wpAny_mono (bN (X:=cxC X (fv++[x]) scope fp s H) _ s9 _ H9 (.ref D) [y] (.ref D) [u9] (fun _ H'=>H'=upd H9 D (.lst (ys++[y]))) I9 rfl (.cons r9 .nil) ⟨D,ys,y,rfl,rfl,hD9,hz,rfl⟩) (fun _ s10 ⟨_,H10,I10,_,e10⟩ => ?_) fun _ _ f=>f.elim
   subst e10
   exact again I10 hw9
  rcases ht with ⟨rfl,rfl⟩ | ⟨c,rfl,hc⟩
  ·have st':te (caps++[some v]) H6 fun y H2=>H2 D=some (.lst ys)∧∃ n',n' < m∧W (i+1) n' (ys++[y]) (upd H2 D (.lst (ys++[y]))):=by
    have z:=st
    unfold bE at z
    dsimp only at z
    rw [if_pos rfl] at z
    exact z
   show wpAny _ _ (pure true) _ _ _
   exact wpAny_pure (after s6 H6 I6 st' _)
  ·show wpAny _ _ (forIn [c] true _) _ _ _
   rw [List.forIn_cons]
   refine wpAny_bind (wpAny_bind (wpAny_mono (hc _ s6 _ H6 _ I6 st) (fun b s7 ⟨H7,I7,q7⟩ => ?_) fun _ _ f=>f.elim))
   refine wpAny_pure ?_
   show wpAny _ _ (pure b) _ _ _
   refine wpAny_pure ?_
   cases b with
   | true=>exact after s7 H7 I7 q7 _
   | false=>exact again I7 q7.2
def nj (wi:TI) (tt:TT) (te:TE) (js:List Nat):TE:=fun σ H Q=>wi σ H fun J H1=>∀ D,H1 D=none→∃ W:Nat→Nat→List V→Hp→Prop,(∃ n,W 0 n [] (upd H1 D (.lst [])))∧eB J tt te (o6 σ js) D W Q
theorem kX {elt iter:Expr} {tt:TT} {te:TE} {ifs:List Expr} {px pos:Pos} {J:It} {it:Addr} {tn:Nat→Heap→Prop} {Q:VK} {RR:Value→Addr→Result→Shared→Prop} {H2:Hp} {s2:Shared} {E:Value→Shared→Prop}
  (C:Caps X.env.scope scope X.N x fv js) (hcalm:X.calm=true) (he:∀ fp s H,PE (cxC X (fv++[x]) scope fp s H) elt te) (ht:(ifs=[]∧tt=bE)∨∃ c,ifs=[c]∧∀ fp s H,PT (cxC X (fv++[x]) scope fp s H) c tt)
  (I2:Inv X pins σ H2 s2) (T:Turn X.prog X.w X.K (.Name x px) J fp it tn) (st2:tn 0 s2.heap) (f2:∀ b∈fp,tm X pins H2 b)
  (q2:∀ D,H2 D=none→∃ W:Nat→Nat→List V→Hp→Prop,(∃ n,W 0 n [] (upd H2 D (.lst [])))∧eB J tt te (o6 σ js) D W Q)
  (hRR:∀ D F s' H' m,Inv X pins σ H' s'→tm X pins H' F→s'.heap.Ns F m→Q (.ref D) H'→RR (.ref D) F (.ok .next) s') :
  wpAny (model X.prog X.w) X.A (newList []) (fun acc s3=>wpAny (model X.prog X.w) X.A (newFunctionEnv scope X.env.globals (yo scope X.env) [] X.env.qual none .none (some X.env)) (fun cenv s4=>
   codeAny (model X.prog X.w) X.A (.compStart (.ListComp elt [⟨.Name x px,iter,ifs,0⟩] scope pos) 0 (.ref it) acc {cenv with scope:=relabel scope X.env}) (RR acc cenv.locals) s4) E s3) E s2:=by
 refine wpAny_newObj_type (wpAny_newFunctionEnv C.nocell (fun y hy=>absurd hy (by simp)) (fun h1 hns hsb => ?_) C.kind)
 dsimp only at hns hsb ⊢
 have hD:=I2.hok.fresh (Nat.le_refl s2.heap.objs.size)
 have I3:Inv X pins σ (upd H2 s2.heap.objs.size (.lst [])) {s2 with heap:=s2.heap.push {cls := .type "list",data := .seq ([]:List Value).toArray}}:=I2.lnew (t':=s2.toks) (its:=[]) (ys:=[]) .nil (Nat.zero_le _)
 obtain ⟨W,⟨n,w0⟩,sE⟩:=q2 _ hD
 have lt2:∀ b∈fp,b < s2.heap.objs.size:=fun b hb=>by
  obtain ⟨o,e,_⟩:=T.obj _ _ st2 b hb
  exact Heap.lt_size e
 have fr3:∀ b∈fp,upd H2 s2.heap.objs.size (.lst []) b=none:=fun b hb=>by
  rw [aX (Nat.ne_of_lt (lt2 b hb))]
  exact (f2 b hb).1
 have f3:∀ b∈fp,tm X pins (upd H2 s2.heap.objs.size (.lst [])) b:=fun b hb=>⟨fr3 b hb,(f2 b hb).2⟩
 generalize hs3:({s2 with heap:=s2.heap.push {cls := .type "list",data := .seq ([]:List Value).toArray}}:Shared)=s3 at I3
 have e3:s3.heap=s2.heap.push {cls := .type "list",data := .seq ([]:List Value).toArray}:=by rw [← hs3]
 have lt3:∀ b∈fp,b < s3.heap.objs.size:=fun b hb=>by
  rw [e3,Heap.size_push]
  exact Nat.lt_succ_of_lt (lt2 b hb)
 have hk:∀ b o,s3.heap.get? b=some o→h1.get? b=some o:=fun b o e=>by
  rw [e3] at e
  exact hsb.extBut b o (Nat.ne_of_lt (Heap.lt_size e)) (Heap.get?_push_of_some _ e)
 have st3:tn 0 h1:=T.keep _ _ _ st2 fun b _ o e=>hk b o (by rw [e3];exact Heap.get?_push_of_some _ e)
 have hns3:h1.Ns s3.heap.objs.size (fun x=>([]:List (Str×Value)).reverse.lookup x):=by rw [e3];exact hns
 have Ib:=t4 (t':=s3.toks+([]:List (Str×Value)).length) I3 C f3 lt3 hns3 hk
 have jl:(o6 σ js).length=fv.length:=by unfold o6;rw [List.length_map];exact C.len
 have loop:=t5 (elt:=elt) (iter:=iter) (ifs:=ifs) (px:=px) (pos:=pos) (R:=RR (.ref s2.heap.objs.size) s3.heap.objs.size) (Q:=Q) C hcalm jl T (he fp s3 _) (ht.imp (fun z=>z) fun ⟨c,e,z⟩=>⟨c,e,z fp s3 _⟩) sE Ib st3 fr3 w0 fun s' Hc o Ic qc=>by
  obtain ⟨m,hm,_⟩:=Ic.loc
  have IX:Inv X pins σ Hc s':=I3.call' Ic.os Ic.base Ic.hok Ic.bare fun b hb=>⟨(f3 b hb).2.2.2.1,(f3 b hb).2.1,(f3 b hb).2.2.2.2.1,(f3 b hb).2.2.2.2.2⟩
  exact hRR _ _ s' Hc m IX (I3.fpOk (Nat.le_refl _) Ic.free) hm qc
 subst hs3
 exact codeAny_compStart_list loop (T.self _ 0 _ _ _ st3 loop)
theorem Inv.frameGone {H':Hp} {s':Shared} {F:Addr} {h':Heap} (I:Inv X pins σ H' s') (f:tm X pins H' F) (hs:Heap.SameBut F s'.heap h'):Inv X pins σ H' {s' with heap:=h'}:=
 I.turned (t':=s'.toks) (fun b o hb e=>hs.extBut b o hb e) f.1 f.2.1 f.2.2.2.1 f.2.2.2.2.1 f.2.2.2.2.2
theorem xD (I:Inv X pins σ H s) (C:Caps X.env.scope scope X.N x fv js):closureFor scope X.env=pure (yo scope X.env):=yp fun y hy e=>I.ok.has y.1 (C.fre y hy e)
theorem rj {elt iter:Expr} {wi:TI} {tt:TT} {te:TE} {ifs:List Expr} {px pos:Pos} (hC:jI X.env.scope scope X.N x fv js=true) (hcalm:X.calm=true) (hi:PI X (.Name x px) iter wi) (he:∀ fp s H,PE (cxC X (fv++[x]) scope fp s H) elt te)
  (ht:(ifs=[]∧tt=bE)∨∃ c,ifs=[c]∧∀ fp s H,PT (cxC X (fv++[x]) scope fp s H) c tt) (hs:∀ v,foldedSetIterable iter X.env v=pure v) :
  PE X (.ListComp elt [⟨.Name x px,iter,ifs,0⟩] scope pos) (nj wi tt te js):=by
 intro pins s σ H Q I h
 have C:=Caps.of hC
 rw [eval_ListComp]
 refine wpAny_comprehension_free (use:=none) rfl hs (xD I C) C.kind C.names (thn (hi pins s σ H _ I h) fun v s1 h1=>thn h1 fun itv s2 h2 => ?_)
 obtain ⟨it,fp,tn,J,H2,e,I2,T,st2,f2,q2⟩:=h2
 subst e
 exact kX (RR:=fun acc F=>compPost (model X.prog X.w) X.A X.xe none (EP X pins σ Q) acc F) C hcalm he ht I2 T st2 f2 q2 fun D F s' H' m I' f hm q=>⟨m,hm,fun h' hs'=>⟨.ref D,H',I'.frameGone f hs',rfl,q⟩⟩
theorem cP {elt iter:Expr} {wi:TI} {te:TE} {px pos:Pos} (fv:List Str) (js:List Nat) (hi:PI X (.Name x px) iter wi) (he:∀ fp s H,PE (cxC X (fv++[x]) scope fp s H) elt te)
  (hC:jI X.env.scope scope X.N x fv js=true:=by rfl) (hcalm:X.calm=true:=by rfl) (hs:∀ v,foldedSetIterable iter X.env v=pure v:=by intro _;rfl) :
  PE X (.ListComp elt [⟨.Name x px,iter,[],0⟩] scope pos) (nj wi bE te js):=rj hC hcalm hi he (.inl ⟨rfl,rfl⟩) hs
theorem vX {elt iter c:Expr} {wi:TI} {tt:TT} {te:TE} {px pos:Pos} (fv:List Str) (js:List Nat) (hi:PI X (.Name x px) iter wi) (ht:∀ fp s H,PT (cxC X (fv++[x]) scope fp s H) c tt) (he:∀ fp s H,PE (cxC X (fv++[x]) scope fp s H) elt te)
  (hC:jI X.env.scope scope X.N x fv js=true:=by rfl) (hcalm:X.calm=true:=by rfl) (hs:∀ v,foldedSetIterable iter X.env v=pure v:=by intro _;rfl) :
  PE X (.ListComp elt [⟨.Name x px,iter,[c],0⟩] scope pos) (nj wi tt te js):=rj hC hcalm hi he (.inr ⟨c,rfl,ht⟩) hs
theorem vY {i:Nat} {y:Str} {elt iter:Expr} {wi:TI} {tt:TT} {te:TE} {ifs:List Expr} {px py pos spos:Pos} (hN:X.N.Nodup) (hy:X.N[i]? = some y) (hl:Loc X.env.scope y) (hC:jI X.env.scope scope X.N x fv js=true) (hcalm:X.calm=true) (hi:PI X (.Name x px) iter wi)
  (he:∀ fp s H,PE (cxC X (fv++[x]) scope fp s H) elt te) (ht:(ifs=[]∧tt=bE)∨∃ c,ifs=[c]∧∀ fp s H,PT (cxC X (fv++[x]) scope fp s H) c tt) (hs:∀ v,foldedSetIterable iter X.env v=pure v)
  (hsw:swapsWith (.ListComp elt [⟨.Name x px,iter,ifs,0⟩] scope pos) (some (.Name y py)) spos.line X.env=pure true) (hf:X.fn y=true∨X.env.scope.names.lookup y=some .local) :
  PS X (.Assign [.Name y py] (.ListComp elt [⟨.Name x px,iter,ifs,0⟩] scope pos) spos) (Au (nj wi tt te js) (d4 i)):=by
 intro pins s σ H D I h
 have C:=Caps.of hC
 rw [exec_Assign_Name_used _ _ _ _ hsw]
 refine wpAny_bind (wpAny_standAt (wpAny_bind ?_))
 have key:wpAny (model X.prog X.w) X.A (comprehension (.ListComp elt [⟨.Name x px,iter,ifs,0⟩] scope pos) scope X.env (firstIterPos [⟨.Name x px,iter,ifs,0⟩] pos) (newList []) false (eval iter X.env) (some (assign (.Name y py) X.env))) (fun _ s'=>SP X pins D .next s') X.xe s:=by
  refine wpAny_comprehension_free (use:=some (assign (.Name y py) X.env)) rfl hs (xD I C) C.kind C.names (thn (hi pins s σ H _ I h) fun v s1 h1=>thn h1 fun itv s2 h2 => ?_)
  obtain ⟨it,fp,tn,J,H2,e,I2,T,st2,f2,q2⟩:=h2
  subst e
  refine kX (RR:=fun acc F=>compPost (model X.prog X.w) X.A X.xe (some (assign (.Name y py) X.env)) (fun _ s'=>SP X pins D .next s') acc F) C hcalm he ht I2 T st2 f2 q2 fun d F s' H' m I' f hm q => ?_
  show wpAny _ _ (assign (.Name y py) X.env (.ref d)) _ _ s'
  refine wpAny_assign_Name (mP I' hN hy hl (v := .ref d) rfl (fun s'' I'' ⟨a,hsb,ha⟩ => ?_) hf)
  have hne:F≠a:=by
   rcases ha with z | z
   ·rw [z];exact f.2.1
   ·exact Ne.symm (f.2.2.2.2.1 y a z)
  exact ⟨m,hm.sameBut hsb hne,fun h' hs'=>⟨_,H',I''.frameGone ⟨f.1,f.2⟩ hs',q⟩⟩
 rw [arm_evalThenUse_ListComp]
 exact wpAny_bind (thn key fun _ s' q=>wpAny_pure (wpAny_pure q))
end
end L2
set_option maxHeartbeats 4000000
namespace L2
open PySem PySem.Spec PyProof.Rows
section
variable {X:Cx}
def t6:V→Option Value
 | .ty n=>some (.type n)
 | .ref a=>some (.ref a)
 | _=>none
def Em (K:PySem.W.Frag):List V→Hp→VK→Prop:=fun xs H Q=>∃ x cls t c b,xs=[x,cls]∧TyOf K H x t∧t6 cls=some c∧PySem.W.kitOne K t c=some b∧Q (.bl b) H
theorem vZ:dz X (.builtin "isinstance") (Em X.K):=by
 intro pins s σ H xs us Q I r h
 obtain ⟨x,cls,t,c,b,rfl,ty,hc,e,q⟩:=h
 obtain ⟨u,u2,rfl,rx,rc⟩:=AD r
 have ec:u2=c:=by
  cases cls with
  | ty n=>cases hc;exact rc
  | ref a=>cases hc;exact rc
  | _=>cases hc
 subst ec
 exact tQ I rx ty e fun tk=>⟨.bl b,H,I.tok tk,rfl,q⟩
theorem xE {P:Program} {w:World} {A:Around} {bs:List Bool} {its:List Value} (r:Vals (bs.map V.bl) its):TruthOf P w A (fun i v=>its.toArray[i]? = some v) (fun i=>bs.getD i true):=fun i v s Q E hv hq=>by
 have hv':its[i]? = some v:=by simpa using hv
 have hl:=r.length
 rw [List.length_map] at hl
 have hi:i < bs.length:=by
  have:=(List.getElem?_eq_some_iff.mp hv').1
  omega
 obtain ⟨u,hu,ru⟩:=r.get (i:=i) (x := .bl bs[i]) (by rw [List.getElem?_map,List.getElem?_eq_getElem hi];rfl)
 rw [hv'] at hu
 cases hu
 have e:v=Value.bool bs[i]:=ru
 subst e
 refine wpAny_truthy_bool ?_
 have:bs.getD i true=bs[i]:=by simp [List.getD_eq_getElem?_getD,hi]
 rw [← this];exact hq
theorem wa (bs:List Bool):(List.range bs.length).all (fun i=>bs.getD i true)=bs.all id:=by
 rw [Bool.eq_iff_iff,List.all_eq_true,List.all_eq_true]
 constructor
 ·intro h b hb
  obtain ⟨i,hi,rfl⟩:=List.mem_iff_getElem.mp hb
  have:=h i (List.mem_range.mpr hi)
  simpa [List.getD_eq_getElem?_getD,hi] using this
 ·intro h i hi
  have hi':i < bs.length:=List.mem_range.mp hi
  have:=h bs[i] (List.getElem_mem hi')
  simpa [List.getD_eq_getElem?_getD,hi'] using this
theorem wb (bs:List Bool):(List.range bs.length).any (fun i=>bs.getD i true)=bs.any id:=by
 rw [Bool.eq_iff_iff,List.any_eq_true,List.any_eq_true]
 constructor
 ·rintro ⟨i,hi,h⟩
  have hi':i < bs.length:=List.mem_range.mp hi
  exact ⟨bs[i],List.getElem_mem hi',by simpa [List.getD_eq_getElem?_getD,hi'] using h⟩
 ·rintro ⟨b,hb,h⟩
  obtain ⟨i,hi,rfl⟩:=List.mem_iff_getElem.mp hb
  exact ⟨i,List.mem_range.mpr hi,by simpa [List.getD_eq_getElem?_getD,hi] using h⟩
theorem Inv.walked {pins:List (Addr×Obj)} {σ:St} {H:Hp} {s:Shared} {h':Heap} {t':Nat} (I:Inv X pins σ H s) {o:Obj}
  (k:∀ b o',b∉[s.heap.objs.size]→(s.heap.push o).get? b=some o'→h'.get? b=some o'):Inv X pins σ H {s with heap:=h',toks:=t'}:=
 I.kept fun b u e=>k b u (by simpa using Nat.ne_of_lt (Heap.lt_size e)) (Heap.get?_push_of_some _ e)
def EW:List V→Hp→VK→Prop:=fun xs H Q=>∃ (p:Addr) (bs:List Bool),xs=[.ref p]∧H p=some (.lst (bs.map V.bl))∧Q (.bl (bs.all id)) H
theorem pk (hc:X.calm=true):dz X (.builtin "all") EW:=by
 intro pins s σ H xs us Q I r h
 obtain ⟨p,bs,rfl,hq,q⟩:=h
 obtain ⟨u,rfl,rx⟩:=kq r
 cases rx
 obtain ⟨its,r',pl,hz⟩:=I.list (SqL.of (K:=X.K) hq)
 have hl:=r'.length
 rw [List.length_map] at hl
 refine call_all_walk (wpAny_pyIter_list pl.isList ?_)
 have hne:p≠s.heap.objs.size:=by
  obtain ⟨o,ho,_⟩:=pl.isList
  exact Nat.ne_of_lt (Heap.lt_size ho)
 refine ⟨_,_,_,_,_,_,_,rfl,Walks.list (A:=X.A.in1) (I.ok.hd hc) s.heap.objs.size p hne its.toArray,⟨⟨_,Heap.get?_push_size _ rfl,rfl,rfl⟩,?_⟩,xE r',fun h' tk k=>⟨.bl _,H,I.walked k,rfl,?_⟩⟩
 ·exact pl.isList.at fun o e=>Heap.get?_push_of_some _ e
 ·rw [List.size_toArray,← hl,wa];exact q
def EX:List V→Hp→VK→Prop:=fun xs H Q=>∃ (p:Addr) (bs:List Bool),xs=[.ref p]∧H p=some (.lst (bs.map V.bl))∧Q (.bl (bs.any id)) H
theorem pp (hc:X.calm=true):dz X (.builtin "any") EX:=by
 intro pins s σ H xs us Q I r h
 obtain ⟨p,bs,rfl,hq,q⟩:=h
 obtain ⟨u,rfl,rx⟩:=kq r
 cases rx
 obtain ⟨its,r',pl,hz⟩:=I.list (SqL.of (K:=X.K) hq)
 have hl:=r'.length
 rw [List.length_map] at hl
 refine call_any_walk (wpAny_pyIter_list pl.isList ?_)
 have hne:p≠s.heap.objs.size:=by
  obtain ⟨o,ho,_⟩:=pl.isList
  exact Nat.ne_of_lt (Heap.lt_size ho)
 refine ⟨_,_,_,_,_,_,_,rfl,Walks.list (A:=X.A.in1) (I.ok.hd hc) s.heap.objs.size p hne its.toArray,⟨⟨_,Heap.get?_push_size _ rfl,rfl,rfl⟩,?_⟩,xE r',fun h' tk k=>⟨.bl _,H,I.walked k,rfl,?_⟩⟩
 ·exact pl.isList.at fun o e=>Heap.get?_push_of_some _ e
 ·rw [List.size_toArray,← hl,wb];exact q
def EqW (X:Cx) (H:Hp) (n:Nat) (x y:V) (b:Bool):Prop:=
 ∀ (pins:List (Addr×Obj)) (σ:St) (s:Shared) (u v:Value),Inv X pins σ H s→RelV x u→RelV y v→∀ A:Around,A.units+n < cLine→SeqAt.EqAt A s u v b
def RcW (X:Cx) (H:Hp) (n:Nat) (x y:V) (b:Bool):Prop:=
 ∀ (pins:List (Addr×Obj)) (σ:St) (s:Shared) (u v:Value),Inv X pins σ H s→RelV x u→RelV y v→∀ A:Around,A.units+n < cLine→SeqAt.RcAt A s u v b∧SeqAt.RcNeAt A s u v (!b)
theorem wc {H:Hp} {x y:V} (fx:ir x=true) (fy:ir y=true):EqW X H 0 x y (eqV x y):=fun _ _ _ _ _ _ rx ry _ _=>tV rx ry fx fy
theorem pq {H:Hp} (i j:Int):EqW X H 0 (.int i) (.int j) (i == j):=wc rfl rfl
theorem EqW.mono {H:Hp} {m n:Nat} {x y:V} {b:Bool} (h:EqW X H m x y b) (hl:m≤n):EqW X H n x y b:=fun pins σ s u v I rx ry A hu=>h pins σ s u v I rx ry A (by omega)
theorem RcW.mono {H:Hp} {m n:Nat} {x y:V} {b:Bool} (h:RcW X H m x y b) (hl:m≤n):RcW X H n x y b:=fun pins σ s u v I rx ry A hu=>h pins σ s u v I rx ry A (by omega)
theorem jJ (A:Around):A.in1.units=A.units+1:=rfl
theorem lN {H:Hp} {n:Nat} {a b:Addr} {xs ys:List V} {e:Nat→Bool} (ha:SqL X.K H a xs) (hb:SqL X.K H b ys) (hl:xs.length=ys.length) (he:∀ j x y,xs[j]? = some x→ys[j]? = some y→EqW X H n x y (e j)) :
  RcW X H (n+1) (.ref a) (.ref b) ((List.range xs.length).all e):=by
 intro pins σ s u v I rx ry A hu
 cases rx
 cases ry
 obtain ⟨its,r,pl,hz⟩:=I.list ha
 obtain ⟨its2,r2,pl2,hz2⟩:=I.list hb
 have l1:=r.length
 have l2:=r2.length
 have key:∀ j (h1:j < its.toArray.size) (h2:j < its2.toArray.size),SeqAt.EqAt A.in1 s its.toArray[j] its2.toArray[j] (e j):=fun j h1 h2=>by
  rw [List.size_toArray] at h1 h2
  have hx:j < xs.length:=by omega
  have hy:j < ys.length:=by omega
  obtain ⟨u1,e1,q1⟩:=r.get (List.getElem?_eq_getElem hx)
  obtain ⟨u2,e2,q2⟩:=r2.get (List.getElem?_eq_getElem hy)
  have t1:its.toArray[j]=u1:=by
   rw [List.getElem?_eq_getElem h1] at e1
   simpa using Option.some.inj e1
  have t2:its2.toArray[j]=u2:=by
   rw [List.getElem?_eq_getElem h2] at e2
   simpa using Option.some.inj e2
  rw [t1,t2]
  exact he j _ _ (List.getElem?_eq_getElem hx) (List.getElem?_eq_getElem hy) pins σ s u1 u2 I q1 q2 A.in1 (by rw [jJ];omega)
 have hs:its.toArray.size=its2.toArray.size:=by rw [List.size_toArray,List.size_toArray];omega
 have hsz:its.toArray.size=xs.length:=by rw [List.size_toArray];omega
 rw [← hsz]
 exact ⟨SeqAt.RcAt.lists pl.isList pl2.isList hs (by omega) key,SeqAt.RcNeAt.lists pl.isList pl2.isList hs (by omega) key⟩
theorem t7 {H:Hp} {a b:Addr} {xs ys:List V} (ha:SqL X.K H a xs) (hb:SqL X.K H b ys) (hl:xs.length≠ys.length):RcW X H 0 (.ref a) (.ref b) false:=by
 intro pins σ s u v I rx ry A hu
 cases rx
 cases ry
 obtain ⟨its,r,pl,hz⟩:=I.list ha
 obtain ⟨its2,r2,pl2,hz2⟩:=I.list hb
 have l1:=r.length
 have l2:=r2.length
 have hne:(its.toArray.size != its2.toArray.size)=true:=by
  rw [List.size_toArray,List.size_toArray,bne_iff_ne]
  omega
 exact ⟨SeqAt.RcAt.lists_lengths pl.isList pl2.isList hne (by omega),SeqAt.RcNeAt.lists_lengths pl.isList pl2.isList hne (by omega)⟩
theorem t8 {H:Hp} {n:Nat} {a b:Addr} {xs ys:List V} {e:Nat→Bool} (ha:SqT X.K H a xs) (hb:SqT X.K H b ys) (he:∀ j x y,xs[j]? = some x→ys[j]? = some y→EqW X H n x y (e j)) :
  RcW X H (n+1) (.ref a) (.ref b) ((List.range (min xs.length ys.length)).all e && xs.length == ys.length):=by
 intro pins σ s u v I rx ry A hu
 cases rx
 cases ry
 obtain ⟨its,r,pl,hz⟩:=I.tuple ha
 obtain ⟨its2,r2,pl2,hz2⟩:=I.tuple hb
 have l1:=r.length
 have l2:=r2.length
 have key:∀ j (h1:j < its.toArray.size) (h2:j < its2.toArray.size),SeqAt.EqAt A.in1 s its.toArray[j] its2.toArray[j] (e j):=fun j h1 h2=>by
  rw [List.size_toArray] at h1 h2
  have hx:j < xs.length:=by omega
  have hy:j < ys.length:=by omega
  obtain ⟨u1,e1,q1⟩:=r.get (List.getElem?_eq_getElem hx)
  obtain ⟨u2,e2,q2⟩:=r2.get (List.getElem?_eq_getElem hy)
  have t1:its.toArray[j]=u1:=by
   rw [List.getElem?_eq_getElem h1] at e1
   simpa using Option.some.inj e1
  have t2:its2.toArray[j]=u2:=by
   rw [List.getElem?_eq_getElem h2] at e2
   simpa using Option.some.inj e2
  rw [t1,t2]
  exact he j _ _ (List.getElem?_eq_getElem hx) (List.getElem?_eq_getElem hy) pins σ s u1 u2 I q1 q2 A.in1 (by rw [jJ];omega)
 have s1:its.toArray.size=xs.length:=by rw [List.size_toArray];omega
 have s2:its2.toArray.size=ys.length:=by rw [List.size_toArray];omega
 rw [← s1,← s2]
 exact ⟨SeqAt.RcAt.tuples pl pl2 (by omega) key,SeqAt.RcNeAt.tuples pl pl2 (by omega) key⟩
theorem t9 {H:Hp} {n:Nat} {a b:Addr} {k:Bool} (h:RcW X H n (.ref a) (.ref b) k) (hs:a=b→k=true):EqW X H n (.ref a) (.ref b) k:=by
 intro pins σ s u v I rx ry A hu
 cases rx
 cases ry
 by_cases e:a=b
 ·subst e
  rw [hs rfl]
  exact SeqAt.EqAt.same _
 ·exact SeqAt.EqAt.of_refs e (h pins σ s _ _ I rfl rfl A hu).1
def EY (X:Cx):R2:=fun x y H Q=>∃ b,RcW X H 8 x y b∧Q (.bl b) H
def EZ (X:Cx):R2:=fun x y H Q=>∃ b,RcW X H 8 x y b∧Q (.bl (!b)) H
theorem AQ {k:Nat} (hr:Room k X.A):OpR X (compareOp .Eq) (EY X):=by
 intro pins s σ H x y v u Q I rx ry h
 obtain ⟨b,hb,q⟩:=h
 exact (hb pins σ s v u I rx ry X.A (by have:=hr.units;omega)).1 _ _ _ _ ⟨.bl b,H,I,rfl,q⟩
theorem AS {k:Nat} (hr:Room k X.A):OpR X (compareOp .NotEq) (EZ X):=by
 intro pins s σ H x y v u Q I rx ry h
 obtain ⟨b,hb,q⟩:=h
 exact (hb pins σ s v u I rx ry X.A (by have:=hr.units;omega)).2 _ _ _ _ ⟨.bl (!b),H,I,rfl,q⟩
theorem ua (xs ys:List Int) (h:xs.length=ys.length):(List.range xs.length).all (fun j=>xs.getD j 0 == ys.getD j 0)=decide (xs=ys):=by
 rw [Bool.eq_iff_iff,List.all_eq_true,decide_eq_true_eq]
 constructor
 ·intro hh
  refine List.ext_getElem h fun i h1 h2 => ?_
  have:=hh i (List.mem_range.mpr h1)
  simpa [List.getD_eq_getElem?_getD,h1,h2] using this
 ·rintro rfl i _
  simp
theorem rm {H:Hp} {a b:Addr} {xs ys:List Int} (ha:SqL X.K H a (xs.map V.int)) (hb:SqL X.K H b (ys.map V.int)):RcW X H 8 (.ref a) (.ref b) (decide (xs=ys)):=by
 by_cases hl:xs.length=ys.length
 ·have h:=lN (X:=X) (n:=0) (e:=fun j=>xs.getD j 0 == ys.getD j 0) ha hb (by simpa using hl) fun j x y ex ey=>by
   rw [List.getElem?_map] at ex ey
   cases e1:xs[j]? with
   | none=>rw [e1] at ex;cases ex
   | some i=>
    cases e2:ys[j]? with
    | none=>rw [e2] at ey;cases ey
    | some i'=>
     rw [e1] at ex
     rw [e2] at ey
     cases ex
     cases ey
     rw [List.getD_eq_getElem?_getD,List.getD_eq_getElem?_getD,e1,e2]
     exact pq i i'
  rw [List.length_map,ua xs ys hl] at h
  exact h.mono (by omega)
 ·have h:=t7 (X:=X) ha hb (by simpa using hl)
  have:decide (xs=ys)=false:=decide_eq_false fun e=>hl (by rw [e])
  rw [this]
  exact h.mono (by omega)
end
theorem si (a b:Nat):(a ^^^ b)+(a &&& b)=a ||| b:=by
 have h:=nat_or_add_and (a ^^^ b) (a &&& b)
 have e1:(a ^^^ b) ||| (a &&& b)=a ||| b:=by
  apply Nat.eq_of_testBit_eq
  intro i
  simp only [Nat.testBit_or,Nat.testBit_xor,Nat.testBit_and]
  cases a.testBit i <;> cases b.testBit i <;> rfl
 have e2:(a ^^^ b) &&& (a &&& b)=0:=by
  apply Nat.eq_of_testBit_eq
  intro i
  simp only [Nat.testBit_xor,Nat.testBit_and,Nat.zero_testBit]
  cases a.testBit i <;> cases b.testBit i <;> rfl
 rw [e1,e2] at h
 omega
theorem sj (a b:Nat):Builtin.bitXor (a:Int) (b:Int)=((a ^^^ b:Nat):Int):=by
 rw [bitXor_and,bitAnd_pp (by omega) (by omega)]
 have h:=si a b
 have h2:=nat_or_add_and a b
 simp only [Int.toNat_natCast]
 omega
end L2
set_option maxHeartbeats 4000000
namespace L2
open PySem PySem.Spec PyProof.Rows
theorem au {H:Hp} {p:Addr} (h:H p=none) (o:HO):Same H (upd H p o):=fun b u q=>by rw [aX (aB q h)];exact q
theorem cz {H H':Hp} {p:Addr} {o:HO} (s:Same H H') (h:H p=none):Same H (upd H' p o):=fun b u q=>by rw [aX (aB q h)];exact s b u q
def Fx (H:Hp) (Q:VK) (l:List Int):Prop:=∀ r H',Same H H'→H r=none→H' r=some (.lst (l.map V.int))→Q (.ref r) H'
theorem small {n:Nat} (h:n≤1000):n≤sizeLine:=Nat.le_of_lt (bu h)
theorem kY (f:Nat→V) (i:Nat):(List.range i).map f++[f i]=(List.range (i+1)).map f:=by
 rw [List.range_succ,List.map_append];rfl
theorem wd {te:TE} {caps:St} {D:Addr} {H1:Hp} {lo:Int} {n:Nat} {Q:VK} (f:Nat→V) (hD:H1 D=none) (hn:n≤sizeLine)
  (he:∀ (i:Nat) (H':Hp) (R:VK),i < n→Same H1 H'→(∀ H2,Same H' H2→R (f i) H2)→te (caps++[some (.int (lo+i))]) H' R)
  (hQ:∀ Hf,Same H1 Hf→Hf D=some (.lst ((List.range n).map f))→Q (.ref D) Hf) :
  ∃ W:Nat→Nat→List V→Hp→Prop,(∃ m,W 0 m [] (upd H1 D (.lst [])))∧eB (Itr lo n) bE te caps D W Q:=by
 refine ⟨fun i m ys Hc=>m=n - i∧i≤n∧ys=(List.range i).map f∧Same H1 Hc∧Hc D=some (.lst ys),⟨n,rfl,Nat.zero_le _,rfl,au hD _,bA⟩,?_⟩
 rintro i m ys Hc ⟨rfl,hi,rfl,hs,hd⟩
 refine ⟨hd,?_⟩
 by_cases hlt:i < n
 ·refine .inr ⟨hlt,by rw [List.length_map,List.length_range];omega,fun v H' hy => ?_⟩
  obtain ⟨e1,e2⟩:=hy
  subst e1
  subst e2
  unfold bE
  dsimp only
  rw [if_pos rfl]
  refine he i _ _ hlt hs fun H2 s2=>⟨s2 _ _ hd,n - (i+1),by omega,rfl,hlt,?_,?_,bA⟩
  ·exact kY f i
  ·exact cz (hs.trans s2) hD
 ·have e:i=n:=by omega
  subst e
  exact .inl ⟨Nat.le_refl _,hQ Hc hs hd⟩
theorem we {K:PySem.W.Frag} {te:TE} {caps:St} {a D:Addr} {xs:List V} {H1:Hp} {Q:VK} (f:V→V) (hD:H1 D=none) (hn:xs.length≤sizeLine) (hl:SqL K H1 a xs)
  (he:∀ (i:Nat) (x:V) (H':Hp) (R:VK),xs[i]? = some x→Same H1 H'→(∀ H2,Same H' H2→R (f x) H2)→te (caps++[some x]) H' R)
  (hQ:∀ Hf,Same H1 Hf→Hf D=some (.lst (xs.map f))→Q (.ref D) Hf) :
  ∃ W:Nat→Nat→List V→Hp→Prop,(∃ m,W 0 m [] (upd H1 D (.lst [])))∧eB (Itl K a) bE te caps D W Q:=by
 refine ⟨fun i m ys Hc=>m=xs.length - i∧i≤xs.length∧ys=(xs.take i).map f∧Same H1 Hc∧Hc D=some (.lst ys),⟨xs.length,rfl,Nat.zero_le _,rfl,au hD _,bA⟩,?_⟩
 rintro i m ys Hc ⟨rfl,hi,rfl,hs,hd⟩
 refine ⟨hd,?_⟩
 by_cases hlt:i < xs.length
 ·refine .inr ⟨⟨xs,xs[i],hs.seq hl,by simp [hlt]⟩,by rw [List.length_map,List.length_take];omega,fun v H' hy => ?_⟩
  obtain ⟨e1,e2⟩:=hy
  subst e1
  have hv:=e2 xs (hs.seq hl)
  unfold bE
  dsimp only
  rw [if_pos rfl]
  refine he i v _ _ hv hs fun H2 s2=>⟨s2 _ _ hd,xs.length - (i+1),by omega,rfl,hlt,?_,?_,bA⟩
  ·have ev:v=xs[i]:=by
    rw [List.getElem?_eq_getElem hlt] at hv
    exact (Option.some.inj hv).symm
   rw [List.take_succ_eq_append_getElem hlt,List.map_append,ev]
   rfl
  ·exact cz (hs.trans s2) hD
 ·have e:i=xs.length:=by omega
  subst e
  refine .inl ⟨⟨xs,hs.seq hl,Nat.le_refl _⟩,hQ Hc hs ?_⟩
  rw [List.take_of_length_le (Nat.le_refl _)] at hd
  exact hd
end L2
set_option maxHeartbeats 4000000
namespace L2
open PySem PySem.Spec PyProof.Rows
def dq (ns:List Int):List Int:=firstMet (fun i=>ns.getD i 0) ns.length
section
variable {X:Cx}
def En (K:PySem.W.Frag):List V→Hp→VK→Prop:=fun xs H Q=>∃ p ns,xs=[.ref p]∧SqL K H p (ns.map V.int)∧ns.length≤100∧∀ l,H l=none→Q (.ref l) (upd H l (.set (fun k=>(dq ns).any (· == k)) (dq ns).length))
theorem lO (hc:X.calm=true):dz X (.type "set") (En X.K):=by
 intro pins s σ H xs us Q I r h
 obtain ⟨p,ns,rfl,hq,hl,q⟩:=h
 obtain ⟨u,rfl,rx⟩:=kq r
 cases rx
 obtain ⟨its,r',pl,hz⟩:=I.list hq
 have hlen:=r'.length
 rw [List.length_map] at hlen
 have hs:its.toArray.size=ns.length:=by rw [List.size_toArray];omega
 refine PySem.call_set_list (ns:=ns) (I.ok.hd hc) pl.isList (by simpa using kW r') (by rw [hs];exact Nat.lt_of_le_of_lt (Nat.succ_le_succ hl) (by decide)) fun h' tk hS hk => ?_
 rw [hs] at hS
 have kp:∀ b o,s.heap.get? b=some o→h'.get? b=some o:=fun b o e=>hk b o (Heap.lt_size e) e
 exact ⟨.ref s.heap.objs.size,_,I.laid (t':=tk) kp (Nat.le_refl _) (show ObjOk X.prog X.w _ h' _ (.set _ _) from hS),rfl,q _ (I.hok.fresh (Nat.le_refl _))⟩
def CV:List V→Hp→VK→Prop:=fun xs H Q=>∃ p S n,xs=[.ref p]∧H p=some (.set S n)∧Q (.int n) H
theorem lP:dz X (.builtin "len") CV:=by
 intro pins s σ H xs us Q I r h
 obtain ⟨p,S,n,rfl,hq,q⟩:=h
 obtain ⟨u,rfl,rx⟩:=kq r
 cases rx
 obtain ⟨o,es,ep,t,ho,hex,hd,_,_,hb,hf,hn⟩:=(show s.heap.SetOf (intKind X.prog X.w) p S n from I.hok p _ hq)
 refine PySem.call_len_set ho hex hd hf (by have:scanBound=4096:=rfl;omega) ⟨.int n,H,I.tok _,⟨_,by rw [hn]⟩,q⟩
end
theorem wf {acc:List Int} {x:Int} (h:acc.any (· == x)=true):step_dedup acc x=acc:=by
 unfold step_dedup
 rw [if_pos h]
theorem wg {ns:List Int}:(dq ns).length=1↔∃ x,ns≠[]∧∀ y∈ns,y=x:=by
 have hmem:∀ k,(dq ns).any (· == k)=ns.any (· == k):=fun k=>by
  unfold dq
  rw [firstMet_any]
  congr 1
  refine List.ext_getElem (by simp) fun i h1 h2 => ?_
  simp [List.getD_eq_getElem?_getD,h2]
 constructor
 ·intro h
  obtain ⟨x,e⟩:=List.length_eq_one_iff.mp h
  refine ⟨x,?_,fun y hy => ?_⟩
  ·rintro rfl
   rw [show dq []=[] from rfl] at e
   cases e
  ·have:=hmem y
   rw [e] at this
   have h2:ns.any (· == y)=true:=List.any_eq_true.mpr ⟨y,hy,by simp⟩
   rw [h2] at this
   have h3:(x == y)=true:=by simpa using this
   exact (beq_iff_eq.mp h3).symm
 ·rintro ⟨x,hne,hall⟩
  have key:∀ i,i < ns.length→firstMet (fun i=>ns.getD i 0) (i+1)=[x]:=by
   intro i
   induction i with
   | zero=>
    intro hi
    rw [firstMet_succ,firstMet_zero]
    have:ns.getD 0 0=x:=by
     have:=hall ns[0] (List.getElem_mem hi)
     simpa [List.getD_eq_getElem?_getD,hi] using this
    show step_dedup [] (ns.getD 0 0)=[x]
    rw [this]
    rfl
   | succ i ih=>
    intro hi
    rw [firstMet_succ,ih (by omega)]
    have:ns.getD (i+1) 0=x:=by
     have:=hall ns[i+1] (List.getElem_mem hi)
     simpa [List.getD_eq_getElem?_getD,hi] using this
    show step_dedup [x] (ns.getD (i+1) 0)=[x]
    rw [this]
    exact wf (by simp)
  have hl:0 < ns.length:=List.length_pos_iff.mpr hne
  have:=key (ns.length - 1) (by omega)
  rw [show ns.length - 1+1=ns.length by omega] at this
  unfold dq
  rw [this]
  rfl
end L2
set_option maxHeartbeats 4000000
namespace L2
open PySem PySem.Spec
theorem kt (o:Obj) (f):(o.mapFields f).dict=o.dict:=by
 obtain ⟨c,d,dt,sl⟩:=o;cases dt <;> rfl
def CW (h base:Heap) (e:Addr) (cls:Value) (dd:Option Addr) (fl:Value):Prop:=
 ∃ oe vs T oT ts,h.get? e=some oe∧(oe.cls=cls∧oe.dict=dd)∧oe.data = .fields vs∧vs[1]? = some (.ref T)∧base.get? T=none∧T≠e∧h.get? T=some oT∧oT.data = .fields ts∧ts[3]? = some fl
structure Aloft (base:Heap) (l:List Env) (e:Addr) (cls:Value) (dd:Option Addr) (fl:Value) (h:Heap):Prop where
 stay:base.StaysIn h
 new:base.get? e=none
 frames:h.FunFrames base l
 err:CW h base e cls dd fl
theorem Aloft.pop {base h:Heap} {env:Env} {l:List Env} {e:Addr} {cls fl:Value} {dd:Option Addr} (x:Aloft base (env :: l) e cls dd fl h):Aloft base l e cls dd fl h:=⟨x.stay,x.new,x.frames.2.2,x.err⟩
theorem Aloft.first {base h:Heap} {l:List Env} {e:Addr} {cls fl:Value} {dd:Option Addr} (x:Aloft base l e cls dd fl h):∃ oe vs,h.get? e=some oe∧oe.cls=cls∧oe.data = .fields vs∧oe.dict=dd:=
 let ⟨oe,vs,_,_,_,he,hc,hd,_⟩:=x.err;⟨oe,vs,he,hc.1,hd,hc.2⟩
section
variable {M:Model} {A:Around} {E:Value→Shared→Prop} {s:Shared}
theorem nk {base:Heap} {env:Env} {outer:List Env} {L e:Addr} {oe:Obj} {vs:Array Value} {head:Value} {hadNext:Bool} {Q:Unit→Shared→Prop}
  (hfr:A.frames=some (env :: outer)) (hl:s.heap.FunFrames base (env :: outer)) (hf:env.frame=some L)
  (he:s.heap.get? e=some oe) (hkb:base.StaysIn s.heap) (hen:base.get? e=none) (hd:oe.data = .fields vs) (hsz:1 < vs.size)
  (h:∀ h',Aloft base (env :: outer) e oe.cls oe.dict (rawInt L) h'→s.heap.UpToSlots h'→Q () {s with heap:=h'}) :
  wpAny M A (do let a ← frameOf env;let pl ← entryPlaceOf L hadNext;let b ← EntryCells.newEntry head a .none (rawInt L) .none pl;setField (.ref e) 1 b) Q E s:=by
 have hene:e∉(env :: outer).filterMap (·.frame):=fun hm=>by
  obtain ⟨_,o,ho,hnf⟩:=hl.mem hm
  rw [he] at ho;injection ho with ho;subst ho;exact hnf vs hd
 refine wpAny_bind (wpAny_frameOf_fun hfr hl hf fun h₁ hs₁ => ?_)
 refine wpAny_bind (wpAny_entryPlaceOf fun pl hpl => ?_)
 unfold EntryCells.newEntry newFields
 refine wpAny_bind (wpAny_newObj_type ?_ (hpl.sizeOk5 _ _ _ _ _))
 have he₁:h₁.get? e=some oe:=(hs₁.2.1 e hene).trans he
 have kb₁:base.StaysIn h₁:=fun b o hbo=>(hs₁.2.1 b fun hm=>by rw [(hl.mem hm).1] at hbo;cases hbo).trans (hkb b o hbo)
 have he₂:=Heap.get?_push_of_some (h:=h₁) {cls := .type "traceback",dict:=none,data := .fields ([head,.ref L,.none,rawInt L,.none]++(if pl.isEmpty then List.replicate 6 Value.none else pl)).toArray} he₁
 refine wpAny_setField he₂ hd hsz (h _ ?_ ?_)
 all_goals
  have hTe:h₁.objs.size≠e:=Nat.ne_of_gt (Heap.lt_size he₁)
  have hd₃:=Obj.data_mapFields hd (·.setIfInBounds 1 (Value.ref h₁.objs.size))
  have he₃:=Heap.get?_update_self (Obj.mapFields (·.setIfInBounds 1 (Value.ref h₁.objs.size))) he₂ (Obj.isFreed_of_fields hd₃)
  have hT₃:=(Heap.get?_update_other (h₁.push {cls := .type "traceback",dict:=none,data := .fields ([head,.ref L,.none,rawInt L,.none]++(if pl.isEmpty then List.replicate 6 Value.none else pl)).toArray})
   (Obj.mapFields (·.setIfInBounds 1 (Value.ref h₁.objs.size))) (Ne.symm hTe)).trans (Heap.get?_push_size h₁ rfl)
  have keep:∀ b o,b≠e→h₁.get? b=some o →
    ((h₁.push {cls := .type "traceback",dict:=none,data := .fields ([head,.ref L,.none,rawInt L,.none]++(if pl.isEmpty then List.replicate 6 Value.none else pl)).toArray}).update e (Obj.mapFields (·.setIfInBounds 1 (Value.ref h₁.objs.size)))).get? b=some o:=
   fun b o hbe hb=>by
    rw [Heap.get?_update_other _ _ (Ne.symm hbe)]
    exact Heap.get?_push_of_some _ hb
  have noRecord:∀ b o,s.heap.get? b=some o→(∀ vs,o.data ≠ .fields vs)→b≠e:=fun b o hb hnf q=>by
   rw [q,he] at hb;injection hb with hb;subst hb;exact hnf vs hd
 ·refine ⟨fun b o hbo=>keep b o (fun q=>by rw [q,hen] at hbo;cases hbo) (kb₁ b o hbo),hen,hl.of_keeps fun b o hb hnf => ?_,?_⟩
  ·obtain ⟨sl,hs⟩:=hs₁.2.2 b o hb
   exact ⟨_,keep b _ (noRecord b o hb hnf) hs,rfl⟩
  ·exact ⟨_,_,h₁.objs.size,_,_,he₃,⟨Obj.cls_mapFields _ _,kt _ _⟩,hd₃,by simp [hsz],kb₁.fresh,hTe,hT₃,rfl,by first | (simp;done) | (rcases hpl with rfl | ⟨_,_,_,_,_,_,_,rfl⟩ <;> simp)⟩
 ·intro b o hb hnf
  obtain ⟨sl,hs⟩:=hs₁.2.2 b o hb
  exact ⟨sl,keep b _ (noRecord b o hb hnf) hs⟩
theorem sk {base:Heap} {env:Env} {outer:List Env} {L e:Addr} {oe:Obj} {vs:Array Value} {Q:Unit→Shared→Prop}
  (hfr:A.frames=some (env :: outer)) (hl:s.heap.FunFrames base (env :: outer)) (hf:env.frame=some L)
  (he:s.heap.get? e=some oe) (hkb:base.StaysIn s.heap) (hen:base.get? e=none) (hd:oe.data = .fields vs) (h1:vs[1]? = some .none)
  (h:∀ h',Aloft base (env :: outer) e oe.cls oe.dict (rawInt L) h'→s.heap.UpToSlots h'→Q () {s with heap:=h'}):wpAny M A (noteFrame (.ref e) env) Q E s:=by
 unfold noteFrame
 simp only [hf]
 refine wpAny_bind (wpAny_field he hd h1 ?_)
 rw [if_neg (by decide)]
 exact nk hfr hl hf he hkb hen hd (Array.getElem?_eq_some_iff.mp h1).1 h
theorem nr {base:Heap} {env:Env} {outer:List Env} {L e:Addr} {cls:Value} {dd:Option Addr} {Q:Unit→Shared→Prop}
  (hfr:A.frames=some (env :: outer)) (hf:env.frame=some L) (x:Aloft base (env :: outer) e cls dd .none s.heap)
  (h:∀ h',Aloft base (env :: outer) e cls dd (rawInt L) h'→s.heap.UpToSlots h'→Q () {s with heap:=h'}):wpAny M A (noteFrame (.ref e) env) Q E s:=by
 obtain ⟨hkb,hen,hl,oe,vs,T,oT,ts,he,⟨hcls,hdd⟩,hd,h1,hnT,hTe,hT,hdT,h3⟩:=x
 subst hcls
 subst hdd
 unfold noteFrame
 simp only [hf]
 refine wpAny_bind (wpAny_field he hd h1 ?_)
 rw [if_pos (show (Value.ref T != Value.none)=true from by simp)]
 refine wpAny_bind (wpAny_field hT hdT h3 ?_)
 rw [if_neg (show ¬ ((Value.none == rawInt L)=true) from by simp [rawInt])]
 refine wpAny_bind (wpAny_setField hT hdT (Array.getElem?_eq_some_iff.mp h3).1 ?_)
 have other:∀ b,b≠T→(s.heap.update T (Obj.mapFields (·.setIfInBounds 3 Value.none))).get? b=s.heap.get? b:=fun b hb=>Heap.get?_update_other _ _ (Ne.symm hb)
 have noRecord:∀ b o,s.heap.get? b=some o→(∀ vs,o.data ≠ .fields vs)→b≠T:=fun b o hb hnf q=>by
  rw [q,hT] at hb;injection hb with hb;subst hb;exact hnf ts hdT
 exact nk hfr (hl.of_keeps fun b o hb hnf=>⟨o,(other b (noRecord b o hb hnf)).trans hb,rfl⟩) hf ((other e (Ne.symm hTe)).trans he)
  (fun b o hbo=>(other b fun q=>by rw [q,hnT] at hbo;cases hbo).trans (hkb b o hbo)) hen hd (Array.getElem?_eq_some_iff.mp h1).1
  fun h' x1 x4=>h h' x1 fun b o hb hnf=>x4 b o ((other b (noRecord b o hb hnf)).trans hb) hnf
theorem wj {base:Heap} {l:List Env} {e:Addr} {cls fl:Value} {dd:Option Addr} {Q:Unit→Shared→Prop} (x:Aloft base l e cls dd fl s.heap)
  (h:∀ h',Aloft base l e cls dd .none h'→s.heap.UpToSlots h'→Q () {s with heap:=h'}):wpAny M A (setFlight (.ref e) none) Q E s:=by
 obtain ⟨hkb,hen,hl,oe,vs,T,oT,ts,he,hcls,hd,h1,hnT,hTe,hT,hdT,h3⟩:=x
 have hsz3:3 < ts.size:=(Array.getElem?_eq_some_iff.mp h3).1
 have other:∀ b,b≠T→(s.heap.update T (Obj.mapFields (·.setIfInBounds 3 ((none:Option Addr).elim Value.none fun f=>rawInt f)))).get? b=s.heap.get? b:=
  fun b hb=>Heap.get?_update_other _ _ (Ne.symm hb)
 have noRecord:∀ b o,s.heap.get? b=some o→(∀ vs,o.data ≠ .fields vs)→b≠T:=fun b o hb hnf q=>by
  rw [q,hT] at hb;injection hb with hb;subst hb;exact hnf ts hdT
 unfold setFlight
 refine wpAny_bind (wpAny_field he hd h1 ?_)
 rw [if_pos (show (Value.ref T != Value.none)=true from by simp)]
 refine wpAny_setField hT hdT hsz3 (h _ ⟨fun b o hbo=>(other b fun q=>by rw [q,hnT] at hbo;cases hbo).trans (hkb b o hbo),hen,
  hl.of_keeps fun b o hb hnf=>⟨o,(other b (noRecord b o hb hnf)).trans hb,rfl⟩,?_⟩ fun b o hb hnf=>⟨o.slots,(other b (noRecord b o hb hnf)).trans hb⟩)
 exact ⟨oe,vs,T,_,_,(other e (Ne.symm hTe)).trans he,hcls,hd,h1,hnT,hTe,Heap.get?_update_self _ hT (Obj.isFreed_of_fields (Obj.data_mapFields hdT _)),Obj.data_mapFields hdT _,by simp [hsz3]⟩
theorem nu {base:Heap} {env:Env} {outer:List Env} {L e:Addr} {oe:Obj} {vs:Array Value} {Q:Unit→Shared→Prop}
  (hfr:A.frames=some (env :: outer)) (hl:s.heap.FunFrames base (env :: outer)) (hf:env.frame=some L)
  (he:s.heap.get? e=some oe) (hkb:base.StaysIn s.heap) (hen:base.get? e=none) (hd:oe.data = .fields vs) (h1:vs[1]? = some .none)
  (h:∀ h',Aloft base outer e oe.cls oe.dict .none h'→s.heap.UpToSlots h'→Q () {s with heap:=h'}):wpAny M A (leaving env (.ref e)) Q E s:=by
 unfold leaving
 exact wpAny_bind (sk hfr hl hf he hkb hen hd h1 fun h1 x1 u1=>wj (s:={s with heap:=h1}) x1 fun h2 x2 u2=>h h2 x2.pop (u1.trans u2))
theorem pr {base:Heap} {env:Env} {outer:List Env} {L e:Addr} {cls:Value} {dd:Option Addr} {Q:Unit→Shared→Prop}
  (hfr:A.frames=some (env :: outer)) (hf:env.frame=some L) (x:Aloft base (env :: outer) e cls dd .none s.heap)
  (h:∀ h',Aloft base outer e cls dd .none h'→s.heap.UpToSlots h'→Q () {s with heap:=h'}):wpAny M A (leaving env (.ref e)) Q E s:=by
 unfold leaving
 exact wpAny_bind (nr hfr hf x fun h1 x1 u1=>wj (s:={s with heap:=h1}) x1 fun h2 x2 u2=>h h2 x2.pop (u1.trans u2))
end
end L2
set_option maxHeartbeats 4000000
namespace L2
open PySem PySem.Spec PyProof.Rows
section
variable {P:Program} {w:World}
theorem ObjOk.there {H:Hp} {h:Heap} {a:Addr} {o:HO} (x:ObjOk P w H h a o):∃ ob,h.get? a=some ob:=by
 cases o with
 | lst xs=>obtain ⟨_,_,_,_,e⟩:=x;exact ⟨_,e⟩
 | tup xs=>obtain ⟨_,_,_,ob,e,_⟩:=x;exact ⟨_,e⟩
 | dK kvs=>obtain ⟨_,_,_,_,ob,_,_,e,_⟩:=x;exact ⟨_,e⟩
 | dT kvs=>obtain ⟨_,_,_,_,ob,_,_,e,_⟩:=x;exact ⟨_,e⟩
 | set S n=>obtain ⟨ob,_,_,_,e,_⟩:=x;exact ⟨_,e⟩
 | ins C dx fs=>obtain ⟨_,_,_,e,_⟩:=x;exact ⟨_,e⟩
 | own y=>exact x
 | xd fs=>obtain ⟨_,⟨_,_,_,e,_⟩,_⟩:=x;exact ⟨_,e⟩
 | rng lo hi=>obtain ⟨_,_,_,e⟩:=x;exact ⟨_,e⟩
 | frz ob u=>obtain ⟨e,_⟩:=x;exact ⟨_,e⟩
 | tbl ps=>exact ⟨_,(show h.get? a=some _ from x)⟩
 | met f y=>exact ⟨_,(show h.get? a=some _ from x)⟩
 | ext φ=>obtain ⟨_,e,_⟩:=x;exact e
structure Fly (P:Program) (w:World) (outer:List Env) (H:Hp) (s:Shared) (ea:Addr) (cls:Value) (dd:Option Addr) (B:Heap) (H':Hp) (s':Shared):Prop where
 os:s'.os=s.os
 bare:AllBare s'.gens
 fl:Aloft B outer ea cls dd .none s'.heap
 hok:HOk P w H' B
 new:s.heap.get? ea=none
 bk:∀ b o,s.heap.get? b=some o→H b=none→b∉frs outer→B.get? b=some o
 th:∀ b o,s.heap.get? b=some o→b∉frs outer→∃ o',B.get? b=some o'
 un:Un (frs outer) [] H H' s.heap s'.heap
theorem Fly.free {outer:List Env} {H:Hp} {s:Shared} {ea:Addr} {cls:Value} {dd:Option Addr} {B:Heap} {H':Hp} {s':Shared} (y:Fly P w outer H s ea cls dd B H' s'):H' ea=none:=by
 cases q:H' ea with
 | none=>rfl
 | some o=>
  obtain ⟨ob,e⟩:=(y.hok ea o q).there
  rw [y.fl.new] at e
  cases e
def CXe (P:Program) (w:World):CXT:=fun outer H s E e s'=>∃ (ea C:Addr) (dd:Option Addr) (B:Heap) (H':Hp),e = .ref ea∧Fly P w outer H s ea (.ref C) dd B H' s'∧E (.ref C) dd H'
section
variable {K:PySem.W.Frag} {mg:Str→Option Value} {base:Heap} {N:List Str} {qual:Str} {scope:Scope} {f:Addr} {cd:Value} {A:Around} {outer:List Env} {s₀:Shared} {H₀:Hp} {E:XK}
def del (H:Hp) (e:Addr):Hp:=fun b=>if b=e then none else H b
theorem nv {H:Hp} {e b:Addr} (h:b≠e):del H e b=H b:=by unfold del;rw [if_neg h]
theorem wk {H:Hp} {e b:Addr} (h:H b=none):del H e b=none:=by unfold del;split <;> first | rfl | exact h
theorem AT {H:Hp} {e b:Addr} {o:HO} (h:del H e b=some o):b≠e∧H b=some o:=by
 unfold del at h
 split at h
 ·cases h
 ·rename_i n;exact ⟨n,h⟩
theorem wm {H:Hp} {e:Addr} (h:H e=none):del H e=H:=by
 funext b
 unfold del
 split
 ·rename_i z;rw [z,h]
 ·rfl
theorem ub {pins:List (Addr×Obj)} {σ:St} {H:Hp} {s:Shared} {h':Heap} {e C:Addr} {dd:Option Addr} {oe:Obj} {vs:Array Value} (I:Inv (br (CXe P w) P w K mg base N qual scope f cd A outer s₀ H₀ E) pins σ H s)
  (k:∀ b o,b≠e→s.heap.get? b=some o→h'.get? b=some o) (he:h'.get? e=some oe) (hc:oe.cls = .ref C) (hdd:oe.dict=dd) (hd:oe.data = .fields vs) (h1:vs[1]? = some .none)
  (hnew:s₀.heap.get? e=none) (hs:∀ o,s.heap.get? e=some o→∃ vs,o.data = .fields vs) (hH:s.heap.get? e=none∨∃ φ,H e=some (.ext φ)) (hE:E (.ref C) dd (del H e)) :
  (br (CXe P w) P w K mg base N qual scope f cd A outer s₀ H₀ E).xe (.ref e) {s with heap:=h'}:=by
 subst hdd
 have hfr:frs (envOfC qual scope s₀.heap.objs.size f cd :: outer)=s₀.heap.objs.size :: frs outer:=rfl
 have hb:Un (frs outer) [] H₀ H s₀.heap s.heap:=I.base
 have hHe:H e=none∨∃ φ,H e=some (.ext φ):=by
  rcases hH with q | q
  ·refine .inl ?_
   cases r:H e with
   | none=>rfl
   | some o=>
    obtain ⟨ob,z⟩:=(I.hok e o r).there
    rw [q] at z
    cases z
  ·exact .inr q
 have notT:∀ b o,H b=some o→(∀ φ,o ≠ .ext φ)→b≠e:=fun b o q n z=>by
  subst z
  rcases hHe with r | ⟨φ,r⟩ <;> rw [q] at r
  ·cases r
  ·cases r;exact n φ rfl
 have ne0:∀ b o,s₀.heap.get? b=some o→b≠e:=fun b o q z=>by rw [z,hnew] at q;cases q
 have nf:e∉frs (envOfC qual scope s₀.heap.objs.size f cd :: outer):=fun z=>by
  obtain ⟨_,o,q,n⟩:=I.stack.mem z
  obtain ⟨vs,r⟩:=hs o q
  exact n vs r
 have keepB:∀ b o,s.heap.get? b=some o→b≠e→b∉frs (envOfC qual scope s₀.heap.objs.size f cd :: outer)→(PySem.W.hideAll s.heap (e :: frs (envOfC qual scope s₀.heap.objs.size f cd :: outer))).get? b=some o:=fun b o q ne hb=>
  PySem.W.hideAll_get _ q fun z=>(List.mem_cons.mp z).elim ne hb
 have notF:∀ b o,s₀.heap.get? b=some o→b∉frs outer→b∉frs (envOfC qual scope s₀.heap.objs.size f cd :: outer):=fun b o q hb z=>by
  rw [hfr] at z
  rcases List.mem_cons.mp z with z | z
  ·exact absurd (Heap.lt_size q) (by rw [z];exact Nat.lt_irrefl _)
  ·exact hb z
 have stB:(PySem.W.hideAll s.heap (e :: frs (envOfC qual scope s₀.heap.objs.size f cd :: outer))).StaysIn h':=fun b o q=>by
  refine k b o (fun z => ?_) (PySem.W.of_hideAll _ q)
  rw [z,PySem.W.hideAll_none _ (List.mem_cons_self)] at q
  cases q
 have ff:s.heap.FunFrames (PySem.W.hideAll s.heap (e :: frs (envOfC qual scope s₀.heap.objs.size f cd :: outer))) (envOfC qual scope s₀.heap.objs.size f cd :: outer):=
  PySem.W.funFrames_hide I.stack fun env he b hb=>List.mem_cons_of_mem _ (List.mem_filterMap.mpr ⟨env,he,hb⟩)
 have ff':h'.FunFrames (PySem.W.hideAll s.heap (e :: frs (envOfC qual scope s₀.heap.objs.size f cd :: outer))) (envOfC qual scope s₀.heap.objs.size f cd :: outer):=
  ff.of_keeps fun b o q n=>⟨o,k b o (fun z=>by subst z;obtain ⟨vs,r⟩:=hs o q;exact n vs r) q,rfl⟩
 refine nu (s:={s with heap:=h'}) I.ok.frames ff' rfl he stB (PySem.W.hideAll_none _ (List.mem_cons_self)) hd h1 fun h'' fl ups => ?_
 have hst:∀ b o,b∈frs outer→s.heap.get? b=some o→∃ sl,h''.get? b=some {o with slots:=sl}:=fun b o hb q=>by
  have hb':b∈frs (envOfC qual scope s₀.heap.objs.size f cd :: outer):=by rw [hfr];exact List.mem_cons_of_mem _ hb
  obtain ⟨_,o',q',nf'⟩:=I.stack.mem hb'
  rw [q] at q'
  cases q'
  exact ups b o (k b o (fun z=>nf (z ▸ hb')) q) nf'
 rw [hc] at fl
 refine ⟨e,C,oe.dict,_,del H e,rfl,⟨I.os,I.bare,fl,fun a o q => ?_,hnew,fun b o q n hb' => ?_,fun b o q hb' => ?_,⟨fun b o q n hb' _ => ?_,fun b o q n hb' _ => ?_,fun b o q n hx'=>wk (hb.free b o q n hx'),fun b o q _ => ?_,
  fun b xs q => ?_,fun b o u q => ?_,fun b ps q => ?_⟩⟩,hE⟩
 ·obtain ⟨na,q⟩:=AT q
  refine (I.hok a o q).stay (fun b u hb' r=>keepB b u r (fun z => ?_) fun z => ?_) (fun b r => ?_) fun b xs r => ?_
  ·rcases hb' with hb' | hb'
   ·exact na (hb' ▸ z)
   ·exact notT b _ hb' (fun φ z=>by cases z) z
  ·have hn:=I.stkFree b z
   rcases hb' with rfl | hb'
   ·rw [q] at hn;cases hn
   ·rw [hb'] at hn;cases hn
  ·rw [nv (notT b _ r fun φ z=>by cases z)];exact r
  ·rw [nv (notT b _ r fun φ z=>by cases z)];exact r
 ·exact keepB b o (hb.keep b o q n hb' (by simp)) (ne0 b o q) (notF b o q hb')
 ·obtain ⟨o',r⟩:=hb.there b o q (by simp)
  exact ⟨o',keepB b o' r (ne0 b o q) (notF b o q hb')⟩
 ·exact fl.stay b o (keepB b o (hb.keep b o q n hb' (by simp)) (ne0 b o q) (notF b o q hb'))
 ·obtain ⟨sl,r⟩:=hb.slot b o q n hb' (by simp)
  obtain ⟨sl',r'⟩:=hst b _ hb' r
  exact ⟨sl',r'⟩
 ·obtain ⟨o',r⟩:=hb.there b o q (by simp)
  by_cases hb':b∈frs outer
  ·obtain ⟨sl,r'⟩:=hst b o' hb' r
   exact ⟨_,r'⟩
  ·exact ⟨o',fl.stay b o' (keepB b o' r (ne0 b o q) (notF b o q hb'))⟩
 ·have r:=hb.tups b xs q
  rw [nv (notT b _ r fun φ z=>by cases z)];exact r
 ·have r:=hb.frzs b o u q
  rw [nv (notT b _ r fun φ z=>by cases z)];exact r
 ·obtain ⟨m,r⟩:=hb.tbls b ps q
  exact ⟨m,by rw [nv (notT b _ r fun φ z=>by cases z)];exact r⟩
theorem gI {pins:List (Addr×Obj)} {σ:St} {H:Hp} {s:Shared} {h':Heap} {e C:Addr} {vs:List Value} (I:Inv (br (CXe P w) P w K mg base N qual scope f cd A outer s₀ H₀ E) pins σ H s) (hx:Heap.MadeExcOf s.heap h' e (.ref C) vs) (hE:E (.ref C) none H) :
  (br (CXe P w) P w K mg base N qual scope f cd A outer s₀ H₀ E).xe (.ref e) {s with heap:=h'}:=by
 have hb:Un (frs outer) [] H₀ H s₀.heap s.heap:=I.base
 obtain ⟨t,he,htn,ht⟩:=hx.there
 have hn:=hx.new
 have hf:H e=none:=by
  cases r:H e with
  | none=>rfl
  | some o=>
   obtain ⟨ob,z⟩:=(I.hok e o r).there
   rw [hn] at z
   cases z
 refine ub I (fun b o _ q=>hx.keeps b o q) he rfl rfl rfl rfl ?_ (fun o q=>by rw [hn] at q;cases q) (.inl hn) (by rw [wm hf];exact hE)
 cases q:s₀.heap.get? e with
 | none=>rfl
 | some o=>
  obtain ⟨o',r⟩:=hb.there e o q (by simp)
  rw [hn] at r
  cases r
theorem pw {E':XK} (hE:∀ c d H',E' c d H'→E c d H'):cI (CXe P w) (br (CXe P w) P w K mg base N qual scope f cd A outer s₀ H₀ E) E':=by
 rintro pins σ H s e s' I ⟨ea,C,dd,B,H',rfl,y,hq⟩
 have hfr:frs (envOfC qual scope s₀.heap.objs.size f cd :: outer)=s₀.heap.objs.size :: frs outer:=rfl
 have hb:Un (frs outer) [] H₀ H s₀.heap s.heap:=I.base
 have y:Fly P w (envOfC qual scope s₀.heap.objs.size f cd :: outer) H s ea (.ref C) dd B H' s':=y
 have notF:∀ b o,s₀.heap.get? b=some o→b∉frs outer→b∉frs (envOfC qual scope s₀.heap.objs.size f cd :: outer):=fun b o q hb z=>by
  rw [hfr] at z
  rcases List.mem_cons.mp z with z | z
  ·exact absurd (Heap.lt_size q) (by rw [z];exact Nat.lt_irrefl _)
  ·exact hb z
 have inF:∀ b,b∈frs outer→b∈frs (envOfC qual scope s₀.heap.objs.size f cd :: outer):=fun b hb=>by rw [hfr];exact List.mem_cons_of_mem _ hb
 refine pr I.ok.frames rfl y.fl fun h'' fl ups => ?_
 have hst:∀ b o,b∈frs outer→s.heap.get? b=some o→H b=none→∃ sl,h''.get? b=some {o with slots:=sl}:=fun b o hb q n=>by
  obtain ⟨sl,r⟩:=y.un.slot b o q n (inF b hb) (by simp)
  obtain ⟨_,o',q',nf⟩:=y.fl.frames.mem (inF b hb)
  rw [r] at q'
  cases q'
  obtain ⟨sl',r'⟩:=ups b _ r nf
  exact ⟨sl',r'⟩
 refine ⟨ea,C,dd,B,H',rfl,⟨y.os.trans I.os,y.bare,fl,y.hok,?_,fun b o q n hb' => ?_,fun b o q hb' => ?_,⟨fun b o q n hb' _ => ?_,fun b o q n hb' _ => ?_,fun b o q n hx' => ?_,fun b o q _ => ?_,
  fun b xs q=>y.un.tups b xs (hb.tups b xs q),fun b o u q=>y.un.frzs b o u (hb.frzs b o u q),fun b ps q => ?_⟩⟩,hE _ _ _ hq⟩
 ·cases q:s₀.heap.get? ea with
  | none=>rfl
  | some o=>
   obtain ⟨o',r⟩:=hb.there ea o q (by simp)
   have hne:=y.new
   rw [r] at hne
   cases hne
 ·exact y.bk b o (hb.keep b o q n hb' (by simp)) (hb.free b o q n (by simp)) (notF b o q hb')
 ·obtain ⟨o',r⟩:=hb.there b o q (by simp)
  exact y.th b o' r (notF b o q hb')
 ·exact fl.stay b o (y.bk b o (hb.keep b o q n hb' (by simp)) (hb.free b o q n (by simp)) (notF b o q hb'))
 ·obtain ⟨sl,r⟩:=hb.slot b o q n hb' (by simp)
  obtain ⟨sl',r'⟩:=hst b _ hb' r (hb.free b o q n (by simp))
  exact ⟨sl',r'⟩
 ·obtain ⟨o',r⟩:=hb.there b o q (by simp)
  exact y.un.free b o' r (hb.free b o q n hx') (by simp)
 ·obtain ⟨o',r⟩:=hb.there b o q (by simp)
  by_cases hb':b∈frs outer
  ·obtain ⟨sl,r'⟩:=hst b o' hb' r (I.stkFree b (inF b hb'))
   exact ⟨_,r'⟩
  ·obtain ⟨o2,r2⟩:=y.th b o' r (notF b o q hb')
   exact ⟨o2,fl.stay b o2 r2⟩
 ·obtain ⟨m1,e1⟩:=hb.tbls b ps q
  obtain ⟨m2,e2⟩:=y.un.tbls b _ e1
  exact ⟨m1++m2,by rw [e2,Array.append_assoc]⟩
end
end
end L2
set_option maxHeartbeats 4000000
namespace L2
open PySem PySem.Spec PyProof.Rows
section
variable {X:Cx}
abbrev TJ:=St→Hp→(Hp→Prop)→Prop
def PJ (X:Cx) (es:List Expr) (m:Nat) (t:TJ):Prop:=∀ (acc:Str) (pins:List (Addr×Obj)) (s:Shared) (σ:St) (H:Hp) (Q:VK),acc.length+m≤100000→Inv X pins σ H s→(t σ H fun H'=>∀ y:Str,Q (.str y) H') →
 wpAny (model X.prog X.w) X.A (joinParts acc (evalEach es X.env)) (EP X pins σ Q) X.xe s
theorem yq {n:Nat} (h:n≤100000):n≤sizeLine:=by rw [sizeLine_eq];omega
theorem nw:PJ X [] 0 (fun _ H k=>k H):=fun acc pins s σ H Q hl I h=>joinParts_nil ⟨.str acc,H,I.tok _,⟨_,rfl⟩,h acc⟩ (yq hl)
theorem xF {x:Str} {es:List Expr} {j pos m} {t:TJ} (hr:PJ X es m t) (hx:x.length≤200:=by decide):PJ X (.Constant (.str x) j pos :: es) (m+200) t:=fun acc pins s σ H Q hl I h=>by
 refine joinParts_cons (Calls.Constant_str ⟨?_,?_⟩)
 ·rw [strLen_append];exact yq (by omega)
 ·exact hr (acc++x) pins _ σ H Q (by rw [strLen_append];omega) (I.tok _) h
theorem AU {e:Expr} {es:List Expr} {pos m} {te:TE} {t:TJ} (he:PE X e te) (hr:PJ X es m t):PJ X (.FormattedValue e (-1) none pos :: es) (m+1921) (fun σ H k=>te σ H fun v H1=>∃ i,v = .int i∧i.natAbs.log2 < 1920∧t σ H1 k):=fun acc pins s σ H Q hl I h=>by
 refine joinParts_cons (FormattedValue_plain (thn (he pins s σ H _ I h) fun v s1 ⟨x,H1,I1,r1,i,e,hi,q⟩ => ?_))
 subst e
 obtain ⟨tk,rfl⟩:=r1
 have hlen:=int_text_len_1921 hi
 refine wpAny_formatField_int hi ⟨?_,?_⟩
 ·rw [strLen_append];exact yq (by omega)
 ·exact hr _ pins _ σ H1 Q (by rw [strLen_append];omega) (I1.tok _) q
def CY (t:TJ):TE:=fun σ H Q=>t σ H fun H'=>∀ y:Str,Q (.str y) H'
theorem jK {v1 v2:Expr} {rest:List Expr} {pos:Pos} {m:Nat} {t:TJ} (h:PJ X (v1 :: v2 :: rest) m t) (hm:m≤100000:=by decide):PE X (.JoinedStr (v1 :: v2 :: rest) pos) (CY t):=fun pins s σ H Q I hq=>
 JoinedStr_many (h Str.empty pins s σ H Q (by show 0+m≤100000;omega) I hq)
theorem yr {K:PySem.W.Frag} {h:Heap} {C:Addr} {bmB:List Value} {newId:String} (KX:K.In h) (q:PySem.W.excIn K C bmB newId=true) :
  ∃ bm N nm qn bs hdct sn sub ab col dd k0 k1 k2 k3 k5 mN,h.get? C=some (excClassObj nm qn C N bs bm hdct sn sub ab col dd k0 k1 k2 k3 k5 newId)∧h.Ns N mN∧mN "__init__" = none∧OwnTail h bmB bm:=by
 unfold PySem.W.excIn at q
 split at q
 ·rename_i dd cdt slots hlk
  split at q
  ·rename_i C2 tl k0 k1 k2 k3 nn k5 hmro hsl
   simp only [Bool.and_eq_true,beq_iff_eq,Bool.not_eq_true'] at q
   obtain ⟨⟨⟨⟨⟨e1,e2⟩,e3⟩,e4⟩,e5⟩,e6⟩:=q
   subst e1
   subst e2
   obtain ⟨nm,bs,mro,nsa,qn,hdc,sn,sub,ab,col,del⟩:=cdt
   dsimp only at hmro e3 e5 e6
   subst hmro
   subst e3
   obtain ⟨lst⟩:=slots
   dsimp only at hsl
   subst hsl
   exact ⟨tl,nsa,nm,qn,bs,hdc,sn,sub,ab,col,dd,k0,k1,k2,k3,k5,_,KX _ _ hlk,.of_isNs (PySem.W.isNs_of_in KX e5),PySem.W.nsMap_none_of_in KX e5 e6,PySem.W.tail_of_in KX e4⟩
  ·cases q
 ·cases q
def AV (C:Addr) (E:XK) (ta:TA):TS:=fun _ σ H=>ta σ H fun vs H1=>vs.length≤100∧E (.ref C) none H1
theorem gJ {E:XK} {x:Str} {C:Addr} {e0:Expr} {rest:List Expr} {ta:TA} {bmB:List Value} {B newId initId:String} {np cpos pos:Pos}
  (hX:∀ (pins:List (Addr×Obj)) (σ:St) (H:Hp) (s:Shared) (h':Heap) (e:Addr) (vs:List Value),Inv X pins σ H s→Heap.MadeExcOf s.heap h' e (.ref C) vs→E (.ref C) none H→X.xe (.ref e) {s with heap:=h'})
  (FB:ExcBaseFacts B newId initId bmB) (q:PySem.W.excIn X.K C bmB newId=true) (hc:X.calm=true) (hg:Gl X x) (hm:X.mg x=some (.ref C)) (ha:PA X (e0 :: rest) ta)
  (he:starEach (e0 :: rest) X.env=(false,eval e0 X.env) :: starEach rest X.env:=by rfl) (hpl:(backTo cpos (starEach rest X.env)).any (·.1)=false:=by rfl) (hd:(x == ("__debug__" : Str))=false:=by decide) :
  PS X (.Raise (some (.Call (.Name x np) (e0 :: rest) [] cpos)) none pos) (AV C E ta):=by
 intro pins s σ H D I h
 obtain ⟨bm,N,nm,qn,bs,hdct,sn,sub,ab,col,dd,k0,k1,k2,k3,k5,mN,hC,hN,hni,T⟩:=yr I.mod.kin q
 have hb:=T.hasType FB.hasBase
 refine wpAny_Raise_call_subT (C:=C) (nm:=nm) (q:=qn) (N:=N) (bs:=bs) (bm:=bm) (hdct:=hdct) (sn:=sn) (sub:=sub) (ab:=ab) (col:=col) (dd:=dd) (k0:=k0) (k1:=k1) (k2:=k2) (k3:=k3) (k5:=k5) (mN:=mN)
  FB hb (I.ok.hd hc) (by rw [he];show (false || (backTo cpos (starEach rest X.env)).any (·.1))=false;rw [hpl];rfl) hni (d8 I hg hm ⟨rfl,?_⟩ hd)
 have hp:=ha cpos pins s σ H _ I h
 rw [he] at hp ⊢
 refine Calls.evalArgs_plain (wpAny_mono hp (fun us s1 ⟨vs,H1,I1,r1,hl,hq⟩=>⟨rfl,?_,I1.bk _ _ hC,hN.keeps I1.bk,T.keeps I1.bk,fun h' e hx=>hX pins σ H1 s1 h' e us I1 hx hq⟩) fun _ _ z=>z)
 rw [← r1.length]
 exact small (by omega)
end
theorem Fun.okE {P:Program} {w:World} {K:PySem.W.Frag} {mg:Str→Option Value} {base:Heap} {x qual:Str} {st:Stmt} {f:Addr} {fd:FuncData} {N ps:List Str} {k:Nat} {sp:Sp} (F:Fun K x qual st f fd) (S:FnScope N ps (ah st)) (len:∀ vs H Q E,sp vs H Q E→vs.length=ps.length)
  (hbody:∀ (cdv:Value) (A:Around) (outer:List Env) (s:Shared) (H:Hp) (vs:List V) (Q:VK) (E:XK),Room k (A.deeper (envOfC qual (ah st) s.heap.objs.size f cdv))→sp vs H Q E →
   ∃ t,PSs (br (CXe P w) P w K mg base N qual (ah st) f cdv A outer s H E) (cv st) t∧t {nx:=fun _ H'=>Q .non H',rt:=Q} (start N vs) H):FnOk P w K mg base (CXe P w) (k+1) f fd ps sp:=by
 obtain ⟨oc,od,kV,doc,pm,an,cdv,ct,osl,rfl,lk,hcd⟩:=F.ex
 exact AG lk hcd S len fun A outer s H vs Q E hr hsp=>hbody cdv A outer s H vs Q E hr hsp
end L2
set_option maxHeartbeats 4000000
namespace L2
open PySem PySem.Spec PyProof.Rows
theorem Fly.move {P:Program} {w:World} {outer:List Env} {H:Hp} {s:Shared} {ea:Addr} {cls:Value} {dd:Option Addr} {B:Heap} {H':Hp} {s':Shared} {h5:Heap} (y:Fly P w outer H s ea cls dd B H' s') (fl:Aloft B outer ea cls dd .none h5) (ups:s'.heap.UpToSlots h5)
  (stf:∀ b∈frs outer,H b=none) (fns:∀ b∈frs outer,∃ o,s.heap.get? b=some o):Fly P w outer H s ea cls dd B H' {s' with heap:=h5}:=by
 have hst:∀ b o,b∈frs outer→s.heap.get? b=some o→∃ sl,h5.get? b=some {o with slots:=sl}:=fun b o hb q=>by
  obtain ⟨sl,r⟩:=y.un.slot b o q (stf b hb) hb (by simp)
  obtain ⟨_,o',q',nf⟩:=y.fl.frames.mem hb
  rw [r] at q'
  cases q'
  obtain ⟨sl',r'⟩:=ups b _ r nf
  exact ⟨sl',r'⟩
 refine ⟨y.os,y.bare,fl,y.hok,y.new,y.bk,y.th,⟨fun b o q n hb _=>fl.stay b o (y.bk b o q n hb),fun b o q n hb _=>hst b o hb q,y.un.free,fun b o q _ => ?_,y.un.tups,y.un.frzs,y.un.tbls⟩⟩
 by_cases hb:b∈frs outer
 ·obtain ⟨sl,r⟩:=hst b o hb q
  exact ⟨_,r⟩
 ·obtain ⟨o',r⟩:=y.th b o q hb
  exact ⟨o',fl.stay b o' r⟩
def vH (ea C:Addr) (dd:Option Addr:=none):HO := .ext fun h=>∃ o vs,h.get? ea=some o∧o.cls = .ref C∧o.data = .fields vs∧o.dict=dd
section
variable {X:Cx} {pins:List (Addr×Obj)} {σ:St} {H:Hp} {s:Shared}
theorem Inv.caught {ea C:Addr} {dd:Option Addr} {B:Heap} {H':Hp} {s':Shared} (I:Inv X pins σ H s) (y:Fly X.prog X.w X.stack H s ea (.ref C) dd B H' s'):Inv X pins σ (upd H' ea (vH ea C dd)) s':=by
 have hn:=y.free
 have ne:∀ b o,s.heap.get? b=some o→b≠ea:=fun b o q z=>by
  have:=y.new
  rw [← z,q] at this
  cases this
 have nt:∀ b o,H' b=some o→b≠ea:=fun b o q z=>by rw [z,hn] at q;cases q
 have hok:HOk X.prog X.w H' s'.heap:=y.hok.kept y.fl.stay
 refine I.call' (ch:=[]) y.os ⟨y.un.keep,y.un.slot,fun b o q n hx=>by rw [aX (ne b o q)];exact y.un.free b o q n hx,y.un.there,fun b xs q => ?_,fun b o u q => ?_,fun b ps q => ?_⟩ (fun a o q => ?_) y.bare fun b hb=>absurd hb (by simp)
 ·have r:=y.un.tups b xs q
  rw [aX (nt b _ r)];exact r
 ·have r:=y.un.frzs b o u q
  rw [aX (nt b _ r)];exact r
 ·obtain ⟨more,r⟩:=y.un.tbls b ps q
  exact ⟨more,by rw [aX (nt b _ r)];exact r⟩
 ·by_cases ha:a=ea
  ·subst ha
   rw [bA] at q
   cases q
   obtain ⟨oe,vs,h1,h2,h3,h4⟩:=y.fl.first
   exact ⟨⟨oe,vs,h1,h2,h3,h4⟩,⟨oe,h1⟩,fun h1 h2 ⟨o,vs,e1,e2,e3⟩ k=>⟨o,vs,k o e1,e2,e3⟩⟩
  ·rw [aX ha] at q
   exact (hok a o q).stay (fun b u _ r=>r) (fun b r=>by rw [aX (nt b _ r)];exact r) fun b xs r=>by rw [aX (nt b _ r)];exact r
abbrev Cx.marked (X:Cx) (e:Value):Cx:={X with A:=X.A.mark (some e),calm:=false,xe:=fun _ _=>False}
theorem Inv.mark (I:Inv X pins σ H s) (e:Value):Inv (X.marked e) pins σ H s:=
 ⟨⟨I.ok.mod,I.ok.kind,I.ok.glob,I.ok.blt,I.ok.above,I.ok.inj,I.ok.has,I.ok.cab,(fun z=>by cases z),I.ok.frames,I.ok.stk,I.ok.exf,I.ok.bs,I.ok.bsz,I.ok.noex,I.ok.exfs,I.ok.funs,I.ok.frf⟩,I.os,I.bare,I.base,I.loc,I.cell,I.free,I.freeC,I.pin,I.hok,I.len⟩
theorem Inv.unmark {e:Value} (ok:X.Ok) (I:Inv (X.marked e) pins σ H s):Inv X pins σ H s:=
 ⟨ok,I.os,I.bare,I.base,I.loc,I.cell,I.free,I.freeC,I.pin,I.hok,I.len⟩
theorem Inv.unbound {i:Nat} {n:Str} {h':Heap} {m:Str→Option Value} {u:Option Value} (I:Inv X pins σ H s) (hN:X.N.Nodup) (hi:X.N[i]? = some n) (hn:s.heap.Ns X.env.locals m)
  (hm:∀ (j:Nat) (y:Str) (v:V),X.N[j]? = some y→σ[j]? = some (some v)→Vis X.env.scope y→∃ u,RelV v u∧CJ X.env s.heap m y u)
  (hn':h'.Ns X.env.locals (fun x=>if x=n then u else m x)) (hs:Heap.SameBut X.env.locals s.heap h'):Inv X pins (σ.set i none) H {s with heap:=h'}:=by
 have neL:∀ b o,X.s₀.heap.get? b=some o→b≠X.env.locals:=fun b o e=>Nat.ne_of_lt (Nat.lt_of_lt_of_le (Heap.lt_size e) I.ok.above)
 refine ⟨I.ok,I.os,I.bare,⟨fun b o e n hb hx => ?_,fun b o e n hb hx => ?_,I.base.free,fun b o e hx => ?_,I.base.tups,I.base.frzs,I.base.tbls⟩,⟨_,hn',fun j y v e1 e2 e3 => ?_⟩,fun y c e => ?_,I.free,I.freeC,fun p hp => ?_,fun a o q => ?_,by simpa using I.len⟩
 ·exact (hs.2 b (neL b o e)).trans (I.base.keep b o e n hb hx)
 ·obtain ⟨sl,r⟩:=I.base.slot b o e n hb hx
  exact ⟨sl,(hs.2 b (neL b o e)).trans r⟩
 ·obtain ⟨o',r⟩:=I.base.there b o e hx
  exact ⟨o',(hs.2 b (neL b o e)).trans r⟩
 ·by_cases hj:j=i
  ·subst hj
   by_cases hl:j < σ.length
   ·rw [List.getElem?_set_self hl] at e2;cases e2
   ·rw [List.getElem?_eq_none (by simpa using hl)] at e2;cases e2
  ·rw [List.getElem?_set_ne (Ne.symm hj)] at e2
   obtain ⟨u',r',q⟩:=hm j y v e1 e2 e3
   refine ⟨u',r',?_⟩
   rcases q with ⟨k,e⟩ | ⟨k,c,e,z⟩
   ·have hne:y≠n:=fun e=>hj (lH hN e1 (e ▸ hi))
    exact .inl ⟨k,by simp [hne,e]⟩
   ·exact .inr ⟨k,c,e,z.sameBut hs (I.cne y c e)⟩
 ·obtain ⟨w',z⟩:=I.cell y c e
  exact ⟨w',z.sameBut hs (I.cne y c e)⟩
 ·obtain ⟨e,n,ne,nf,d⟩:=I.pin p hp
  exact ⟨(hs.2 p.1 ne).trans e,n,ne,nf,d⟩
 ·refine (I.hok a o q).stay (fun c w' hc r=>(hs.2 c ?_).trans r) (fun _ r=>r) fun _ _ r=>r
  rintro rfl
  rcases hc with rfl | hc
  ·rw [I.free] at q;cases q
  ·rw [I.free] at hc;cases hc
theorem Inv.bound {i:Nat} {n:Str} {v:V} (I:Inv X pins σ H s) (hi:X.N[i]? = some n) (hv:σ[i]? = some (some v)) (hk:X.env.scope.names.lookup n=some .local) :
  ∃ m u,s.heap.Ns X.env.locals m∧m n=some u∧∀ (j:Nat) (y:Str) (v:V),X.N[j]? = some y→σ[j]? = some (some v)→Vis X.env.scope y→∃ u,RelV v u∧CJ X.env s.heap m y u:=by
 obtain ⟨m,hn,hl⟩:=I.loc
 obtain ⟨u,_,l⟩:=hl i n v hi hv (.inl hk)
 rcases l with ⟨_,e⟩ | ⟨k,_⟩
 ·exact ⟨m,u,hn,e,hl⟩
 ·have k:X.env.scope.names.lookup n=some .cell∨X.env.scope.names.lookup n=some .free:=k
  rcases k with k | k <;> rw [hk] at k <;> cases k
end
theorem pB {M:Model} {A:Around} {E:Value→Shared→Prop} {K:PySem.W.Frag} {s:Shared} {ea C D:Addr} {o:Obj} {Q:Bool→Shared→Prop} (KX:K.In s.heap) (ho:s.heap.get? ea=some o) (hc:o.cls = .ref C)
  (h1:PySem.W.typeIn K (.ref D)=some (.type "type")) (h2:(PySem.W.clsIn K D).isSome=true) (h3:PySem.W.mroIn K D (.type "BaseException")=some true) (h4:PySem.W.mroIn K C (.ref D)=some true) (q:Q true s) :
  wpAny M A (excMatches (.ref ea) (.ref D)) Q E s:=by
 have L1:PySem.W.Looks M s.heap (typeOf (.ref D)) (.type "type"):=PySem.W.looks_typeIn KX h1
 have L2:PySem.W.Looks M s.heap (isSubtype (.ref D) (.type "BaseException")) true:=PySem.W.looks_mroIn KX h3
 have L3:PySem.W.Looks M s.heap (isSubtype (.ref C) (.ref D)) true:=PySem.W.looks_mroIn KX h4
 have L4:PySem.W.Looks M s.heap (typeOf (.ref ea)) (.ref C):=hc ▸ (PySem.W.Looks.ld ho).andThen .now
 have L5:PySem.W.Looks M s.heap (isType (.ref D)) true:=by
  obtain ⟨cd,e⟩:=Option.isSome_iff_exists.mp h2
  unfold PySem.W.clsIn at e
  split at e
  ·rename_i ho2
   intro A' Q' E' s' k q
   unfold isType loadHead
   exact wpAny_bind (wpAny_loadPart (k _ _ (KX _ _ ho2)) (wpAny_pure q))
  ·cases e
 have f:isSubtype (.type "type") (.type "tuple")=pure false:=tc_notTuple
 unfold excMatches isInstance isExcClass
 refine wpAny_bind (wpAny_bind (L1.at ?_))
 rw [f]
 refine wpAny_pure ?_
 simp only [Bool.false_eq_true,if_false]
 refine wpAny_bind (wpAny_pure ?_)
 rw [List.forIn_cons]
 refine wpAny_bind (wpAny_bind (wpAny_bind (wpAny_bind (L5.at ?_))))
 rw [if_pos rfl]
 refine L2.at ?_
 rw [if_neg (by decide)]
 refine wpAny_pure ?_
 show wpAny M A (pure PUnit.unit) _ E _
 refine wpAny_pure (wpAny_bind (L4.at ?_))
 rw [List.forIn_cons]
 refine wpAny_bind (wpAny_bind (wpAny_bind (L3.at ?_)))
 rw [if_pos rfl]
 exact wpAny_pure (wpAny_pure (wpAny_pure q))
end L2
set_option maxHeartbeats 4000000
namespace L2
open PySem PySem.Spec PyProof.Rows
section
variable {X:Cx}
def Eo (X:Cx) (pins:List (Addr×Obj)) (σ:St) (ex:Addr→Option Addr→Hp→Prop) (e:Value) (s1:Shared):Prop:=
 ∃ (ea C:Addr) (dd:Option Addr) (B:Heap) (H' H0:Hp) (s0:Shared),e = .ref ea∧Inv X pins σ H0 s0∧Fly X.prog X.w X.stack H0 s0 ea (.ref C) dd B H' s1∧ex C dd H'
abbrev exK (ex:Addr→Option Addr→Hp→Prop):XK:=fun c dd H'=>∃ C,c = .ref C∧ex C dd H'
theorem sq {k:Nat} {f:Addr} {fd:FuncData} {ps:List Str} {sp:Sp} {x:Str} {p pos:Pos} {e:Expr} {es:List Expr} {t:TA} {dvs:List V} {ds:List Value} {pins:List (Addr×Obj)} {s:Shared} {σ:St} {H:Hp} {Q:VK} {ex:Addr→Option Addr→Hp→Prop}
  (F:FnOk X.prog X.w X.K X.mg X.base (CXe X.prog X.w) k f fd ps sp) (hr:Room k X.A) (hg:Gl X x) (hm:X.mg x=some (.ref f)) (hk:PySem.W.keepIn X.K (.ref f)=true) (hb:Binds X.K fd ps ds) (hd:Vals dvs ds) (ha:PA X.nox (e :: es) t)
  (I:Inv X pins σ H s) (h:t σ H fun vs H1=>sp (vs++dvs) H1 Q (exK ex)) (hdb:(x == ("__debug__" : Str))=false) (he:starEach (e :: es) X.env=(false,eval e X.env) :: starEach es X.env) (hpl:(backTo pos (starEach es X.env)).any (·.1)=false) :
  wpAny (model X.prog X.w) X.A (eval (.Call (.Name x p) (e :: es) [] pos) X.env) (EP X pins σ Q) (Eo X pins σ ex) s:=by
 refine wpAny_Call_Name_kw (d8 I hg hm ?_ hdb)
 refine PySem.W.callWith_K (h₀:=X.base) I.ok.mod.kin hk (wpAny_mono (ha pos pins s σ H _ (I.wish _) h) (fun us s1 ⟨vs,H1,I1,r,q⟩=>⟨I1.unwish.kIn,?_⟩) fun _ _ z=>z.elim) he hpl
 have I1':Inv X pins σ H1 s1:=I1.unwish
 have r2:Vals (vs++dvs) (us++ds):=r.append hd
 have hl:(us++ds).length=ps.length:=by rw [← r2.length];exact F.len _ _ _ _ q
 refine wpAny_call (codeAny_mono (F.run X.A X.stack s1 H1 ⟨us,[]⟩ (us++ds) (vs++dvs) Q _ hr I1'.env0 (hb s1 us I1'.kIn hl) r2 q) fun r s' hq => ?_)
 cases r with
 | error e'=>
  obtain ⟨ea,C,dd,B,H',rfl,y,D,hD,z⟩:=hq
  cases hD
  exact ⟨ea,C,dd,B,H',H1,s1,rfl,I1',y,z⟩
 | ok fl=>
  cases fl with
  | ret u=>exact I1'.after hq
  | next=>exact False.elim hq
  | brk=>exact False.elim hq
  | cont=>exact False.elim hq
abbrev TB:=St→Hp→(St→Hp→Prop)→(Addr→Option Addr→Hp→Prop)→Prop
def PB (X:Cx) (body:List Stmt) (t:TB):Prop:=∀ (pins:List (Addr×Obj)) (s:Shared) (σ:St) (H:Hp) (nx:St→Hp→Prop) (ex:Addr→Option Addr→Hp→Prop),Inv X pins σ H s→t σ H nx ex →
 wpAny (model X.prog X.w) X.A (execs body X.env) (fun f s1=>f = .next∧∃ σ' H',Inv X pins σ' H' s1∧nx σ' H') (Eo X pins σ ex) s
theorem yt {k:Nat} {f:Addr} {fd:FuncData} {ps:List Str} {sp:Sp} {x:Str} {p pos apos:Pos} {e:Expr} {es:List Expr} {t:TA} {dvs:List V} {ds:List Value}
  (F:FnOk X.prog X.w X.K X.mg X.base (CXe X.prog X.w) k f fd ps sp) (hr:Room k X.A) (hg:Gl X x) (hm:X.mg x=some (.ref f)) (hk:PySem.W.keepIn X.K (.ref f)=true) (hb:Binds X.K fd ps ds) (hd:Vals dvs ds) (ha:PA X.nox (e :: es) t)
  (hs:swapsWith (.Call (.Name x p) (e :: es) [] pos) none apos.line X.env=pure false:=by rfl)
  (hdb:(x == ("__debug__" : Str))=false:=by decide) (he:starEach (e :: es) X.env=(false,eval e X.env) :: starEach es X.env:=by rfl) (hpl:(backTo pos (starEach es X.env)).any (·.1)=false:=by rfl) :
  PB X [.Expr (.Call (.Name x p) (e :: es) [] pos) apos] (fun σ H nx ex=>t σ H fun vs H1=>sp (vs++dvs) H1 (fun _ H2=>nx σ H2) (exK ex)):=by
 intro pins s σ H nx ex I h
 refine wpAny_execs_cons (wpAny_Expr_any (thn (sq F hr hg hm hk hb hd ha I h hdb he hpl) fun v s1 ⟨u,H1,I1,r1,q1⟩ => ?_) I.quiet hs)
 exact wpAny_execs_nil ⟨rfl,_,H1,I1,q1⟩
theorem AW {body:List Stmt} {tb:TB} {bx n z:Str} {D:Addr} {iz ie:Nat} {np pz pn zp hpos pos:Pos} (hB:PB X body tb) (hst:X.stack=X.env :: X.outer) (hfr:X.env.frame=some X.env.locals) (hg:Gl X bx) (hm:X.mg bx=some (.ref D))
  (h1:PySem.W.typeIn X.K (.ref D)=some (.type "type")) (h2:(PySem.W.clsIn X.K D).isSome=true) (h3:PySem.W.mroIn X.K D (.type "BaseException")=some true)
  (hN:X.N.Nodup) (hi:X.N[ie]? = some n) (hl:X.env.scope.names.lookup n=some .local) (hz:X.N[iz]? = some z) (hlz:Loc X.env.scope z) (hf:X.fn z=true∨X.env.scope.names.lookup z=some .local:=by first | exact .inl rfl | exact .inr rfl | assumption)
  (hsw:swapsWith (.Name n pn) (some (.Name z pz)) zp.line X.env=pure false:=by rfl) (hdb:(bx == ("__debug__" : Str))=false:=by decide) (hd1:(n == ("__debug__" : Str))=false:=by decide) (hd2:(n == ("__classdict__" : Str))=false:=by decide) :
  PS X (.Try body [.ExceptHandler (some (.Name bx np)) (some n) [.Assign [.Name z pz] (.Name n pn) zp] hpos] [] [] pos)
   (fun D' σ H=>tb σ H D'.nx fun C d H'=>PySem.W.mroIn X.K C (.ref D)=some true∧∀ ea,H' ea=none→D'.nx (((σ.set ie (some (.ref ea))).set iz (some (.ref ea))).set ie none) (upd H' ea (vH ea C d))):=by
 intro pins s σ H D' I h
 refine wpAny_Try_except (wpAny_mono (hB pins s σ H _ _ I h) (fun f s1 ⟨hf',σ',H',I',q⟩ => ?_) (fun e s1 hx => ?_))
 ·subst hf'
  exact wpAny_execs_nil ⟨σ',H',I',q⟩
 ·obtain ⟨ea,C,dd,B,H',H0,s0,rfl,I0,y,hmro,q⟩:=hx
  have frs0:X.A.frames=some (X.env :: X.outer):=by rw [← hst];exact I0.ok.frames
  have y':Fly X.prog X.w (X.env :: X.outer) H0 s0 ea (.ref C) dd B H' s1:=by rw [← hst];exact y
  have stf:∀ b∈frs X.stack,H0 b=none:=I0.stkFree
  have fns:∀ b∈frs X.stack,∃ o,s0.heap.get? b=some o:=fun b hb=>by
   obtain ⟨_,o,q,_⟩:=I0.stack.mem hb
   exact ⟨o,q⟩
  refine nr frs0 hfr y'.fl fun h4 held4 ups4 => ?_
  refine wj (s:={s1 with heap:=h4}) held4 fun h5 fl5 ups5 => ?_
  have y5:Fly X.prog X.w X.stack H0 s0 ea (.ref C) dd B H' {s1 with heap:=h5}:=y.move (by rw [hst];exact fl5) (ups4.trans ups5) stf fns
  have I5:=I0.caught y5
  obtain ⟨oe,ve,hoe,hoc,_,_⟩:=y5.fl.first
  refine wpAny_handleBy_cons (codeAny_handlers_test (d8 (X:=X.marked (.ref ea)) (I5.mark (.ref ea)) hg hm ?_ hdb)) (fun z=>nomatch z)
  refine pB I5.kIn hoe hoc h1 h2 h3 hmro ?_
  rw [if_pos rfl]
  refine codeAny_handlers_suite_as (wj (s:={s1 with heap:=h5}) fl5 fun h6 fl6 ups6 => ?_)
  have y6:Fly X.prog X.w X.stack H0 s0 ea (.ref C) dd B H' {s1 with heap:=h6}:=y5.move (s':={s1 with heap:=h5}) (by rw [hst];exact fl6) ups6 stf fns
  have I6:=(I0.caught y6).mark (.ref ea)
  refine gD (X:=X.marked (.ref ea)) (i:=ie) I6 hN hi (.inl hl) (v := .ref ea) rfl (fun s7 I7 => ?_) (.inr hl)
  have asg:PSs (X.marked (.ref ea)) [.Assign [.Name z pz] (.Name n pn) zp] _:=ad (aD (i:=iz) hN hz hlz (xt (i:=ie) hi (.inl hl) hd1 hd2) hsw hf)
  have len7:=I7.len
  have DY:=I0.len
  have hie:ie < σ.length:=by
   have:=(List.getElem?_eq_some_iff.mp hi).1
   rw [DY];exact this
  refine wpAny_mono (asg pins s7 _ _ {nx:=fun σ' H''=>σ'=(σ.set ie (some (.ref ea))).set iz (some (.ref ea))∧H''=upd H' ea (vH ea C dd),rt:=fun _ _=>False} I7 ⟨.ref ea,by rw [List.getElem?_set_self hie],rfl,rfl⟩) (fun fl s8 q8 => ?_) fun _ _ z=>z.elim
  cases fl with
  | brk=>obtain ⟨_,_,_,z⟩:=q8;exact z.elim
  | cont=>obtain ⟨_,_,_,z⟩:=q8;exact z.elim
  | ret u=>obtain ⟨_,_,_,_,_,z⟩:=q8;exact z.elim
  | next=>
   obtain ⟨σ8,H8,I8,e1,e2⟩:=q8
   subst e1
   subst e2
   have I8':Inv X pins _ _ s8:=I8.unmark I0.ok
   refine wpAny_bind (wpAny_bindName (gD (i:=ie) I8' hN hi (.inl hl) (v := .non) rfl (fun s9 I9 => ?_) (.inr hl)))
   have hie8:ie < (((σ.set ie (some (.ref ea))).set iz (some (.ref ea))).set ie (some V.non)).length:=by simpa using hie
   obtain ⟨m,u,hn,hmn,hall⟩:=I9.bound (i:=ie) (n:=n) (v := .non) hi (by rw [List.getElem?_set_self (by simpa using hie)]) hl
   have hp:(X.env.scope.kind == .class || (X.env.scope.kind == .module && X.env.locals != X.env.globals))=false:=by rw [I9.ok.kind];rfl
   refine wpAny_onRaise (wpAny_mono (wpAny_unbindName_local (E:=X.xe) hl hn hmn hp fun h' u' hn' hs' => ?_) (fun _ _ z=>z) fun _ _ z => ?_)
   ·have I10:=I9.unbound hN hi hn hall hn' hs'
    rw [List.set_set] at I10
    exact ⟨_,_,I10,q ea y.free⟩
   ·exact wpAny_standAt z
end
end L2
set_option maxHeartbeats 400000
set_option maxRecDepth 100000
namespace L2
open PySem PySem.Spec PyProof.Rows PySem.W PySem.Calls PySem.Builtin PySem.Builtin.ObjectAttr PySem.Builtin.Getset_descriptor
structure ExcC (K:PySem.W.Frag) (C:Addr):Prop where
 ga:PySem.W.findIn K (.ref C) "__getattribute__" = some (some (.builtin "BaseException.__getattribute__"))
 gt:PySem.W.findIn K (.ref C) "__getattr__" = some none
 ca:PySem.W.findIn K (.ref C) "__class__" = some (some (.builtin "object.__class__"))
 gg:PySem.W.specialIn K (.builtin "object.__class__") "__get__" = some (some (.builtin "getset_descriptor.__get__"))
 tk:PySem.W.takesIn K (.builtin "object.__class__")=some true
 mo:PySem.W.mroIn K C (.type "object")=some true
 mb:PySem.W.mroIn K C (.type "BaseException")=some true
 cl:(PySem.W.clsIn K C).isSome=true
section
variable {prog:Program} {w:World} {A:Around} {E:Value→Shared→Prop} {s:Shared} {K:PySem.W.Frag} {x C:Addr}
theorem lQ {tp:Value} {R:Result→Shared→Prop} (L0:PySem.W.Looks (model prog w) s.heap (typeOf (.ref x)) (.ref C)) (KX:K.In s.heap) (T:ExcC K C) (h:R (.ok (.ret (.ref C))) s) :
  codeAny (model prog w) A (.call (.builtin "getset_descriptor.__get__") ⟨[.builtin "object.__class__",.ref x,tp],[]⟩) R s:=by
 have L1:=PySem.W.looks_mroIn (M:=model prog w) KX T.mo
 obtain ⟨hh,g,dr,t,os⟩:=s
 refine codeAny_call_builtin KF.slot_gs.plain KF.entry_gs (KF.slot_gs.check _ _ _ _ _ _ _ _ KF.type_class (KF.args_gs _ _ _) ?_)
 unfold Builtin.«getset_descriptor.__get__» descrGet
 rw [dga_obj]
 refine wpAny_bind (wpAny_pure ?_)
 unfold descrGetter descrCheckInstance descrNameAndClass isInstance
 simp only [KF.owner_class]
 repeat lk
 refine ⟨Code.quiet_builtin _ (by decide +kernel),codeAny_builtin KF.entry_class ?_⟩
 unfold Builtin.«object.__class__» shownTypeOf
 repeat lk
 exact h
theorem rp (L0:PySem.W.Looks (model prog w) s.heap (typeOf (.ref x)) (.ref C)) (KX:K.In s.heap) (T:ExcC K C):PySem.W.Looks (model prog w) s.heap (find (.ref x) (.ref C) "__class__") (.bind (.builtin "getset_descriptor.__get__") (.builtin "object.__class__")):=by
 have a1:=PySem.W.looks_findIn (M:=model prog w) KX T.ca
 have a2:=PySem.W.looks_specialIn (M:=model prog w) KX T.gg
 have a3:=PySem.W.looks_takesIn (M:=model prog w) KX T.tk
 have a4:PySem.W.Looks (model prog w) s.heap (dataDescriptor? (some (.builtin "object.__class__")) (some (.builtin "getset_descriptor.__get__"))) (some (.builtin "getset_descriptor.__get__",.builtin "object.__class__")):=a3.andThen .now
 exact a1.andThen ((show PySem.W.Looks (model prog w) s.heap (getOf (some (.builtin "object.__class__"))) _ from a2).andThen (a4.andThen (PySem.W.Looks.tag .now)))
theorem uc {M:Model} {id:String} {args:Args} {Q:Unit→Shared→Prop} (ha:argsOk id args) (h:Q () s):wpAny M A (match Manifest.signature? id with | some sig=>Bind.checkArgs id sig args | _=>pure ()) Q E s:=by
 unfold argsOk at ha
 cases hs:Manifest.signature? id with
 | none=>exact wpAny_pure h
 | some sig=>
  rw [hs] at ha
  have e:Bind.checkArgs id sig args=pure ():=ha
  show wpAny M A (Bind.checkArgs id sig args) Q E s
  rw [e]
  exact wpAny_pure h
theorem ud {tk:Tok} {Q:Fin→Shared→Prop} (L0:PySem.W.Looks (model prog w) s.heap (typeOf (.ref x)) (.ref C)) (KX:K.In s.heap) (T:ExcC K C) (h:Q (.done (.ret (.ref C))) s) :
  wpAny (model prog w) A (Builtin.«object.__getattribute__» ⟨[.ref x,.str (Str.ofString "__class__") tk],[]⟩) Q E s:=by
 have a4:=rp L0 KX T
 have e1:slotArgs "__getattribute__" 1 ⟨[.ref x,.str (Str.ofString "__class__") tk],[]⟩=pure (.ref x,[.str (Str.ofString "__class__") tk]):=rfl
 have e2:ObjectAttr.attrName (.str (Str.ofString "__class__") tk)=pure (Str.ofString "__class__"):=rfl
 unfold Builtin.«object.__getattribute__»
 rw [e1]
 refine wpAny_bind (wpAny_pure ?_)
 dsimp only
 rw [e2]
 refine wpAny_bind (wpAny_pure (wpAny_bind (L0.at (wpAny_bind (a4.at ?_)))))
 dsimp only
 have e3:bindTo (.builtin "getset_descriptor.__get__") (.builtin "object.__class__") (.ref x) (.ref C)=(holding [.builtin "object.__class__"] (call (.builtin "getset_descriptor.__get__") [.builtin "object.__class__",.ref x,.ref C]) >>= ret):=rfl
 rw [e3]
 exact wpAny_bind (wpAny_holding (wpAny_call (lQ L0 KX T (wpAny_pure h))))
theorem wn {Q:Option Value→Shared→Prop} (L0:PySem.W.Looks (model prog w) s.heap (typeOf (.ref x)) (.ref C)) (KX:K.In s.heap) (T:ExcC K C) (h:Q (some (.ref C)) {s with toks:=s.toks+1}) :
  wpAny (model prog w) A (getAttr? (.ref x) "__class__") Q E s:=by
 have a1:=PySem.W.looks_findIn (M:=model prog w) KX T.ga
 have a2:=PySem.W.looks_findIn (M:=model prog w) KX T.gt
 have a3:=PySem.W.looks_mroIn (M:=model prog w) KX T.mb
 have a4:=rp L0 KX T
 have hb:=PySem.F.attr_ValueError.ga.bind (.ref x)
 unfold getAttr? getAttrBy? getAttrBy
 refine wpAny_bind (wpAny_mkText (wpAny_bind (wpAny_attempt (wpAny_holding (wpAny_bind (L0.at (wpAny_bind (a1.at ?_))))))))
 show wpAny _ _ (if (onTheHeap (.ref C) && (Value.builtin "BaseException.__getattribute__") == Value.builtin "object.__getattribute__")=true then _ else _) _ _ _
 rw [if_neg (by rw [show (Value.builtin "BaseException.__getattribute__" == Value.builtin "object.__getattribute__")=false by decide +kernel,Bool.and_false];decide)]
 unfold getAttrByItsOwn hookBefore
 rw [if_pos (show onTheHeap (Value.ref C)=true from rfl)]
 refine wpAny_bind (a2.at (wpAny_bind (wpAny_attempt (wpAny_holding ?_))))
 show wpAny _ _ (boundAndCalled (.builtin "BaseException.__getattribute__") (.ref x) _) _ _ _
 unfold boundAndCalled
 rw [hb]
 refine wpAny_bind (wpAny_pure (wpAny_call (codeAny_call_builtin PySem.F.attr_ValueError.ga.plain PySem.F.entry_bexc_ga ?_)))
 have hk:builtinKind "BaseException.__getattribute__" = some .slot:=by decide +kernel
 have hsplit:splitId "BaseException.__getattribute__" = some ("BaseException", "__getattribute__"):=by decide +kernel
 have ha:=PySem.F.args_bexc_ga (.ref x) (.str (Str.ofString "__class__") s.toks)
 simp only [checkBuiltinCall,hk,hsplit]
 refine wpAny_bind ?_
 unfold isInstance
 refine wpAny_bind (L0.at (a3.at ?_))
 rw [if_neg (by decide)]
 have key:wpAny (model prog w) A.in1 (match Manifest.signature? "BaseException.__getattribute__" with | some sig=>Bind.checkArgs "BaseException.__getattribute__" sig ⟨[.ref x,.str (Str.ofString "__class__") s.toks],[]⟩ | _=>pure ()) (fun _ s'=>s'={s with toks:=s.toks+1}) (fun _ _=>False) {s with toks:=s.toks+1}:=uc ha rfl
 refine wpAny_mono key (fun _ s1 es => ?_) (fun _ _ z=>z.elim)
 subst es
 refine ud (s:={s with toks:=s.toks+1}) L0 KX T ?_
 exact PySem.W.handed_on rfl (wpAny_pure h)
theorem wp {dd:Option Addr} (T:ExcC K C):PySem.W.KitX K (.ref x) (.ref C) (fun h=>∃ o vs,h.get? x=some o∧o.cls = .ref C∧o.data = .fields vs∧o.dict=dd) where
 ty:=fun _ _ _ ⟨_,_,ho,hc,_⟩=>hc ▸ (PySem.W.Looks.ld ho).andThen .now
 it:=fun _ _ KX _=>by
  obtain ⟨cd,e⟩:=Option.isSome_iff_exists.mp T.cl
  unfold PySem.W.clsIn at e
  split at e
  ·rename_i ho2
   intro A' Q' E' s' k q
   unfold isType loadHead
   exact wpAny_bind (wpAny_loadPart (k _ _ (KX _ _ ho2)) (wpAny_pure q))
  ·cases e
 ne:=fun h tp dd its n sl KX htp=>by
  obtain ⟨cd,e⟩:=Option.isSome_iff_exists.mp T.cl
  refine Bool.eq_false_iff.mpr fun q => ?_
  have e2:C=tp:=Value.ref.inj (beq_iff_eq.mp q)
  subst e2
  unfold PySem.W.clsIn at e
  split at e
  ·rename_i ho2
   have:=KX _ _ ho2
   rw [htp] at this
   cases this
  ·cases e
 ca:=fun KX ⟨_,_,ho,hc,_⟩ q=>wn (hc ▸ (PySem.W.Looks.ld ho).andThen .now) KX T q
end
section
variable {X:Cx}
def Ep (K:PySem.W.Frag):List V→Hp→VK→Prop:=fun xs H Q=>∃ ea C cls c b,xs=[.ref ea,cls]∧(∃ dd,H ea=some (vH ea C dd))∧ExcC K C∧t6 cls=some c∧PySem.W.kitOne K (.ref C) c=some b∧Q (.bl b) H
theorem wq:dz X (.builtin "isinstance") (Ep X.K):=by
 intro pins s σ H xs us Q I r h
 obtain ⟨ea,C,cls,c,b,rfl,⟨dd,he⟩,T,hc,e,q⟩:=h
 obtain ⟨u,u2,rfl,rx,rc⟩:=AD r
 cases rx
 have ec:u2=c:=by
  cases cls with
  | ty n=>cases hc;exact rc
  | ref a=>cases hc;exact rc
  | _=>cases hc
 subst ec
 obtain ⟨p,_,_⟩:=(show ObjOk X.prog X.w H s.heap ea (vH ea C dd) from I.hok ea _ he)
 exact PySem.W.kia_one (wp T) I.kIn p e (fun z=>nomatch z) fun tk=>⟨.bl b,H,I.tok tk,rfl,q⟩
def E1 (K:PySem.W.Frag):List V→Hp→VK→Prop:=fun xs H Q=>∃ (ea C tp:Addr) (cs:List V) (vs:List Value) (b:Bool),xs=[.ref ea,.ref tp]∧(∃ dd,H ea=some (vH ea C dd))∧ExcC K C∧H tp=some (.tup cs)∧cs.map t6=vs.map some∧PySem.W.kitAny K (.ref C) vs=some b∧Q (.bl b) H
end
end L2
set_option maxHeartbeats 4000000
namespace L2
open PySem PySem.Spec PyProof.Rows
section
variable {X:Cx}
def E2 (X:Cx):R2:=fun x y H Q=>∃ t p1 p2 b1 b2,y = .ref t∧SqT X.K H t [.ref p1,.ref p2]∧p1≠p2∧EqW X H 8 (.ref p1) x b1∧EqW X H 8 (.ref p2) x b2∧Q (.bl (b1 || b2)) H
theorem AX {k:Nat} (hr:Room k X.A):OpR X (compareOp .In) (E2 X):=by
 intro pins s σ H x y v u Q I rx ry h
 obtain ⟨t,p1,p2,b1,b2,rfl,ht,hne,h1,h2,q⟩:=h
 cases ry
 obtain ⟨its,r,pl,hz⟩:=I.tuple ht
 obtain ⟨u1,us,rfl,r1,rr⟩:∃ u1 us,its=u1 :: us∧RelV (.ref p1) u1∧Vals [.ref p2] us:=by
  cases r with
  | cons a b=>exact ⟨_,_,rfl,a,b⟩
 obtain ⟨u2,rfl,r2⟩:=rr.one
 cases r1
 cases r2
 have hu:=hr.units
 have hu1:X.A.in1.units+8 < cLine:=by rw [jJ];omega
 have e1:=h1 pins σ s (.ref p1) v I rfl rx X.A.in1 hu1
 have e2:=h2 pins σ s (.ref p2) v I rfl rx X.A.in1 hu1
 have n1:((Value.ref p1) == Value.ref p1)=true:=by simp
 have n2:((Value.ref p2) == Value.ref p1)=false:=by simpa using Ne.symm hne
 refine SeqAt.in_tupleAt (fun z=>if (z == Value.ref p1)=true then b1 else b2) pl (fun z hz => ?_) ⟨.bl (b1 || b2),H,I,?_,q⟩
 ·have hz':z = .ref p1∨z = .ref p2:=by simpa using hz
  rcases hz' with rfl | rfl
  ·rw [if_pos n1];exact e1
  ·rw [if_neg (by rw [n2];decide)];exact e2
 ·have e:(#[Value.ref p1,Value.ref p2]:Array Value).any (fun z=>if (z == Value.ref p1)=true then b1 else b2)=(b1 || b2):=by
   simp [Ne.symm hne]
  show Value.bool _=Value.bool _
  rw [e]
theorem wt {H:Hp} {a b:Addr} {xs ys:List Int} (ha:H a=some (.lst (xs.map V.int))) (hb:H b=some (.lst (ys.map V.int))):EqW X H 8 (.ref a) (.ref b) (decide (xs=ys)):=by
 refine t9 (rm (SqL.of ha) (SqL.of hb)) fun e => ?_
 subst e
 rw [ha] at hb
 injection hb with hb
 injection hb with hb
 have:xs=ys:=by
  have inj:∀ {l m:List Int},l.map V.int=m.map V.int→l=m:=fun {l m} h=>(List.map_inj_right (fun a b z=>V.int.inj z)).mp h
  exact inj hb
 exact decide_eq_true this
end
def Fy (H:Hp) (Q:VK) (l:List Int):Prop:=∀ r H',Same H H'→H r=none→H' r=some (.tup (l.map V.int))→Q (.ref r) H'
def E3 (H:Hp) (Q:VK) (i:Int):Prop:=∀ H',Same H H'→Q (.int i) H'
def E4 (H:Hp) (Q:VK) (b:Bool):Prop:=∀ H',Same H H'→Q (.bl b) H'
end L2
set_option maxHeartbeats 4000000
namespace L2
open PySem PySem.Spec PyProof.Rows
def At (H:Hp) (a:Addr) (o:HO):Prop:=H a=some o
def aS (H:Hp) (a:Addr):Prop:=H a=none
theorem ac {H:Hp} {a:Addr} {o:HO}:At (upd H a o) a o:=bA
def MkL (H:Hp) (Q:VK) (l:List Int):Prop:=∀ r H',Same H H'→aS H r→At H' r (.lst (l.map V.int))→Q (.ref r) H'
def MkT (H:Hp) (Q:VK) (l:List Int):Prop:=∀ r H',Same H H'→aS H r→At H' r (.tup (l.map V.int))→Q (.ref r) H'
theorem ak {t:TS} {D:Ends} {s1 s2:St} {H:Hp} (e:s1=s2) (h:t D s2 H):t D s1 H:=e ▸ h
theorem AY {t u:TS} {D:Ends} {s:St} {H:Hp} (h:t {D with nx:=u D} s H):CM t u D s H:=h
theorem yu {D:Ends} {s:St} {H:Hp} (h:D.nx s H):xW D s H:=h
theorem CZ {F B C:St→Hp→Prop} {R:VK} {s:St} {H:Hp} (h:F s H):(Ends.mk F R B C).nx s H:=h
theorem C0 {F B C:St→Hp→Prop} {R:VK} {v:V} {H:Hp} (h:R v H):(Ends.mk F R B C).rt v H:=h
theorem AZ {te:TE} {g:TG} {D:Ends} {s:St} {H:Hp} (h:te s H fun x H1=>g x s H1 D.nx):Au te g D s H:=h
theorem yv {te:TE} {D:Ends} {s:St} {H:Hp} (h:te s H fun _ H1=>D.nx s H1):tE te D s H:=h
theorem A0 {te:TE} {D:Ends} {s:St} {H:Hp} (h:te s H D.rt):D5 te D s H:=h
theorem yw {D:Ends} {s:St} {H:Hp} (h:D.rt .non H):xX D s H:=h
theorem A3 {c:TT} {t u:TS} {D:Ends} {s:St} {H:Hp} (h:c s H fun b H1=>if b=true then t D s H1 else u D s H1):An c t u D s H:=h
theorem wu {v:V} {s:St} {H:Hp} {Q:VK} (h:Q v H):tC v s H Q:=h
theorem C1 {r:R2} {ta tb:TE} {s:St} {H:Hp} {Q:VK} (h:ta s H fun x H1=>tb s H1 fun y H2=>r x y H2 Q):tOp r ta tb s H Q:=h
theorem C3 {r:V→Hp→VK→Prop} {ta:TE} {s:St} {H:Hp} {Q:VK} (h:ta s H fun x H1=>r x H1 Q):tUn r ta s H Q:=h
theorem C4 {g:Int→Int→V} {i j:Int} {H:Hp} {Q:VK} (h:Q (g i j) H):rI0 g (.int i) (.int j) H Q:=⟨i,j,rfl,rfl,h⟩
theorem C5 {C:Int→Int→Prop} {g:Int→Int→V} {i j:Int} {H:Hp} {Q:VK} (c:C i j) (h:Q (g i j) H):rI C g (.int i) (.int j) H Q:=⟨i,j,rfl,rfl,c,h⟩
theorem E5 {g:Int→V} {i:Int} {H:Hp} {Q:VK} (h:Q (g i) H):rU g (.int i) H Q:=⟨i,rfl,h⟩
theorem A6 {i j:Int} {H:Hp} {Q:VK} (h:Q (.bl (decide (i=j))) H):rEq (.int i) (.int j) H Q:=by
 refine ⟨rfl,?_⟩
 rw [show decide (V.int i=V.int j)=decide (i=j) by rw [lJ];rfl]
 exact h
theorem A7 {i j:Int} {H:Hp} {Q:VK} (h:Q (.bl (!decide (i=j))) H):rNe (.int i) (.int j) H Q:=by
 refine ⟨rfl,?_⟩
 rw [show decide (V.int i=V.int j)=decide (i=j) by rw [lJ];rfl]
 exact h
theorem A9 {i j:Str} {H:Hp} {Q:VK} (h:Q (.bl (decide (i=j))) H):rEq (.str i) (.str j) H Q:=by
 refine ⟨rfl,?_⟩
 rw [show decide (V.str i=V.str j)=decide (i=j) from decide_eq_decide.mpr ⟨fun z=>V.str.inj z,fun z=>congrArg V.str z⟩]
 exact h
theorem Ba {i j:Str} {H:Hp} {Q:VK} (h:Q (.bl (!decide (i=j))) H):rNe (.str i) (.str j) H Q:=by
 refine ⟨rfl,?_⟩
 rw [show decide (V.str i=V.str j)=decide (i=j) from decide_eq_decide.mpr ⟨fun z=>V.str.inj z,fun z=>congrArg V.str z⟩]
 exact h
theorem yx {t:TE} {s:St} {H:Hp} {Q:Bool→Hp→Prop} (h:t s H fun x H'=>∃ k,x = .bl k∧Q k H'):pf t s H Q:=h
theorem C6 {t:TE} {s:St} {H:Hp} {Q:Bool→Hp→Prop} (h:t s H fun x H'=>∃ k,x = .bl k∧Q k H'):tB t s H Q:=h
theorem yy {k:Bool} {P:Bool→Prop} (h:P k):∃ k',V.bl k=V.bl k'∧P k':=⟨k,rfl,h⟩
theorem ww {k:Int} {P:Int→Prop} (h:P k):∃ k',V.int k=V.int k'∧P k':=⟨k,rfl,h⟩
theorem Bb {t u:TT} {s:St} {H:Hp} {Q:Bool→Hp→Prop} (h:t s H fun c H1=>if c=true then u s H1 Q else Q false H1):Cu t u s H Q:=h
theorem C7 {t u:TT} {s:St} {H:Hp} {Q:Bool→Hp→Prop} (h:t s H fun c H1=>if c=true then Q true H1 else u s H1 Q):tOr t u s H Q:=h
theorem Bc {t:TT} {s:St} {H:Hp} {Q:Bool→Hp→Prop} (h:t s H fun c H1=>Q (!c) H1):CK t s H Q:=h
theorem yz {ta tb:TE} {s:St} {H:Hp} {Q:VK} (h:ta s H fun x H1=>∃ c,x = .bl c∧if c=true then tb s H1 Q else Q (.bl false) H1):Ak ta tb s H Q:=h
theorem Bd {ta tb:TE} {s:St} {H:Hp} {Q:VK} (h:ta s H fun x H1=>∃ c,x = .bl c∧if c=true then Q (.bl true) H1 else tb s H1 Q):D0 ta tb s H Q:=h
theorem yA {ta:TE} {s:St} {H:Hp} {Q:VK} (h:ta s H fun x H1=>∃ c,x = .bl c∧Q (.bl (!c)) H1):Al ta s H Q:=h
theorem Be {t:TT} {ta tb:TE} {s:St} {H:Hp} {Q:VK} (h:t s H fun c H1=>if c=true then ta s H1 Q else tb s H1 Q):tIf t ta tb s H Q:=h
theorem Bf {s:St} {H:Hp} {Q:List V→Hp→Prop} (h:Q [] H):mO s H Q:=h
theorem yB {ta:TE} {tr:TA} {s:St} {H:Hp} {Q:List V→Hp→Prop} (h:ta s H fun x H1=>tr s H1 fun xs H2=>Q (x :: xs) H2):kr ta tr s H Q:=h
theorem Bg {t:TA} {s:St} {H:Hp} {Q:VK} (h:t s H fun xs H1=>xs.length≤sizeLine∧∀ p,aS H1 p→Q (.ref p) (upd H1 p (.tup xs))):CB t s H Q:=h
theorem Bh {t:TA} {s:St} {H:Hp} {Q:VK} (h:t s H fun xs H1=>xs.length≤sizeLine∧∀ p,aS H1 p→Q (.ref p) (upd H1 p (.lst xs))):CC t s H Q:=h
theorem yC {sp:Sp} {dvs:List V} {E:XK} {t:TA} {s:St} {H:Hp} {Q:VK} (h:t s H fun vs H1=>sp (vs++dvs) H1 Q E):iq sp dvs E t s H Q:=h
theorem C8 {r:List V→Hp→VK→Prop} {t:TA} {s:St} {H:Hp} {Q:VK} (h:t s H fun vs H1=>r vs H1 Q):tCB r t s H Q:=h
theorem C9 {K:PySem.W.Frag} {T:String} {r:V→List V→Hp→VK→Prop} {to:TE} {t:TA} {s:St} {H:Hp} {Q:VK} (h:to s H fun x H1=>tyV K T x H1∧t s H1 fun xs H2=>r x xs H2 Q):tBM K T r to t s H Q:=h
theorem Bi {K:PySem.W.Frag} {a:Addr} {xs:List V} {H:Hp} {A:Prop} (e:SqL K H a xs) (h:A):tyV K "list" (.ref a) H∧A:=⟨.inl ⟨rfl,xs,e⟩,h⟩
theorem bO {l:Addr} {xs:List V} {y:V} {H:Hp} {Q:VK} (e:At H l (.lst xs)) (hl:xs.length < sizeLine) (h:Q .non (upd H l (.lst (xs++[y])))):tX (.ref l) [y] H Q:=⟨l,xs,y,rfl,rfl,e,hl,h⟩
theorem yD {i j:Int} {H:Hp} {Q:VK} (h:Q (.int (i+j)) H):Ee (.int i) (.int j) H Q:=⟨i,j,rfl,rfl,h⟩
def CF (K:PySem.W.Frag) (f:Str):V→Hp→VK→Prop:=fun x H Q=>∃ a C dx fs v,x = .ref a∧H a=some (.ins C dx fs)∧Cls K C∧NoAttr K C f∧fs.lookup f=some v∧Q v H
theorem Bj {K:PySem.W.Frag} {ta:TE} {f:Str} {s:St} {H:Hp} {Q:VK} (h:ta s H fun x H1=>CF K f x H1 Q):CA K ta f s H Q:=h
theorem yE {K:PySem.W.Frag} {f:Str} {a C dx:Addr} {fs:List (Str×V)} {v:V} {H:Hp} {Q:VK} (e:At H a (.ins C dx fs)) (c:Cls K C) (n:NoAttr K C f) (l:fs.lookup f=some v) (h:Q v H):CF K f (.ref a) H Q:=⟨a,C,dx,fs,v,rfl,e,c,n,l,h⟩
def wx (K:PySem.W.Frag) (f:Str) (y:V):V→Hp→(Hp→Prop)→Prop:=fun x H N=>∃ a C dx fs,x = .ref a∧H a=some (.ins C dx fs)∧Cls K C∧NoAttr K C f∧fs.length < 1000∧N (upd H a (.ins C dx (fg f y fs)))
theorem yF {K:PySem.W.Frag} {ta tv:TE} {f:Str} {D:Ends} {s:St} {H:Hp} (h:tv s H fun y H1=>ta s H1 fun x H2=>wx K f y x H2 fun H3=>D.nx s H3):CP K ta tv f D s H:=h
theorem wy {K:PySem.W.Frag} {f:Str} {a C dx:Addr} {fs fs':List (Str×V)} {y:V} {H:Hp} {N:Hp→Prop} (e:At H a (.ins C dx fs)) (c:Cls K C) (n:NoAttr K C f) (l:fs.length < 1000) (p:fg f y fs=fs') (h:N (upd H a (.ins C dx fs'))):wx K f y (.ref a) H N:=⟨a,C,dx,fs,rfl,e,c,n,l,p ▸ h⟩
def wz (K:PySem.W.Frag) (f:Str) (N:Addr→Addr→V→Hp→Prop):V→Hp→Prop:=fun x H=>∃ a C dx fs v,x = .ref a∧H a=some (.ins C dx fs)∧Cls K C∧NoAttr K C f∧fs.lookup f=some v∧N a C v H
def wA (f:Str) (a C:Addr) (z:V) (H:Hp) (N:Hp→Prop):Prop:=∃ dx' fs',H a=some (.ins C dx' fs')∧fs'.length < 1000∧N (upd H a (.ins C dx' (fg f z fs')))
theorem yG {K:PySem.W.Frag} {ta tv:TE} {rd:V→V→Hp→VK→Prop} {f:Str} {D:Ends} {s:St} {H:Hp} (h:ta s H fun x H1=>wz K f (fun a C v H1=>tv s H1 fun y H2=>rd v y H2 fun z H3=>wA f a C z H3 fun H4=>D.nx s H4) x H1):ph K ta tv rd f D s H:=h
theorem yH {K:PySem.W.Frag} {f:Str} {a C dx:Addr} {fs:List (Str×V)} {v:V} {H:Hp} {N:Addr→Addr→V→Hp→Prop} (e:At H a (.ins C dx fs)) (c:Cls K C) (n:NoAttr K C f) (l:fs.lookup f=some v) (h:N a C v H):wz K f N (.ref a) H:=⟨a,C,dx,fs,v,rfl,e,c,n,l,h⟩
theorem yI {f:Str} {a C dx:Addr} {fs fs':List (Str×V)} {z:V} {H:Hp} {N:Hp→Prop} (e:At H a (.ins C dx fs)) (l:fs.length < 1000) (p:fg f z fs=fs') (h:N (upd H a (.ins C dx fs'))):wA f a C z H N:=⟨dx,fs,e,l,p ▸ h⟩
def wB (C:Addr) (m:Str) (N:V→Hp→Prop):V→Hp→Prop:=fun x H=>∃ a dx fs,x = .ref a∧H a=some (.ins C dx fs)∧fs.lookup m=none∧N x H
theorem yJ {C:Addr} {m:Str} {sp:Sp} {dvs:List V} {E:XK} {ta:TE} {t:TA} {s:St} {H:Hp} {Q:VK} (h:ta s H fun x H1=>wB C m (fun x H1=>t s H1 fun vs H2=>sp (x :: (vs++dvs)) H2 Q E) x H1):mT C m sp dvs E ta t s H Q:=h
theorem wC {C a dx:Addr} {m:Str} {fs:List (Str×V)} {H:Hp} {N:V→Hp→Prop} (e:At H a (.ins C dx fs)) (l:fs.lookup m=none) (h:N (.ref a) H):wB C m N (.ref a) H:=⟨a,dx,fs,rfl,e,l,h⟩
def pC (K:PySem.W.Frag):List V→Hp→VK→Prop:=fun xs H Q=>∃ p ys,xs=[.ref p]∧(SqL K H p ys∨SqT K H p ys)∧Q (.int ys.length) H
theorem ue {X:Cx}:dz X (.builtin "len") (pC X.K):=m7
theorem yK {K:PySem.W.Frag} {a:Addr} {xs:List V} {H:Hp} {Q:VK} (e:SqL K H a xs) (h:Q (.int xs.length) H):pC K [.ref a] H Q:=⟨a,xs,rfl,.inl e,h⟩
def ny (K:PySem.W.Frag):List V→Hp→VK→Prop:=fun xs H Q=>∃ p ys,xs=[.ref p]∧(SqL K H p ys∨SqT K H p ys)∧∀ l,H l=none→Q (.ref l) (upd H l (.lst ys))
theorem sr {X:Cx}:dz X (.type "list") (ny X.K):=m8
theorem wD {K:PySem.W.Frag} {a:Addr} {xs:List V} {H:Hp} {Q:VK} (e:SqL K H a xs) (h:∀ l,aS H l→Q (.ref l) (upd H l (.lst xs))):ny K [.ref a] H Q:=⟨a,xs,rfl,.inl e,h⟩
def Bk:List V→Hp→VK→Prop:=fun xs H Q=>(∃ i,xs=[.int i]∧Q (.int i) H)∨∃ k,xs=[.bl k]∧Q (.int (if k then 1 else 0)) H
theorem nz {X:Cx}:dz X (.type "int") Bk:=tM
theorem yL {k:Bool} {H:Hp} {Q:VK} (h:Q (.int (if k then 1 else 0)) H):Bk [.bl k] H Q := .inr ⟨k,rfl,h⟩
def uf (K:PySem.W.Frag):V→Hp→(Bool→Hp→Prop)→Prop:=fun x H Q=>∃ k,CO K x H k∧Q k H
def Da (K:PySem.W.Frag) (ta:TE):TT:=fun s H Q=>ta s H fun x H'=>uf K x H' Q
theorem Bl {X:Cx} {a:Expr} {ta:TE} (ha:PE X a ta) (he:∀ whole,isTrue a X.env whole=(do let v ← whole;standAt a.pos;holding [v] (truthy v))):PT X a (Da X.K ta):=vN ha he
theorem Bm {K:PySem.W.Frag} {ta:TE} {s:St} {H:Hp} {Q:Bool→Hp→Prop} (h:ta s H fun x H'=>uf K x H' Q):Da K ta s H Q:=h
theorem yM {K:PySem.W.Frag} {a:Addr} {xs:List V} {H:Hp} {Q:Bool→Hp→Prop} (e:SqL K H a xs) (h:Q (!xs.isEmpty) H):uf K (.ref a) H Q:=⟨_,.inl ⟨xs,e,rfl⟩,h⟩
def Db:R2:=fun x y H Q=>y = .non∧Q (.bl (decide (x = .non))) H
def yN:R2:=fun x y H Q=>y = .non∧Q (.bl (!decide (x = .non))) H
theorem iw {X:Cx}:OpR X (compareOp .Is) Db:=AB
theorem gK {X:Cx}:OpR X (compareOp .IsNot) yN:=x9
theorem yO {H:Hp} {Q:VK} (h:Q (.bl true) H):Db .non .non H Q:=⟨rfl,h⟩
theorem yP {a:Addr} {H:Hp} {Q:VK} (h:Q (.bl false) H):Db (.ref a) .non H Q:=⟨rfl,h⟩
theorem wE {H:Hp} {Q:VK} (h:Q (.bl false) H):yN .non .non H Q:=⟨rfl,h⟩
theorem wF {a:Addr} {H:Hp} {Q:VK} (h:Q (.bl true) H):yN (.ref a) .non H Q:=⟨rfl,h⟩
theorem yQ {C:Addr} {sp:Sp} {dvs:List V} {E:XK} {t:TA} {s:St} {H:Hp} {Q:VK} (h:t s H fun vs H1=>∀ x dx,aS H1 x→aS H1 dx→dx≠x→sp (.ref x :: (vs++dvs)) (upd (upd H1 dx (.own x)) x (.ins C dx [])) (fun v H2=>v = .non∧Q (.ref x) H2) E):sg C sp dvs E t s H Q:=h
theorem bf {K:PySem.W.Frag} {a:Addr} {xs:List V} {i:Int} {v:V} {H:Hp} {Q:VK} (e:SqL K H a xs) (hi:atI xs i=some v) (h:Q v H):AI K (.ref a) (.int i) H Q:=⟨a,xs,i,v,rfl,rfl,e,hi,h⟩
theorem Bn {K:PySem.W.Frag} {a:Addr} {xs:List V} {i:Int} {v:V} {H:Hp} {Q:VK} (e:SqT K H a xs) (hi:atI xs i=some v) (h:Q v H):yj K (.ref a) (.int i) H Q:=⟨a,xs,i,v,rfl,rfl,e,hi,h⟩
theorem fW {a b:Addr} {xs ys:List V} {H:Hp} {Q:VK} (e1:At H a (.lst xs)) (e2:At H b (.lst ys)) (hl:xs.length+ys.length≤sizeLine) (h:∀ p,aS H p→Q (.ref p) (upd H p (.lst (xs++ys)))):Eh (.ref a) (.ref b) H Q:=⟨a,b,xs,ys,rfl,rfl,e1,e2,hl,h⟩
theorem Dc {r:V→Option Int→Option Int→Hp→VK→Prop} {te:TE} {tl th:TO} {s:St} {H:Hp} {Q:VK} (h:te s H fun x H1=>tl s H1 fun l H2=>th s H2 fun u H3=>r x l u H3 Q):tSl r te tl th s H Q:=h
theorem ug {s:St} {H:Hp} {Q:Option Int→Hp→Prop} (h:Q none H):tS s H Q:=h
theorem yR {t:TE} {s:St} {H:Hp} {Q:Option Int→Hp→Prop} (h:t s H fun x H1=>∃ i,x = .int i∧Q (some i) H1):AH t s H Q:=h
theorem cK {K:PySem.W.Frag} {a:Addr} {xs ys:List V} {lo hi:Option Int} {H:Hp} {Q:VK} (e:SqL K H a xs) (c:jF xs lo hi=ys) (h:∀ p,aS H p→Q (.ref p) (upd H p (.lst ys))):CS K (.ref a) lo hi H Q:=⟨a,xs,rfl,e,c ▸ h⟩
theorem De {K:PySem.W.Frag} {neg:Bool} {x:V} {p:Addr} {xs:List V} {H:Hp} {Q:VK} (e:SqL K H p xs∨SqT K H p xs) (f:ir x=true) (g:xs.all ir=true) (h:Q (.bl (if neg then !inV x xs else inV x xs)) H):rIn K neg x (.ref p) H Q:=⟨p,xs,rfl,e,f,g,h⟩
theorem ax {p A B:Prop} [Decidable p] (h1:p→A) (h2:¬ p→B):if decide p=true then A else B:=by
 by_cases h:p
 ·rw [decide_eq_true h];exact tq (h1 h)
 ·rw [decide_eq_false h];exact xA (h2 h)
theorem bP {p A B:Prop} [Decidable p] (h1:¬ p→A) (h2:p→B):if (!decide p)=true then A else B:=by
 by_cases h:p
 ·rw [decide_eq_true h];exact xA (h2 h)
 ·rw [decide_eq_false h];exact tq (h1 h)
theorem Bo {p A B:Prop} [Decidable p] (hp:¬ p) (h:B):if decide p=true then A else B:=ax (fun z=>absurd z hp) (fun _=>h)
theorem aE {H:Hp} {a p:Addr} {o x:HO} (hp:aS H p) (h:At H a o):At (upd H p x) a o:=(aX (aB h hp)).trans h
theorem aG {H:Hp} {a p:Addr} {o x:HO} (ne:a≠p) (h:At H a o):At (upd H p x) a o:=(aX ne).trans h
theorem lR {H:Hp} {a p:Addr} {x:HO} (h:aS (upd H p x) a):aS H a∧a≠p:=by
 have h':upd H p x a=none:=h
 by_cases e:a=p
 ·subst e;rw [bA] at h';cases h'
 ·rw [aX e] at h';exact ⟨h',e⟩
theorem Same.get {H H':Hp} {a:Addr} {o:HO} (s:Same H H') (h:At H a o):At H' a o:=s a o h
theorem Same.new {H H':Hp} {p:Addr} {o:HO} (s:Same H H') (hp:aS H' p):Same H (upd H' p o):=cz s (s.free hp)
def Chg (S:List Addr) (H H':Hp):Prop:=∀ b o,b∉S→H b=some o→H' b=some o
theorem Chg.refl (S:List Addr) (H:Hp):Chg S H H:=fun _ _ _ h=>h
theorem Chg.trans {S:List Addr} {H H1 H2:Hp} (a:Chg S H H1) (b:Chg S H1 H2):Chg S H H2:=fun c o n h=>b c o n (a c o n h)
theorem Same.chg {S:List Addr} {H H':Hp} (s:Same H H'):Chg S H H':=fun c o _ h=>s c o h
theorem Chg.new {S:List Addr} {H H':Hp} {p:Addr} {o:HO} (s:Chg S H H') (hp:aS H' p):Chg S H (upd H' p o):=fun b u n h=>by
 have:=s b u n h
 exact aE hp this
theorem Chg.upd {S:List Addr} {H H':Hp} {p:Addr} {o:HO} (s:Chg S H H') (hp:p∈S):Chg S H (upd H' p o):=fun b u n h=>by
 have:=s b u n h
 exact aG (fun e=>n (e ▸ hp)) this
theorem Same.fr {H H':Hp} {p:Addr} (s:Same H H') (h:aS H' p):aS H p:=s.free h
theorem Same.upF {H H':Hp} {p:Addr} {o:HO} (s:Same H H') (h:aS H p):Same H (upd H' p o):=cz s h
theorem At.sqL {K:PySem.W.Frag} {H:Hp} {a:Addr} {xs:List V} (h:At H a (.lst xs)):SqL K H a xs:=SqL.of h
theorem At.sqT {K:PySem.W.Frag} {H:Hp} {a:Addr} {xs:List V} (h:At H a (.tup xs)):SqT K H a xs:=SqT.of h
theorem At.ne {H:Hp} {a b:Addr} {o u:HO} (h:At H a o) (h':At H b u) (d:o≠u):a≠b:=Ai h h' d
theorem Chg.fr {S:List Addr} {H H':Hp} {p:Addr} (s:Chg S H H') (n:p∉S) (h:aS H' p):aS H p:=by
 cases q:H p with
 | none=>exact q
 | some o=>
  have:=s p o n q
  rw [h] at this
  cases this
theorem aM {a b:Addr} (h:a≠b):a∉[b]:=by simp [h]
theorem nA {a b c d:Addr} (h:a≠b) (h2:a≠c) (h3:a≠d):a∉[b,c,d]:=by simp [h,h2,h3]
theorem Df {v:V} {r:St} {H:Hp} {Q:VK} (h:Q v H):iT 0 (some v :: r) H Q:=⟨v,rfl,h⟩
theorem Dg {v:V} {x:Option V} {r:St} {H:Hp} {Q:St→Hp→Prop} (h:Q (some v :: r) H):d4 0 v (x :: r) H Q:=h
theorem Dh {v:V} {a0:Option V} {r:St} {H:Hp} {Q:VK} (h:Q v H):iT 1 (a0 :: some v :: r) H Q:=⟨v,rfl,h⟩
theorem Di {v:V} {x:Option V} {a0:Option V} {r:St} {H:Hp} {Q:St→Hp→Prop} (h:Q (a0 :: some v :: r) H):d4 1 v (a0 :: x :: r) H Q:=h
theorem Dj {v:V} {a0 a1:Option V} {r:St} {H:Hp} {Q:VK} (h:Q v H):iT 2 (a0 :: a1 :: some v :: r) H Q:=⟨v,rfl,h⟩
theorem Dk {v:V} {x:Option V} {a0 a1:Option V} {r:St} {H:Hp} {Q:St→Hp→Prop} (h:Q (a0 :: a1 :: some v :: r) H):d4 2 v (a0 :: a1 :: x :: r) H Q:=h
theorem Dl {v:V} {a0 a1 a2:Option V} {r:St} {H:Hp} {Q:VK} (h:Q v H):iT 3 (a0 :: a1 :: a2 :: some v :: r) H Q:=⟨v,rfl,h⟩
theorem Dm {v:V} {x:Option V} {a0 a1 a2:Option V} {r:St} {H:Hp} {Q:St→Hp→Prop} (h:Q (a0 :: a1 :: a2 :: some v :: r) H):d4 3 v (a0 :: a1 :: a2 :: x :: r) H Q:=h
theorem Dn {v:V} {a0 a1 a2 a3:Option V} {r:St} {H:Hp} {Q:VK} (h:Q v H):iT 4 (a0 :: a1 :: a2 :: a3 :: some v :: r) H Q:=⟨v,rfl,h⟩
theorem Do {v:V} {x:Option V} {a0 a1 a2 a3:Option V} {r:St} {H:Hp} {Q:St→Hp→Prop} (h:Q (a0 :: a1 :: a2 :: a3 :: some v :: r) H):d4 4 v (a0 :: a1 :: a2 :: a3 :: x :: r) H Q:=h
theorem Dp {v:V} {a0 a1 a2 a3 a4:Option V} {r:St} {H:Hp} {Q:VK} (h:Q v H):iT 5 (a0 :: a1 :: a2 :: a3 :: a4 :: some v :: r) H Q:=⟨v,rfl,h⟩
theorem Dq {v:V} {x:Option V} {a0 a1 a2 a3 a4:Option V} {r:St} {H:Hp} {Q:St→Hp→Prop} (h:Q (a0 :: a1 :: a2 :: a3 :: a4 :: some v :: r) H):d4 5 v (a0 :: a1 :: a2 :: a3 :: a4 :: x :: r) H Q:=h
theorem Dr {v:V} {a0 a1 a2 a3 a4 a5:Option V} {r:St} {H:Hp} {Q:VK} (h:Q v H):iT 6 (a0 :: a1 :: a2 :: a3 :: a4 :: a5 :: some v :: r) H Q:=⟨v,rfl,h⟩
theorem Ds {v:V} {x:Option V} {a0 a1 a2 a3 a4 a5:Option V} {r:St} {H:Hp} {Q:St→Hp→Prop} (h:Q (a0 :: a1 :: a2 :: a3 :: a4 :: a5 :: some v :: r) H):d4 6 v (a0 :: a1 :: a2 :: a3 :: a4 :: a5 :: x :: r) H Q:=h
theorem Dt {v:V} {a0 a1 a2 a3 a4 a5 a6:Option V} {r:St} {H:Hp} {Q:VK} (h:Q v H):iT 7 (a0 :: a1 :: a2 :: a3 :: a4 :: a5 :: a6 :: some v :: r) H Q:=⟨v,rfl,h⟩
theorem Du {v:V} {x:Option V} {a0 a1 a2 a3 a4 a5 a6:Option V} {r:St} {H:Hp} {Q:St→Hp→Prop} (h:Q (a0 :: a1 :: a2 :: a3 :: a4 :: a5 :: a6 :: some v :: r) H):d4 7 v (a0 :: a1 :: a2 :: a3 :: a4 :: a5 :: a6 :: x :: r) H Q:=h
theorem Dv {v:V} {a0 a1 a2 a3 a4 a5 a6 a7:Option V} {r:St} {H:Hp} {Q:VK} (h:Q v H):iT 8 (a0 :: a1 :: a2 :: a3 :: a4 :: a5 :: a6 :: a7 :: some v :: r) H Q:=⟨v,rfl,h⟩
theorem Dw {v:V} {x:Option V} {a0 a1 a2 a3 a4 a5 a6 a7:Option V} {r:St} {H:Hp} {Q:St→Hp→Prop} (h:Q (a0 :: a1 :: a2 :: a3 :: a4 :: a5 :: a6 :: a7 :: some v :: r) H):d4 8 v (a0 :: a1 :: a2 :: a3 :: a4 :: a5 :: a6 :: a7 :: x :: r) H Q:=h
theorem Dx {v:V} {a0 a1 a2 a3 a4 a5 a6 a7 a8:Option V} {r:St} {H:Hp} {Q:VK} (h:Q v H):iT 9 (a0 :: a1 :: a2 :: a3 :: a4 :: a5 :: a6 :: a7 :: a8 :: some v :: r) H Q:=⟨v,rfl,h⟩
theorem Dy {v:V} {x:Option V} {a0 a1 a2 a3 a4 a5 a6 a7 a8:Option V} {r:St} {H:Hp} {Q:St→Hp→Prop} (h:Q (a0 :: a1 :: a2 :: a3 :: a4 :: a5 :: a6 :: a7 :: a8 :: some v :: r) H):d4 9 v (a0 :: a1 :: a2 :: a3 :: a4 :: a5 :: a6 :: a7 :: a8 :: x :: r) H Q:=h
theorem Bp {v:V} {a0 a1 a2 a3 a4 a5 a6 a7 a8 a9:Option V} {r:St} {H:Hp} {Q:VK} (h:Q v H):iT 10 (a0 :: a1 :: a2 :: a3 :: a4 :: a5 :: a6 :: a7 :: a8 :: a9 :: some v :: r) H Q:=⟨v,rfl,h⟩
theorem Bq {v:V} {x:Option V} {a0 a1 a2 a3 a4 a5 a6 a7 a8 a9:Option V} {r:St} {H:Hp} {Q:St→Hp→Prop} (h:Q (a0 :: a1 :: a2 :: a3 :: a4 :: a5 :: a6 :: a7 :: a8 :: a9 :: some v :: r) H):d4 10 v (a0 :: a1 :: a2 :: a3 :: a4 :: a5 :: a6 :: a7 :: a8 :: a9 :: x :: r) H Q:=h
theorem Br {v:V} {a0 a1 a2 a3 a4 a5 a6 a7 a8 a9 a10:Option V} {r:St} {H:Hp} {Q:VK} (h:Q v H):iT 11 (a0 :: a1 :: a2 :: a3 :: a4 :: a5 :: a6 :: a7 :: a8 :: a9 :: a10 :: some v :: r) H Q:=⟨v,rfl,h⟩
theorem Bs {v:V} {x:Option V} {a0 a1 a2 a3 a4 a5 a6 a7 a8 a9 a10:Option V} {r:St} {H:Hp} {Q:St→Hp→Prop} (h:Q (a0 :: a1 :: a2 :: a3 :: a4 :: a5 :: a6 :: a7 :: a8 :: a9 :: a10 :: some v :: r) H):d4 11 v (a0 :: a1 :: a2 :: a3 :: a4 :: a5 :: a6 :: a7 :: a8 :: a9 :: a10 :: x :: r) H Q:=h
theorem Bt {v:V} {a0 a1 a2 a3 a4 a5 a6 a7 a8 a9 a10 a11:Option V} {r:St} {H:Hp} {Q:VK} (h:Q v H):iT 12 (a0 :: a1 :: a2 :: a3 :: a4 :: a5 :: a6 :: a7 :: a8 :: a9 :: a10 :: a11 :: some v :: r) H Q:=⟨v,rfl,h⟩
theorem Bu {v:V} {x:Option V} {a0 a1 a2 a3 a4 a5 a6 a7 a8 a9 a10 a11:Option V} {r:St} {H:Hp} {Q:St→Hp→Prop} (h:Q (a0 :: a1 :: a2 :: a3 :: a4 :: a5 :: a6 :: a7 :: a8 :: a9 :: a10 :: a11 :: some v :: r) H):d4 12 v (a0 :: a1 :: a2 :: a3 :: a4 :: a5 :: a6 :: a7 :: a8 :: a9 :: a10 :: a11 :: x :: r) H Q:=h
end L2
set_option maxHeartbeats 4000000
namespace L2
open PySem PySem.Spec PyProof.Rows
def sp0 (f:Hp→VK→XK→Prop):Sp:=fun vs H Q E=>vs=[]∧f H Q E
def sp1 (f:V→Hp→VK→XK→Prop):Sp:=fun vs H Q E=>∃ a,vs=[a]∧f a H Q E
def sp2 (f:V→V→Hp→VK→XK→Prop):Sp:=fun vs H Q E=>∃ a b,vs=[a,b]∧f a b H Q E
def sp3 (f:V→V→V→Hp→VK→XK→Prop):Sp:=fun vs H Q E=>∃ a b c,vs=[a,b,c]∧f a b c H Q E
def sp4 (f:V→V→V→V→Hp→VK→XK→Prop):Sp:=fun vs H Q E=>∃ a b c d,vs=[a,b,c,d]∧f a b c d H Q E
theorem gB {f:V→Hp→VK→XK→Prop} {p:Str}:∀ vs H Q E,sp1 f vs H Q E→vs.length=[p].length:=by rintro _ _ _ _ ⟨_,rfl,_⟩;rfl
theorem fj {f:V→V→Hp→VK→XK→Prop} {p q:Str}:∀ vs H Q E,sp2 f vs H Q E→vs.length=[p,q].length:=by rintro _ _ _ _ ⟨_,_,rfl,_⟩;rfl
theorem CG {f:V→V→V→Hp→VK→XK→Prop} {p q r:Str}:∀ vs H Q E,sp3 f vs H Q E→vs.length=[p,q,r].length:=by rintro _ _ _ _ ⟨_,_,_,rfl,_⟩;rfl
theorem Dz {f:V→V→V→V→Hp→VK→XK→Prop} {p q r t:Str}:∀ vs H Q E,sp4 f vs H Q E→vs.length=[p,q,r,t].length:=by rintro _ _ _ _ ⟨_,_,_,_,rfl,_⟩;rfl
theorem DA {f:V→Hp→VK→XK→Prop} {a:V} {H:Hp} {Q:VK} {E:XK} (h:f a H Q E):sp1 f ([a]++[]) H Q E:=⟨a,rfl,h⟩
theorem DB {f:V→V→Hp→VK→XK→Prop} {a b:V} {H:Hp} {Q:VK} {E:XK} (h:f a b H Q E):sp2 f ([a,b]++[]) H Q E:=⟨a,b,rfl,h⟩
theorem DC {f:V→V→V→Hp→VK→XK→Prop} {a b c:V} {H:Hp} {Q:VK} {E:XK} (h:f a b c H Q E):sp3 f ([a,b,c]++[]) H Q E:=⟨a,b,c,rfl,h⟩
theorem DD {f:V→V→V→V→Hp→VK→XK→Prop} {a b c d:V} {H:Hp} {Q:VK} {E:XK} (h:f a b c d H Q E):sp4 f ([a,b,c,d]++[]) H Q E:=⟨a,b,c,d,rfl,h⟩
theorem DE {f:V→Hp→VK→XK→Prop} {a:V} {H:Hp} {Q:VK} {E:XK} (h:f a H Q E):sp1 f (a :: ([]++[])) H Q E:=⟨a,rfl,h⟩
theorem DF {f:V→V→Hp→VK→XK→Prop} {a b:V} {H:Hp} {Q:VK} {E:XK} (h:f a b H Q E):sp2 f (a :: ([b]++[])) H Q E:=⟨a,b,rfl,h⟩
theorem DG {f:V→V→V→Hp→VK→XK→Prop} {a b c:V} {H:Hp} {Q:VK} {E:XK} (h:f a b c H Q E):sp3 f (a :: ([b,c]++[])) H Q E:=⟨a,b,c,rfl,h⟩
def DefAt (K:PySem.W.Frag) (mg:Str→Option Value) (x:Str) (st:Stmt):Prop:=∃ f fd,Fun K x x st f fd∧mg x=some (.ref f)
def MethAt (K:PySem.W.Frag) (C:Addr) (m qual:Str) (st:Stmt):Prop:=∃ f fd,Fun K m qual st f fd∧Meth K C m f
def InitAt (K:PySem.W.Frag) (C:Addr) (qual:Str) (st:Stmt):Prop:=∃ f fd,Fun K "__init__" qual st f fd∧Mk K C f
def dm (P:Program) (w:World) (K:PySem.W.Frag) (mg:Str→Option Value) (base:Heap) (CX:CXT) (k:Nat) (x:Str) (ps:List Str) (sp:Sp):Prop:=
 ∃ f fd,FnOk P w K mg base CX k f fd ps sp∧Binds K fd ps []∧PySem.W.keepIn K (.ref f)=true∧mg x=some (.ref f)
def fX (P:Program) (w:World) (K:PySem.W.Frag) (mg:Str→Option Value) (base:Heap) (CX:CXT) (k:Nat) (C:Addr) (m:Str) (ps:List Str) (sp:Sp):Prop:=
 ∃ f fd,FnOk P w K mg base CX k f fd ps sp∧Binds K fd ps []∧Meth K C m f
def Ac (P:Program) (w:World) (K:PySem.W.Frag) (mg:Str→Option Value) (base:Heap) (CX:CXT) (k:Nat) (C:Addr) (ps:List Str) (sp:Sp):Prop:=
 ∃ f fd,FnOk P w K mg base CX k f fd ps sp∧Binds K fd ps []∧Mk K C f
section
variable {P:Program} {w:World} {K:PySem.W.Frag} {mg:Str→Option Value} {base:Heap}
abbrev nC (x qual:Str) (st:Stmt) (ps:List Str):Prop:=∀ (kV doc pm:Value) (an:Option Addr) (cdv ct:Value) (us:List Value),us.length=ps.length→bindArgs (PySem.W.fnOf x qual (iu st) (cv st) (ah st) .none kV doc pm an cdv ct) ⟨us,[]⟩=pure (ps.zip us)
theorem DefAt.ok {x:Str} {st:Stmt} {N ps:List Str} {k:Nat} {sp:Sp} (D:DefAt K mg x st) (S:FnScope N ps (ah st)) (hb:nC x x st ps) (len:∀ vs H Q E,sp vs H Q E→vs.length=ps.length)
  (hbody:∀ (f:Addr) (cdv:Value) (A:Around) (outer:List Env) (s:Shared) (H:Hp) (vs:List V) (Q:VK) (E:XK),Room k (A.deeper (envOfC x (ah st) s.heap.objs.size f cdv))→sp vs H Q E →
   ∃ t,PSs (br CX0 P w K mg base N x (ah st) f cdv A outer s H E).nox (cv st) t∧t {nx:=fun _ H'=>Q .non H',rt:=Q} (start N vs) H):dm P w K mg base CX0 (k+1) x ps sp:=by
 obtain ⟨f,fd,F,m⟩:=D
 exact ⟨f,fd,F.ok S len (hbody f),F.binds hb,F.kp,m⟩
theorem DefAt.okE {x:Str} {st:Stmt} {N ps:List Str} {k:Nat} {sp:Sp} (D:DefAt K mg x st) (S:FnScope N ps (ah st)) (hb:nC x x st ps) (len:∀ vs H Q E,sp vs H Q E→vs.length=ps.length)
  (hbody:∀ (f:Addr) (cdv:Value) (A:Around) (outer:List Env) (s:Shared) (H:Hp) (vs:List V) (Q:VK) (E:XK),Room k (A.deeper (envOfC x (ah st) s.heap.objs.size f cdv))→sp vs H Q E →
   ∃ t,PSs (br (CXe P w) P w K mg base N x (ah st) f cdv A outer s H E) (cv st) t∧t {nx:=fun _ H'=>Q .non H',rt:=Q} (start N vs) H):dm P w K mg base (CXe P w) (k+1) x ps sp:=by
 obtain ⟨f,fd,F,m⟩:=D
 exact ⟨f,fd,F.okE S len (hbody f),F.binds hb,F.kp,m⟩
theorem MethAt.ok {C:Addr} {m qual:Str} {st:Stmt} {N ps:List Str} {k:Nat} {sp:Sp} (D:MethAt K C m qual st) (S:FnScope N ps (ah st)) (hb:nC m qual st ps) (len:∀ vs H Q E,sp vs H Q E→vs.length=ps.length)
  (hbody:∀ (f:Addr) (cdv:Value) (A:Around) (outer:List Env) (s:Shared) (H:Hp) (vs:List V) (Q:VK) (E:XK),Room k (A.deeper (envOfC qual (ah st) s.heap.objs.size f cdv))→sp vs H Q E →
   ∃ t,PSs (br CX0 P w K mg base N qual (ah st) f cdv A outer s H E).nox (cv st) t∧t {nx:=fun _ H'=>Q .non H',rt:=Q} (start N vs) H):fX P w K mg base CX0 (k+1) C m ps sp:=by
 obtain ⟨f,fd,F,m⟩:=D
 exact ⟨f,fd,F.ok S len (hbody f),F.binds hb,m⟩
theorem MethAt.okE {C:Addr} {m qual:Str} {st:Stmt} {N ps:List Str} {k:Nat} {sp:Sp} (D:MethAt K C m qual st) (S:FnScope N ps (ah st)) (hb:nC m qual st ps) (len:∀ vs H Q E,sp vs H Q E→vs.length=ps.length)
  (hbody:∀ (f:Addr) (cdv:Value) (A:Around) (outer:List Env) (s:Shared) (H:Hp) (vs:List V) (Q:VK) (E:XK),Room k (A.deeper (envOfC qual (ah st) s.heap.objs.size f cdv))→sp vs H Q E →
   ∃ t,PSs (br (CXe P w) P w K mg base N qual (ah st) f cdv A outer s H E) (cv st) t∧t {nx:=fun _ H'=>Q .non H',rt:=Q} (start N vs) H):fX P w K mg base (CXe P w) (k+1) C m ps sp:=by
 obtain ⟨f,fd,F,m⟩:=D
 exact ⟨f,fd,F.okE S len (hbody f),F.binds hb,m⟩
theorem InitAt.ok {C:Addr} {qual:Str} {st:Stmt} {N ps:List Str} {k:Nat} {sp:Sp} (D:InitAt K C qual st) (S:FnScope N ps (ah st)) (hb:nC "__init__" qual st ps) (len:∀ vs H Q E,sp vs H Q E→vs.length=ps.length)
  (hbody:∀ (f:Addr) (cdv:Value) (A:Around) (outer:List Env) (s:Shared) (H:Hp) (vs:List V) (Q:VK) (E:XK),Room k (A.deeper (envOfC qual (ah st) s.heap.objs.size f cdv))→sp vs H Q E →
   ∃ t,PSs (br CX0 P w K mg base N qual (ah st) f cdv A outer s H E).nox (cv st) t∧t {nx:=fun _ H'=>Q .non H',rt:=Q} (start N vs) H):Ac P w K mg base CX0 (k+1) C ps sp:=by
 obtain ⟨f,fd,F,m⟩:=D
 exact ⟨f,fd,F.ok S len (hbody f),F.binds hb,m⟩
end
theorem nE {P:Program} {w:World} {X:Cx}:cI (CXe P w) X E0:=fun _ _ _ _ _ _ _ ⟨_,_,_,_,_,_,_,h⟩=>h.elim
section
variable {X:Cx} {CX:CXT} {j k:Nat} {x m:Str} {C:Addr} {ps:List Str} {sp:Sp} {E:XK} {p pos apos:Pos} {e o:Expr} {es:List Expr} {t:TA} {ta:TE}
theorem bV (G:dm X.prog X.w X.K X.mg X.base CX j x ps sp) (hr:Room k X.A) (hx:cI CX X E) (ha:PA X (e :: es) t) (hjk:j≤k:=by decide) (hg:Gl X x:=by rfl) (hdb:(x == ("__debug__" : Str))=false:=by decide)
  (he:starEach (e :: es) X.env=(false,eval e X.env) :: starEach es X.env:=by rfl) (hpl:(backTo pos (starEach es X.env)).any (·.1)=false:=by rfl):PE X (.Call (.Name x p) (e :: es) [] pos) (iq sp [] E t):=by
 obtain ⟨f,fd,F,b,kp,mm⟩:=G
 exact yf F (hr.mono hjk) hg mm kp b .nil hx ha hdb he hpl
theorem DH (G:dm X.prog X.w X.K X.mg X.base CX j x ps sp) (hr:Room k X.A) (hx:cI CX X E) (hjk:j≤k:=by decide) (hg:Gl X x:=by rfl) (hdb:(x == ("__debug__" : Str))=false:=by decide) :
  PE X (.Call (.Name x p) [] [] pos) (iq sp [] E mO):=by
 obtain ⟨f,fd,F,b,kp,mm⟩:=G
 exact vQ F (hr.mono hjk) hg mm kp b .nil hx hdb
theorem d7 {pl:Sem Bool} (c:Cls X.K C) (G:fX X.prog X.w X.K X.mg X.base CX j C m ps sp) (hr:Room k X.A) (hx:cI CX X E) (he:PE X o ta) (ha:PA X (e :: es) t) (hjk:j≤k:=by decide)
  (hst:starEach (e :: es) X.env=(false,eval e X.env) :: starEach es X.env:=by rfl) (hpl:(backTo pos (starEach es X.env)).any (·.1)=false:=by rfl)
  (ht:eval (.Call (.Attribute o m apos) (e :: es) [] pos) X.env=(do
   let ov ← eval o X.env
   standAt apos.atName
   let (f,first) ← holding [ov] (getMethod ov m pl)
   callWith pos f first (backTo pos (starEach (e :: es) X.env)) (backToKw pos (keywordEach [] X.env))):=by rfl) :
  PE X (.Call (.Attribute o m apos) (e :: es) [] pos) (mT C m sp [] E ta t):=by
 obtain ⟨f,fd,F,b,mm⟩:=G
 exact yg he c mm F (hr.mono hjk) b .nil hx ha hst hpl ht
theorem ku {pl:Sem Bool} (c:Cls X.K C) (G:fX X.prog X.w X.K X.mg X.base CX j C m ps sp) (hr:Room k X.A) (hx:cI CX X E) (he:PE X o ta) (hjk:j≤k:=by decide)
  (ht:eval (.Call (.Attribute o m apos) [] [] pos) X.env=(do
   let ov ← eval o X.env
   standAt apos.atName
   let (f,first) ← holding [ov] (getMethod ov m pl)
   callWith pos f first (backTo pos (starEach [] X.env)) (backToKw pos (keywordEach [] X.env))):=by rfl) :
  PE X (.Call (.Attribute o m apos) [] [] pos) (mT C m sp [] E ta mO):=by
 obtain ⟨f,fd,F,b,mm⟩:=G
 exact vR he c mm F (hr.mono hjk) b .nil hx ht
theorem DI (G:Ac X.prog X.w X.K X.mg X.base CX j C ps sp) (hr:Room k X.A) (hm:X.mg x=some (.ref C)) (hx:cI CX X E) (ha:PA X (e :: es) t) (hjk:j+1≤k:=by decide) (hg:Gl X x:=by rfl) (hdb:(x == ("__debug__" : Str))=false:=by decide)
  (he:starEach (e :: es) X.env=(false,eval e X.env) :: starEach es X.env:=by rfl) (hpl:(backTo pos (starEach es X.env)).any (·.1)=false:=by rfl):PE X (.Call (.Name x p) (e :: es) [] pos) (sg C sp [] E t):=by
 obtain ⟨f,fd,F,b,mm⟩:=G
 exact yh mm F (hr.mono hjk) hg hm b .nil hx ha hdb he hpl
theorem uh (G:Ac X.prog X.w X.K X.mg X.base CX j C ps sp) (hr:Room k X.A) (hm:X.mg x=some (.ref C)) (hx:cI CX X E) (hjk:j+1≤k:=by decide) (hg:Gl X x:=by rfl) (hdb:(x == ("__debug__" : Str))=false:=by decide) :
  PE X (.Call (.Name x p) [] [] pos) (sg C sp [] E mO):=by
 obtain ⟨f,fd,F,b,mm⟩:=G
 exact vS mm F (hr.mono hjk) hg hm b .nil hx hdb
end
theorem pgi {X:Cx} {x:Str} {i:Int} {pos:Pos} (hm:∃ t,X.mg x=some (.int i t)) (hg:Gl X x:=by rfl) (hd:(x == ("__debug__" : Str))=false:=by decide):PE X (.Name x pos) (tC (.int i)):=let ⟨_,h⟩:=hm;pd hg h ⟨_,rfl⟩ hd
theorem pgs {X:Cx} {x:Str} {i:Str} {pos:Pos} (hm:∃ t,X.mg x=some (.str i t)) (hg:Gl X x:=by rfl) (hd:(x == ("__debug__" : Str))=false:=by decide):PE X (.Name x pos) (tC (.str i)):=let ⟨_,h⟩:=hm;pd hg h ⟨_,rfl⟩ hd
theorem pgr {X:Cx} {x:Str} {a:Addr} {pos:Pos} (hm:X.mg x=some (.ref a)) (hg:Gl X x:=by rfl) (hd:(x == ("__debug__" : Str))=false:=by decide):PE X (.Name x pos) (tC (.ref a)):=pd hg hm rfl hd
theorem pty {X:Cx} {x:Str} {n:String} {pos:Pos} (hm:X.mg x=none) (hv:bootBuiltins x=some (.type n)) (hg:Gl X x:=by rfl) (hn:x ≠ "__name__" := by decide) (hd:(x == ("__debug__" : Str))=false:=by decide):PE X (.Name x pos) (tC (.ty n)):=xV hg hm hv rfl hn hd
end L2
set_option maxHeartbeats 4000000
namespace L2
open PySem PySem.Spec PyProof.Rows
theorem aJ {H:Hp} {a b:Addr} {o:HO} (h':aS H b) (h:At H a o):a≠b:=aB h h'
def rdF (w p c:V):List (Str×V):=[("wire",w),("plain",p),("choices",c)]
theorem pE {w p c v:V}:fg "choices" v (rdF w p c)=rdF w p v:=by rfl
def ndF (st ps rd sn qu tk fc:V):List (Str×V):=[("state",st),("passed",ps),("reading",rd),("sending",sn),("queue",qu),("taken",tk),("fault_count",fc)]
section
variable {st ps rd sn qu tk fc v:V}
theorem ui:fg "state" v (ndF st ps rd sn qu tk fc)=ndF v ps rd sn qu tk fc:=by rfl
theorem su:fg "passed" v (ndF st ps rd sn qu tk fc)=ndF st v rd sn qu tk fc:=by rfl
theorem pF:fg "reading" v (ndF st ps rd sn qu tk fc)=ndF st ps v sn qu tk fc:=by rfl
theorem pG:fg "sending" v (ndF st ps rd sn qu tk fc)=ndF st ps rd v qu tk fc:=by rfl
theorem jL:fg "fault_count" v (ndF st ps rd sn qu tk fc)=ndF st ps rd sn qu tk v:=by rfl
end
def buF (ns bp:V):List (Str×V):=[("nodes",ns),("bits_past",bp)]
theorem lS {a b v:V}:fg "bits_past" v (buF a b)=buF a v:=by rfl
theorem kZ {l:Addr} {k:Int} {xs:List V} {H:Hp} {Q:VK} (e:At H l (.lst xs)) (h1 : -(2 ^ 63)≤k) (h2:k < 2 ^ 63) (h3:xs.length * k.toNat≤sizeLine) (h:∀ p,aS H p→Q (.ref p) (upd H p (.lst (List.replicate k.toNat xs).flatten))):Ei (.ref l) (.int k) H Q:=
 ⟨l,k,xs,rfl,rfl,e,h1,h2,h3,h⟩
theorem cw {K:PySem.W.Frag} {tl:TE} {g:TG} {tb:TS} {D:Ends} {s:St} {H:Hp} (h:tl s H fun x H1=>∃ a,x = .ref a∧(∃ xs,SqL K H1 a xs)∧∃ W:Nat→Nat→St→Hp→Prop,(∃ m,W 0 m s H1)∧∀ i m σ H,W i m σ H →
 ((Itl K a).stop i H∧D.nx σ H)∨((Itl K a).go i H∧∃ N:St→Hp→Prop,(∀ σ' H',N σ' H'→∃ m',m' < m∧W (i+1) m' σ' H')∧∀ x H',(Itl K a).yld i H x H'→g x σ H' fun σ2 H2=>tb {D with nx:=N,ct:=N,bk:=D.nx} σ2 H2)):Cv (vL K tl) g tb D s H:=h
theorem bW {K:PySem.W.Frag} {g:TG} {tb:TS} {D:Ends} {s:St} {H:Hp} {a:Addr} {xs:List V} (Pv:Nat→St→Hp→Prop) (e:SqL K H a xs) (h0:Pv 0 s H) (hl:∀ i σ H,i≤xs.length→Pv i σ H→SqL K H a xs)
  (hs:∀ i x σ H,xs[i]? = some x→Pv i σ H→g x σ H fun σ2 H2=>tb {D with nx:=Pv (i+1),ct:=Pv (i+1),bk:=D.nx} σ2 H2) (hd:∀ σ H,Pv xs.length σ H→D.nx σ H) :
  ∃ a',V.ref a = .ref a'∧(∃ xs,SqL K H a' xs)∧∃ W:Nat→Nat→St→Hp→Prop,(∃ m,W 0 m s H)∧∀ i m σ H,W i m σ H →
 ((Itl K a').stop i H∧D.nx σ H)∨((Itl K a').go i H∧∃ N:St→Hp→Prop,(∀ σ' H',N σ' H'→∃ m',m' < m∧W (i+1) m' σ' H')∧∀ x H',(Itl K a').yld i H x H'→g x σ H' fun σ2 H2=>tb {D with nx:=N,ct:=N,bk:=D.nx} σ2 H2):=
 ⟨a,rfl,⟨xs,e⟩,vM Pv h0 hl hs hd⟩
theorem dF {ta:TA} {g:TG} {tb:TS} {D:Ends} {s:St} {H:Hp} (h:ta s H fun vs H1=>∃ j:Int,vs=[.int j] ∧ -(2 ^ 62)≤j∧j < 2 ^ 62∧∃ W:Nat→Nat→St→Hp→Prop,(∃ m,W 0 m s H1)∧∀ i m σ H,W i m σ H →
 ((Itr 0 j.toNat).stop i H∧D.nx σ H)∨((Itr 0 j.toNat).go i H∧∃ N:St→Hp→Prop,(∀ σ' H',N σ' H'→∃ m',m' < m∧W (i+1) m' σ' H')∧∀ x H',(Itr 0 j.toNat).yld i H x H'→g x σ H' fun σ2 H2=>tb {D with nx:=N,ct:=N,bk:=D.nx} σ2 H2)):Cv (x8 ta) g tb D s H:=h
theorem cW {g:TG} {tb:TS} {D:Ends} {s:St} {H:Hp} {j:Int} (n:Nat) (Pv:Nat→St→Hp→Prop) (e:j.toNat=n) (hn:j < 2 ^ 62 ∧ -(2 ^ 62)≤j) (h0:Pv 0 s H)
  (hs:∀ i σ H,i < n→Pv i σ H→g (.int (i:Int)) σ H fun σ2 H2=>tb {D with nx:=Pv (i+1),ct:=Pv (i+1),bk:=D.nx} σ2 H2) (hd:∀ σ H,Pv n σ H→D.nx σ H) :
  ∃ j':Int,[V.int j]=[.int j'] ∧ -(2 ^ 62)≤j'∧j' < 2 ^ 62∧∃ W:Nat→Nat→St→Hp→Prop,(∃ m,W 0 m s H)∧∀ i m σ H,W i m σ H →
 ((Itr 0 j'.toNat).stop i H∧D.nx σ H)∨((Itr 0 j'.toNat).go i H∧∃ N:St→Hp→Prop,(∀ σ' H',N σ' H'→∃ m',m' < m∧W (i+1) m' σ' H')∧∀ x H',(Itr 0 j'.toNat).yld i H x H'→g x σ H' fun σ2 H2=>tb {D with nx:=N,ct:=N,bk:=D.nx} σ2 H2):=by
 refine ⟨j,rfl,hn.2,hn.1,?_⟩
 rw [e]
 exact mQ Pv h0 (fun i σ H hi hp=>by rw [Int.zero_add];exact hs i σ H hi hp) hd
theorem b9 {K:PySem.W.Frag} {tl:TE} {tt:TT} {te:TE} {js:List Nat} {s:St} {H:Hp} {Q:VK} (h:tl s H fun x H1=>∃ a,x = .ref a∧(∃ xs,SqL K H1 a xs)∧∀ D,aS H1 D→∃ W:Nat→Nat→List V→Hp→Prop,(∃ n,W 0 n [] (upd H1 D (.lst [])))∧eB (Itl K a) tt te (o6 s js) D W Q):nj (vL K tl) tt te js s H Q:=h
theorem lT {ta:TA} {tt:TT} {te:TE} {js:List Nat} {s:St} {H:Hp} {Q:VK} (h:ta s H fun vs H1=>∃ j:Int,vs=[.int j] ∧ -(2 ^ 62)≤j∧j < 2 ^ 62∧∀ D,aS H1 D→∃ W:Nat→Nat→List V→Hp→Prop,(∃ n,W 0 n [] (upd H1 D (.lst [])))∧eB (Itr 0 j.toNat) tt te (o6 s js) D W Q):nj (x8 ta) tt te js s H Q:=h
theorem db {K:PySem.W.Frag} {te:TE} {caps:St} {H:Hp} {Q:VK} {a:Addr} {xs:List V} (f:V→V) (e:SqL K H a xs) (hn:xs.length≤sizeLine)
  (he:∀ (i:Nat) (x:V) (H':Hp) (R:VK),xs[i]? = some x→Same H H'→(∀ H2,Same H' H2→R (f x) H2)→te (caps++[some x]) H' R)
  (hQ:∀ D Hf,Same H Hf→aS H D→Hf D=some (.lst (xs.map f))→Q (.ref D) Hf) :
  ∃ a',V.ref a = .ref a'∧(∃ xs,SqL K H a' xs)∧∀ D,aS H D→∃ W:Nat→Nat→List V→Hp→Prop,(∃ n,W 0 n [] (upd H D (.lst [])))∧eB (Itl K a') bE te caps D W Q:=
 ⟨a,rfl,⟨xs,e⟩,fun D hD=>we f hD hn e he fun Hf s1 e1=>hQ D Hf s1 hD e1⟩
theorem uj {te:TE} {caps:St} {H:Hp} {Q:VK} {j:Int} (n:Nat) (f:Nat→V) (e:j.toNat=n) (hj:j < 2 ^ 62 ∧ -(2 ^ 62)≤j) (hn:n≤sizeLine)
  (he:∀ (i:Nat) (H':Hp) (R:VK),i < n→Same H H'→(∀ H2,Same H' H2→R (f i) H2)→te (caps++[some (.int (i:Int))]) H' R)
  (hQ:∀ D Hf,Same H Hf→aS H D→Hf D=some (.lst ((List.range n).map f))→Q (.ref D) Hf) :
  ∃ j':Int,[V.int j]=[.int j'] ∧ -(2 ^ 62)≤j'∧j' < 2 ^ 62∧∀ D,aS H D→∃ W:Nat→Nat→List V→Hp→Prop,(∃ n,W 0 n [] (upd H D (.lst [])))∧eB (Itr 0 j'.toNat) bE te caps D W Q:=by
 refine ⟨j,rfl,hj.2,hj.1,fun D hD => ?_⟩
 rw [e]
 exact wd f hD hn (fun i H' R hi s1 hR=>by rw [Int.zero_add];exact he i H' R hi s1 hR) fun Hf s1 e1=>hQ D Hf s1 hD e1
theorem cx {l:List Int} {j:Nat} (h:j < l.length):atI (l.map V.int) (j:Int)=some (.int (l.getD j 0)):=by
 refine dE ?_
 rw [List.getElem?_map,List.getElem?_eq_getElem h]
 simp [List.getD_eq_getElem?_getD,h]
theorem uk {n j:Nat} (h:j < n):ixN n (j:Int)=some j:=by
 unfold ixN
 rw [if_pos (by omega),if_pos (by omega)]
 simp
theorem map_set (l:List Int) (j:Nat) (x:Int):(l.map V.int).set j (.int x)=(l.set j x).map V.int:=by
 rw [List.map_set]
theorem ce {bs:List Int} {i:Nat} {y:V} (h:(bs.map V.int)[i]? = some y):∃ b,bs[i]? = some b∧y = .int b:=by
 rw [List.getElem?_map] at h
 cases e:bs[i]? with
 | none=>rw [e] at h;cases h
 | some b=>rw [e] at h;exact ⟨b,rfl,(Option.some.inj h).symm⟩
theorem eE {α β:Type} {f:α→β→α} {a:α} {l:List β} {i:Nat} {b:β} (h:l[i]? = some b):(l.take (i+1)).foldl f a=f ((l.take i).foldl f a) b:=by
 have hi:=(List.getElem?_eq_some_iff.mp h)
 obtain ⟨hi,e⟩:=hi
 rw [List.take_succ_eq_append_getElem hi,List.foldl_append,e]
 rfl
theorem rq (i:Int) (l:List Int):inV (.int i) (l.map V.int)=l.contains i:=by
 unfold inV
 rw [List.any_map]
 induction l with
 | nil=>rfl
 | cons a l ih=>
  rw [List.any_cons,ih,List.contains_cons]
  congr 1
  show (a == i)=(i == a)
  exact Bool.eq_iff_iff.mpr ⟨fun h=>by simpa using (beq_iff_eq.mp h).symm,fun h=>by simpa using (beq_iff_eq.mp h).symm⟩
theorem nG (l:List Int):(l.map V.int).all ir=true:=by
 rw [List.all_eq_true]
 intro x hx
 obtain ⟨_,_,rfl⟩:=List.mem_map.mp hx
 rfl
theorem yS (xs:List V) (a b:Nat):jF xs (some (a:Int)) (some (b:Int))=(xs.take b).drop a:=by
 unfold jF
 rw [HT.sIx_nat,HT.sIx_nat]
 rcases Nat.le_total a xs.length with h | h
 ·rw [Nat.min_eq_left h,List.drop_take]
  rcases Nat.le_total b xs.length with h2 | h2
  ·rw [Nat.min_eq_left h2]
  ·rw [Nat.min_eq_right h2,List.take_of_length_le (by rw [List.length_drop];omega),List.take_of_length_le (by rw [List.length_drop];omega)]
 ·rw [Nat.min_eq_right h,List.drop_eq_nil_of_le (Nat.le_refl _),List.drop_eq_nil_of_le (by rw [List.length_take];omega)]
  simp
theorem fk (xs:List V) (a:Nat):jF xs (some (a:Int)) none=xs.drop a:=by
 unfold jF
 rw [HT.sIx_nat,HT.sIx_none]
 rcases Nat.le_total a xs.length with h | h
 ·rw [Nat.min_eq_left h,List.take_of_length_le (by rw [List.length_drop];omega)]
 ·rw [Nat.min_eq_right h,List.drop_eq_nil_of_le (Nat.le_refl _),List.drop_eq_nil_of_le h]
  simp
theorem rA (xs:List V) (b:Nat):jF xs none (some (b:Int))=xs.take b:=by
 unfold jF
 rw [HT.sIx_nat,HT.sIx_none,Nat.sub_zero,List.drop_zero]
 rcases Nat.le_total b xs.length with h | h
 ·rw [Nat.min_eq_left h]
 ·rw [Nat.min_eq_right h,List.take_of_length_le (Nat.le_refl _),List.take_of_length_le h]
def RcK (K:PySem.W.Frag) (H:Hp) (n:Nat) (x y:V) (b:Bool):Prop:=∀ X:Cx,X.K=K→RcW X H n x y b
def EqK (K:PySem.W.Frag) (H:Hp) (n:Nat) (x y:V) (b:Bool):Prop:=∀ X:Cx,X.K=K→EqW X H n x y b
def Er (K:PySem.W.Frag):R2:=fun x y H Q=>∃ b,RcK K H 8 x y b∧Q (.bl b) H
def Bv (K:PySem.W.Frag):R2:=fun x y H Q=>∃ b,RcK K H 8 x y b∧Q (.bl (!b)) H
def Bw (K:PySem.W.Frag):R2:=fun x y H Q=>∃ t p1 p2 b1 b2,y = .ref t∧SqT K H t [.ref p1,.ref p2]∧p1≠p2∧EqK K H 8 (.ref p1) x b1∧EqK K H 8 (.ref p2) x b2∧Q (.bl (b1 || b2)) H
section
variable {X:Cx} {K:PySem.W.Frag}
theorem Bx {k:Nat} (hr:Room k X.A):OpR X (compareOp .Eq) (Er X.K):=fun pins s σ H x y v u Q I rx ry ⟨b,h,q⟩=>AQ hr pins s σ H x y v u Q I rx ry ⟨b,h X rfl,q⟩
theorem By {k:Nat} (hr:Room k X.A):OpR X (compareOp .NotEq) (Bv X.K):=fun pins s σ H x y v u Q I rx ry ⟨b,h,q⟩=>AS hr pins s σ H x y v u Q I rx ry ⟨b,h X rfl,q⟩
theorem yT {k:Nat} (hr:Room k X.A):OpR X (compareOp .In) (Bw X.K):=fun pins s σ H x y v u Q I rx ry ⟨t,p1,p2,b1,b2,e,hs,hn,h1,h2,q⟩=>AX hr pins s σ H x y v u Q I rx ry ⟨t,p1,p2,b1,b2,e,hs,hn,h1 X rfl,h2 X rfl,q⟩
theorem wG {H:Hp} {a b:Addr} {xs ys:List Int} (ha:SqL K H a (xs.map V.int)) (hb:SqL K H b (ys.map V.int)):RcK K H 8 (.ref a) (.ref b) (decide (xs=ys)):=fun X e=>by subst e;exact rm ha hb
theorem rC {H:Hp} {a b:Addr} {xs ys:List Int} (ha:At H a (.lst (xs.map V.int))) (hb:At H b (.lst (ys.map V.int))):EqK K H 8 (.ref a) (.ref b) (decide (xs=ys)):=fun X e=>by subst e;exact wt ha hb
theorem ul {H:Hp} {a b:Addr} {xs ys:List Int} {Q:VK} (ha:SqL K H a (xs.map V.int)) (hb:SqL K H b (ys.map V.int)) (h:Q (.bl (!decide (xs=ys))) H):Bv K (.ref a) (.ref b) H Q:=⟨_,wG ha hb,h⟩
end
theorem SqL.new {K:PySem.W.Frag} {H:Hp} {a p:Addr} {xs:List V} {o:HO} (hp:aS H p) (h:SqL K H a xs):SqL K (upd H p o) a xs:=(au hp o).seq h
theorem DJ {H:Hp} {a:Addr} {o:HO} (h:At H a o):At H a o:=h
theorem Bz {K:PySem.W.Frag} {H:Hp} {a:Addr} {xs:List V} (h:SqL K H a xs):SqL K H a xs:=h
theorem BF {K:PySem.W.Frag} {H:Hp} {a:Addr} {xs:List V} (h:SqT K H a xs):SqT K H a xs:=h
theorem um {H:Hp} {a b:Addr} (h':aS H b) (h:∃ o,At H a o):a≠b:=let ⟨_,e⟩:=h;aB e h'
section
variable {K:PySem.W.Frag} {f m:Str} {a C:Addr} {H:Hp} {Q:VK} {N:Hp→Prop} {y:V} {i j:Int} {A:Prop}
theorem E6 {R:Int→Int→Prop} {g:Int→Int→V} (h:rI R g (.int i) (.int j) H Q):rI R g (.int i) (.int j) H Q:=h
theorem BG (h:CF K f (.ref a) H Q):CF K f (.ref a) H Q:=h
theorem yU (h:wx K f y (.ref a) H N):wx K f y (.ref a) H N:=h
theorem yV {N:Addr→Addr→V→Hp→Prop} (h:wz K f N (.ref a) H):wz K f N (.ref a) H:=h
theorem yW (h:wA f a C y H N):wA f a C y H N:=h
theorem yX {N:V→Hp→Prop} (h:wB C m N (.ref a) H):wB C m N (.ref a) H:=h
theorem xG (h:pC K [.ref a] H Q):pC K [.ref a] H Q:=h
theorem yY (h:ny K [.ref a] H Q):ny K [.ref a] H Q:=h
theorem BH (h:yj K (.ref a) (.int i) H Q):yj K (.ref a) (.int i) H Q:=h
theorem BI (h:tyV K "list" (.ref a) H∧A):tyV K "list" (.ref a) H∧A:=h
theorem BJ {Q:Bool→Hp→Prop} (h:uf K (.ref a) H Q):uf K (.ref a) H Q:=h
end
end L2
set_option maxHeartbeats 4000000
namespace L2
open PySem PySem.Spec PyProof.Rows
def Its (lo c:Int) (n:Nat):It:=⟨fun i _=>i < n,fun i H x H'=>H'=H∧x = .int (lo+(i:Nat) * c),fun i _=>n≤i⟩
theorem pH {P:Program} {w:World} {K:PySem.W.Frag} {tg:Expr} (it:Addr) (lo c:Int) (n:Nat):Turn P w K tg (Its lo c n) [it] it (fun i h=>IsRangeIter h it (lo+(i:Nat) * c) ((n:Int) - (i:Nat)) c) where
 mem:=by simp
 obj:=fun i h st b hb=>by
  have e:b=it:=by simpa using hb
  subst e
  exact ⟨_,st,fun v z=>by
   have z':Data.fields _=Data.cell v:=z
   cases z'⟩
 keep:=fun i h h' st k=>k it (by simp) _ st
 item:=by
  intro X hP hw hK hc i pins s σ H E I hf st hg
  subst hP hw hK
  obtain ⟨f0,f1,f2,f3,f4,f5⟩:=hf it (by simp)
  have W:=Walks.range (prog:=X.prog) (w:=X.w) (I.ok.hd hc) it lo c n
  refine W.item i s _ _ hg st fun v h' tk hv st' kk => ?_
  obtain ⟨t,rfl⟩:=hv
  have I1:Inv X pins σ H {s with heap:=h',toks:=tk}:=I.turned (fun b o hb e=>kk b o (by simpa using hb) e) f0 f1 f3 f4 f5
  exact ⟨_,rfl,xZ (s:={s with heap:=h',toks:=tk}) (n := "range_iterator") st' rfl rfl (by decide) ⟨.int (lo+(i:Nat) * c),H,I1,⟨t,rfl⟩,⟨rfl,rfl⟩,st',fun b hb=>(hf b hb).1⟩⟩
 done:=by
  intro X hP hw hK hc i pins s σ H E I hf st hg
  subst hP hw hK
  obtain ⟨f0,f1,f2,f3,f4,f5⟩:=hf it (by simp)
  exact wpAny_pyNext_range_end (I.ok.hd hc) st (by have:n≤i:=hg;omega) fun h' eb=>⟨rfl,I.turned (t':=s.toks) (fun b o hb e=>eb b o hb e) f0 f1 f3 f4 f5⟩
 self:=fun _ _ _ _ _ st h=>wpAny_pyIter_rangeiter st h
section
variable {X:Cx} {tg:Expr}
theorem jM {i j:Int} {n:Nat} (e:j=i+8 * n):Builtin.Range.rangeSize i j 8=n:=by
 unfold Builtin.Range.rangeSize
 rw [if_pos (by decide)]
 split <;> omega
theorem yZ {i j:Int} {n:Nat} (h0:0≤i) (e:j=i+8 * n) (h1:j≤100000):Builtin.Range.small i j 8=true:=by
 unfold Builtin.Range.small
 rw [jM e]
 simp only [Builtin.Range.rangeFitsLong,Bool.and_eq_true,Bool.or_eq_true,decide_eq_true_eq,beq_iff_eq,show (8:Int) > 0 by decide,if_true]
 omega
def BK (ta:TA):TI:=fun σ H R=>ta σ H fun vs H1=>∃ (i j:Int) (n:Nat),vs=[.int i,.int j,.int 8]∧0≤i∧j=i+8 * n∧j≤100000∧R (Its i 8 n) H1
theorem uo {a b c:Expr} {ta:TA} {p pos:Pos} (hg:Gl X "range") (hm:X.mg "range" = none) (ha:PA X [a,b,c] ta) (hs:starEach [a,b,c] X.env=[(false,eval a X.env),(false,eval b X.env),(false,eval c X.env)]:=by rfl)
  (hs2:starEach [b,c] X.env=[(false,eval b X.env),(false,eval c X.env)]:=by rfl):PI X tg (.Call (.Name "range" p) [a,b,c] [] pos) (BK ta):=by
 intro pins s σ H R I h
 refine Call_ (kP I hg hm boot_range (PyProof.Rows.callWith_type1 (thn (ha pos pins s σ H _ I h) fun us s1 ⟨vs,H1,I1,r1,q1⟩ => ?_) (by rw [hs,hs2]) (by rw [hs2];rfl)))
 obtain ⟨i,j,n,e,q1,q2,q3,q⟩:=q1
 subst e
 cases r1 with
 | cons r rr=>
  cases rr with
  | cons r' rr=>
   cases rr with
   | cons r3 rr=>
    cases rr
    obtain ⟨t,rfl⟩:=r
    obtain ⟨t',rfl⟩:=r'
    obtain ⟨t3,rfl⟩:=r3
    refine call_range_3 (by decide) ?_ (Or.inl (PyProof.noPylong_small (by omega)))
    refine wpAny_pyIter_range (IsRange.new ..) (yZ q1 q2 q3) ?_
    have I2:Inv X pins σ H1 {s1 with heap:=s1.heap.push {cls := .type "range",data := .fields #[.int i t,.int j t',.int 8 t3]},toks:=s1.toks}:=I1.kept fun b o e=>Heap.get?_push_of_some _ e
    refine ⟨(s1.heap.push {cls := .type "range",data := .fields #[.int i t,.int j t',.int 8 t3]}).objs.size,[(s1.heap.push {cls := .type "range",data := .fields #[.int i t,.int j t',.int 8 t3]}).objs.size],_,_,H1,rfl,
     I2.kept (t':=s1.toks) fun b o e=>Heap.get?_push_of_some _ e,pH _ i 8 n,?_,fun b hb => ?_,q⟩
    ·show IsRangeIter _ _ (i+((0:Nat):Int) * 8) ((n:Int) - ((0:Nat):Int)) 8
     rw [show i+((0:Nat):Int) * 8=i by simp,show (n:Int) - ((0:Nat):Int)=Builtin.Range.rangeSize i j 8 by rw [jM q2];simp]
     exact Heap.get?_push_size _ rfl
    ·have e:b=(s1.heap.push {cls := .type "range",data := .fields #[.int i t,.int j t',.int 8 t3]}).objs.size:=by simpa using hb
     subst e
     exact I2.fpOk (Nat.le_refl _) (I2.hok.fresh (Nat.le_refl _))
end
theorem up {te:TE} {caps:St} {D:Addr} {H1:Hp} {lo c:Int} {n:Nat} {Q:VK} (f:Nat→V) (hD:H1 D=none) (hn:n≤sizeLine)
  (he:∀ (i:Nat) (H':Hp) (R:VK),i < n→Same H1 H'→(∀ H2,Same H' H2→R (f i) H2)→te (caps++[some (.int (lo+(i:Nat) * c))]) H' R)
  (hQ:∀ Hf,Same H1 Hf→Hf D=some (.lst ((List.range n).map f))→Q (.ref D) Hf) :
  ∃ W:Nat→Nat→List V→Hp→Prop,(∃ m,W 0 m [] (upd H1 D (.lst [])))∧eB (Its lo c n) bE te caps D W Q:=by
 refine ⟨fun i m ys Hc=>i≤n∧m=n - i∧ys=(List.range i).map f∧Same H1 Hc∧Hc D=some (.lst ys),⟨n,Nat.zero_le _,rfl,rfl,au hD _,bA⟩,?_⟩
 rintro i m ys Hc ⟨hi,rfl,rfl,s1,e⟩
 refine ⟨e,?_⟩
 by_cases h:i < n
 ·refine .inr ⟨h,by rw [List.length_map,List.length_range];exact Nat.lt_of_lt_of_le h hn,?_⟩
  rintro v H' ⟨rfl,rfl⟩
  show te _ _ _
  refine he i _ _ h s1 fun H2 s2=>⟨s2 _ _ e,n - (i+1),by omega,by omega,rfl,kY f i,?_,bA⟩
  exact cz (s1.trans s2) hD
 ·have hin:i=n:=by omega
  subst hin
  exact .inl ⟨Nat.le_refl _,hQ Hc s1 e⟩
theorem wH {ta:TA} {tt:TT} {te:TE} {js:List Nat} {s:St} {H:Hp} {Q:VK} (h:ta s H fun vs H1=>∃ (i j:Int) (n:Nat),vs=[.int i,.int j,.int 8]∧0≤i∧j=i+8 * n∧j≤100000∧∀ D,H1 D=none→∃ W:Nat→Nat→List V→Hp→Prop,(∃ n,W 0 n [] (upd H1 D (.lst [])))∧eB (Its i 8 n) tt te (o6 s js) D W Q):nj (BK ta) tt te js s H Q:=h
theorem uq {te:TE} {caps:St} {H:Hp} {Q:VK} {i j:Int} (n:Nat) (f:Nat→V) (hi:0≤i) (e:j=i+8 * n) (hj:j≤1000)
  (he:∀ (k:Nat) (H':Hp) (R:VK),k < n→Same H H'→(∀ H2,Same H' H2→R (f k) H2)→te (caps++[some (.int (i+(k:Nat) * 8))]) H' R)
  (hQ:∀ D Hf,Same H Hf→aS H D→At Hf D (.lst ((List.range n).map f))→Q (.ref D) Hf) :
  ∃ (i' j':Int) (n:Nat),[V.int i,V.int j,V.int 8]=[.int i',.int j',.int 8]∧0≤i'∧j'=i'+8 * n∧j'≤100000∧∀ D,H D=none→∃ W:Nat→Nat→List V→Hp→Prop,(∃ n,W 0 n [] (upd H D (.lst [])))∧eB (Its i' 8 n) bE te caps D W Q:=
 ⟨i,j,n,rfl,hi,e,by omega,fun D hD=>up f hD (small (by omega)) he fun Hf s1 e1=>hQ D Hf s1 hD e1⟩
section
variable {X:Cx} {scope:Scope} {x:Str} {fv:List Str} {js:List Nat}
theorem pI {i:Nat} {y:Str} {elt iter:Expr} {wi:TI} {te:TE} {px py pos spos:Pos} (hN:X.N.Nodup) (hy:X.N[i]? = some y) (hl:Loc X.env.scope y) (hi:PI X (.Name x px) iter wi) (he:∀ fp s H,PE (cxC X (fv++[x]) scope fp s H) elt te)
  (hC:jI X.env.scope scope X.N x fv js=true:=by rfl) (hcalm:X.calm=true:=by rfl) (hs:∀ v,foldedSetIterable iter X.env v=pure v:=by intro _;rfl)
  (hsw:swapsWith (.ListComp elt [⟨.Name x px,iter,[],0⟩] scope pos) (some (.Name y py)) spos.line X.env=pure true:=by rfl) (hf:X.fn y=true∨X.env.scope.names.lookup y=some .local:=by first | exact .inl rfl | exact .inr rfl) :
  PS X (.Assign [.Name y py] (.ListComp elt [⟨.Name x px,iter,[],0⟩] scope pos) spos) (Au (nj wi bE te js) (d4 i)):=vY hN hy hl hC hcalm hi he (.inl ⟨rfl,rfl⟩) hs hsw hf
end
theorem Inv.freeze {X:Cx} {pins:List (Addr×Obj)} {σ:St} {H:Hp} {s:Shared} {a:Addr} {xs:List V} (I:Inv X pins σ H s) (e:H a=some (.lst xs)):∃ o,Inv X pins σ (upd H a (.frz o (.lst xs))) s:=by
 obtain ⟨hz,its,n,rv,eo⟩:=I.hok a _ e
 refine ⟨{cls := .type "list",data := .seq its.toArray n},?_⟩
 have ne:∀ {b:Addr} {o:HO},H b=some o→(∀ ys,o ≠ .lst ys)→b≠a:=fun {b o} q d z=>by
  subst z
  rw [e] at q
  exact d xs (Option.some.inj q).symm
 have u:Un X.fs [] H (upd H a (.frz {cls := .type "list",data := .seq its.toArray n} (.lst xs))) s.heap s.heap:=by
  refine ⟨fun b o q _ _ _=>q,fun b o q _ _ _=>⟨o.slots,q⟩,fun b o q n _ => ?_,fun b o q _=>⟨o,q⟩,fun b ys q => ?_,fun b o w q => ?_,fun b ps q=>⟨#[],?_⟩⟩
  ·rw [aX (fun z=>by subst z;rw [e] at n;cases n)];exact n
  ·rw [aX (ne q (fun _ z=>by cases z))];exact q
  ·rw [aX (ne q (fun _ z=>by cases z))];exact q
  ·rw [aX (ne q (fun _ z=>by cases z)),Array.append_empty];exact q
 refine I.un (t':=s.toks) u fun b v q => ?_
 by_cases hb:b=a
 ·subst hb
  rw [bA] at q
  cases q
  exact ⟨eo,hz,its,n,rv,eo⟩
 ·rw [aX hb] at q
  refine (I.hok b v q).stay (fun _ _ _ z=>z) (fun c z => ?_) fun c ys z => ?_
  ·rw [aX (ne z (fun _ y=>by cases y))];exact z
  ·rw [aX (ne z (fun _ y=>by cases y))];exact z
def DK (v:V) (H:Hp) (Q:VK):Prop:=∃ a xs,v = .ref a∧H a=some (.lst xs)∧∀ o,Q v (upd H a (.frz o (.lst xs)))
def CH (t:TE):TE:=fun s H Q=>t s H fun v H'=>DK v H' Q
theorem dY {X:Cx} {e:Expr} {t:TE} (h:PE X e t):PE X e (CH t):=fun pins s σ H Q I q=>by
 refine thn (h pins s σ H _ I q) ?_
 rintro u s1 ⟨v,H1,I1,r1,a,xs,rfl,e1,q1⟩
 obtain ⟨o,I2⟩:=I1.freeze e1
 exact ⟨_,_,I2,r1,q1 o⟩
theorem BL {t:TE} {s:St} {H:Hp} {Q:VK} (h:t s H fun v H'=>DK v H' Q):CH t s H Q:=h
theorem bQ {a:Addr} {xs:List V} {H:Hp} {Q:VK} (e:At H a (.lst xs)) (h:∀ o,Q (.ref a) (upd H a (.frz o (.lst xs)))):DK (.ref a) H Q:=⟨a,xs,rfl,e,h⟩
theorem At.sqF {K:PySem.W.Frag} {H:Hp} {a:Addr} {o:Obj} {xs:List V} (h:At H a (.frz o (.lst xs))):SqL K H a xs := .inl (.inr ⟨o,h⟩)
section
variable {X:Cx} {K:PySem.W.Frag} {tg:Expr}
theorem aV {l:Expr} {tl:TE} (hl:PE X l tl) (hK:X.K=K:=by rfl):PI X tg l (vL K tl):=hK ▸ x6 hl
theorem av {e:Expr} {f:Str} {pos:Pos} {ta:TE} (he:PE X e ta) (hb:attributeBase e f X.env (eval e X.env)=eval e X.env:=by rfl) (hK:X.K=K:=by rfl):PE X (.Attribute e f pos) (CA K ta f):=hK ▸ AE he hb
theorem bF {o value:Expr} {f:Str} {pos pos':Pos} {ta tv:TE} (ha:PE X o ta) (hv:PE X value tv) (hs:swapsWith value (some (.Attribute o f pos')) pos.line X.env=pure false:=by rfl) (hK:X.K=K:=by rfl):PS X (.Assign [.Attribute o f pos'] value pos) (CP K ta tv f):=hK ▸ AF ha hv hs
theorem fm {o value:Expr} {f:Str} {pos tpos:Pos} {ta tv:TE} {op:Operator} {rd:V→V→Hp→VK→Prop} (ha:PE X o ta) (hv:PE X value tv) (hop:CQ X op rd) (hK:X.K=K:=by rfl):PS X (.AugAssign (.Attribute o f tpos) op value pos) (ph K ta tv rd f):=hK ▸ tP ha hv hop
theorem aK (hK:X.K=K:=by rfl):IxR X (AI K):=hK ▸ yk
theorem bR (hK:X.K=K:=by rfl):IxR X (yj K):=hK ▸ AJ
theorem bv (hK:X.K=K:=by rfl):SlR X (CS K):=hK ▸ yl
theorem ix (hK:X.K=K:=by rfl):OpR X (compareOp .In) (rIn K false):=hK ▸ tW
theorem lU (hK:X.K=K:=by rfl):OpR X (compareOp .NotIn) (rIn K true):=hK ▸ mZ
theorem aq (hK:X.K=K:=by rfl):dz X (.builtin "len") (pC K):=hK ▸ ue
theorem de (hK:X.K=K:=by rfl):dz X (.type "list") (ny K):=hK ▸ sr
theorem lV {a:Expr} {ta:TE} (ha:PE X a ta) (he:∀ whole,isTrue a X.env whole=(do let v ← whole;standAt a.pos;holding [v] (truthy v))) (hK:X.K=K:=by rfl):PT X a (Da K ta):=hK ▸ Bl ha he
theorem nH (hK:X.K=K:=by rfl):dz X (.builtin "isinstance") (Em K):=hK ▸ vZ
theorem gL (hK:X.K=K:=by rfl):dz X (.builtin "isinstance") (Ep K):=hK ▸ wq
theorem ur (hc:X.calm=true:=by rfl) (hK:X.K=K:=by rfl):dz X (.type "set") (En K):=hK ▸ lO hc
theorem y3 {k:Nat} (hr:Room k X.A) (hK:X.K=K:=by rfl):OpR X (compareOp .Eq) (Er K):=hK ▸ Bx hr
theorem iy {k:Nat} (hr:Room k X.A) (hK:X.K=K:=by rfl):OpR X (compareOp .NotEq) (Bv K):=hK ▸ By hr
theorem wI {k:Nat} (hr:Room k X.A) (hK:X.K=K:=by rfl):OpR X (compareOp .In) (Bw K):=hK ▸ yT hr
variable {o e:Expr} {es:List Expr} {to:TE} {t:TA} {name:Str} {apos cpos:Pos} {T id:String} {r:V→List V→Hp→VK→Prop}
theorem cr (pa:PlainAttrs T) (slot:Slot T name id) (hty:typeOf (.builtin id)=pure (.type "method_descriptor")) (hm:MtR X id r) (ho:PE X o to) (ha:PA X (e :: es) t) (hK:X.K=K:=by rfl)
  (hbase:attributeBase o name X.env (eval o X.env)=eval o X.env:=by rfl)
  (hfew:((backTo cpos (starEach (e :: es) X.env)).all (fun x => !x.1) && (backToKw cpos (keywordEach [] X.env)).all (fun x=>x.1.isSome)
   && decide ((e :: es).length+([]:List Keyword).length+(if ([]:List Keyword).isEmpty then 0 else 1) < 30))=true:=by rfl)
  (hline:(apos.endLine == cpos.line)=true:=by rfl) (hs:starEach (e :: es) X.env=(false,eval e X.env) :: starEach es X.env:=by rfl) (hplain:(backTo cpos (starEach es X.env)).any (·.1)=false:=by rfl) :
  PE X (.Call (.Attribute o name apos) (e :: es) [] cpos) (tBM K T r to t):=hK ▸ CT pa slot hty hm ho ha hbase hfew hline hs hplain
end
theorem BM {H:Hp} {p a:Addr} {x:HO} (h:aS (upd H a x) p):aS H p:=(lR h).1
theorem wJ {H:Hp} {p a b:Addr} {x y:HO} (h:aS (upd (upd H a x) b y) p):aS H p:=(lR (lR h).1).1
theorem Es {H:Hp} {p a b c:Addr} {x y z:HO} (h:aS (upd (upd (upd H a x) b y) c z) p):aS H p:=wJ (BM h)
theorem E7 {H:Hp} {p a b c d:Addr} {x y z w:HO} (h:aS (upd (upd (upd (upd H a x) b y) c z) d w) p):aS H p:=Es (BM h)
theorem CI {H:Hp} {p a:Addr} {x:HO} (h:aS (upd H a x) p):p≠a:=(lR h).2
theorem Et {H:Hp} {p a b:Addr} {x y:HO} (h:aS (upd (upd H a x) b y) p):p≠a:=CI (BM h)
theorem Eu {H:Hp} {p a b c:Addr} {x y z:HO} (h:aS (upd (upd (upd H a x) b y) c z) p):p≠a:=CI (wJ h)
theorem DL {A B:Prop} (h:B):if (!true)=true then A else B:=xA h
theorem DM {A B:Prop} (h:A):if (!false)=true then A else B:=tq h
theorem ut {K:PySem.W.Frag} {b:Int} {p:Addr} {l:List Int} {H:Hp} {Q:VK} (e:SqL K H p (l.map V.int)∨SqT K H p (l.map V.int)) (h:Q (.bl (!decide (b∈l))) H):rIn K true (.int b) (.ref p) H Q:=
 ⟨p,_,rfl,e,rfl,nG _,by rw [rq,if_pos rfl];rw [show l.contains b=decide (b∈l) by simp];exact h⟩
theorem xH {K:PySem.W.Frag} {b:Int} {p:Addr} {l:List Int} {H:Hp} {Q:VK} (e:SqL K H p (l.map V.int)∨SqT K H p (l.map V.int)) (h:Q (.bl (decide (b∈l))) H):rIn K false (.int b) (.ref p) H Q:=
 ⟨p,_,rfl,e,rfl,nG _,by rw [rq,if_neg Bool.false_ne_true];rw [show l.contains b=decide (b∈l) by simp];exact h⟩
def ME (t:TE):Prop:=∀ (s:St) (H:Hp) (Q Q':VK),(∀ v H',Q v H'→Q' v H')→t s H Q→t s H Q'
def MA (t:TA):Prop:=∀ (s:St) (H:Hp) (Q Q':List V→Hp→Prop),(∀ v H',Q v H'→Q' v H')→t s H Q→t s H Q'
def MT (t:TT):Prop:=∀ (s:St) (H:Hp) (Q Q':Bool→Hp→Prop),(∀ v H',Q v H'→Q' v H')→t s H Q→t s H Q'
def MR (r:R2):Prop:=∀ (x y:V) (H:Hp) (Q Q':VK),(∀ v H',Q v H'→Q' v H')→r x y H Q→r x y H Q'
def MC (r:List V→Hp→VK→Prop):Prop:=∀ (x:List V) (H:Hp) (Q Q':VK),(∀ v H',Q v H'→Q' v H')→r x H Q→r x H Q'
theorem eF {i:Nat}:ME (iT i):=fun _ _ _ _ k ⟨v,e,q⟩=>⟨v,e,k _ _ q⟩
theorem DN {v:V}:ME (tC v):=fun _ _ _ _ k q=>k _ _ q
theorem kx {r:R2} {ta tb:TE} (hr:MR r) (ha:ME ta) (hb:ME tb):ME (tOp r ta tb):=fun s H _ _ k q=>ha s H _ _ (fun _ H' q=>hb s H' _ _ (fun _ _ q=>hr _ _ _ _ _ k q) q) q
theorem uu:MA mO:=fun _ _ _ _ k q=>k _ _ q
theorem pJ {ta:TE} {tr:TA} (ha:ME ta) (hr:MA tr):MA (kr ta tr):=fun s H _ _ k q=>ha s H _ _ (fun _ H' q=>hr s H' _ _ (fun _ _ q=>k _ _ q) q) q
theorem y4 {r:List V→Hp→VK→Prop} {t:TA} (hr:MC r) (ht:MA t):ME (tCB r t):=fun s H _ _ k q=>ht s H _ _ (fun _ _ q=>hr _ _ _ _ k q) q
theorem xI {K:PySem.W.Frag} {f:Str} {ta:TE} (ha:ME ta):ME (CA K ta f):=fun s H _ _ k q=>ha s H _ _ (fun _ _ ⟨a,C,dx,fs,v,e1,e2,e3,e4,e5,q⟩=>⟨a,C,dx,fs,v,e1,e2,e3,e4,e5,k _ _ q⟩) q
theorem lX {t:TE} (h:ME t):MT (pf t):=fun s H _ _ k q=>h s H _ _ (fun _ _ ⟨c,e,q⟩=>⟨c,e,k _ _ q⟩) q
theorem xJ {t u:TT} (h:MT t) (g:MT u):MT (Cu t u):=fun s H _ _ k q=>h s H _ _ (fun b H' q=>by
 cases b with
 | true=>exact g s H' _ _ k q
 | false=>exact k _ _ q) q
theorem uv {g:Int→Int→V}:MR (rI0 g):=fun _ _ _ _ _ k ⟨i,j,e1,e2,q⟩=>⟨i,j,e1,e2,k _ _ q⟩
theorem DO:MR rEq:=fun _ _ _ _ _ k ⟨e,q⟩=>⟨e,k _ _ q⟩
theorem uw {K:PySem.W.Frag}:MR (AI K):=fun _ _ _ _ _ k ⟨p,xs,i,v,e1,e2,e3,e4,q⟩=>⟨p,xs,i,v,e1,e2,e3,e4,k _ _ q⟩
theorem BN {K:PySem.W.Frag}:MR (yj K):=fun _ _ _ _ _ k ⟨p,xs,i,v,e1,e2,e3,e4,q⟩=>⟨p,xs,i,v,e1,e2,e3,e4,k _ _ q⟩
theorem ux {K:PySem.W.Frag}:MC (pC K):=fun _ _ _ _ k ⟨p,ys,e1,e2,q⟩=>⟨p,ys,e1,e2,k _ _ q⟩
theorem DP {r:V→Hp→VK→Prop} {ta:TE} (hr:∀ x H Q Q',(∀ v H',Q v H'→Q' v H')→r x H Q→r x H Q') (ha:ME ta):ME (tUn r ta):=fun s H _ _ k q=>ha s H _ _ (fun _ _ q=>hr _ _ _ _ k q) q
theorem E8 {g:Int→V}:∀ x H Q Q',(∀ v H',Q v H'→Q' v H')→rU g x H Q→rU g x H Q':=fun _ _ _ _ k ⟨i,e,q⟩=>⟨i,e,k _ _ q⟩
end L2
set_option maxHeartbeats 4000000
namespace L2
open PySem PySem.Spec PyProof.Rows
def Ev (t u:TS):TS:=fun D s H=>∃ Pv:St→Hp→Prop,t {D with nx:=Pv} s H∧∀ s' H',Pv s' H'→u D s' H'
section
variable {X:Cx}
theorem aZ {st:Stmt} {rest:List Stmt} {t u:TS} (h1:PS X st t) (h2:PSs X rest u):PSs X (st :: rest) (Ev t u):=by
 rintro pins s σ H D I ⟨Pv,h,hP⟩
 refine wpAny_execs_cons (thn (h1 pins s σ H {D with nx:=Pv} I h) fun f s1 q => ?_)
 cases f with
 | next=>
  obtain ⟨σ',H',I',q⟩:=q
  exact h2 pins s1 σ' H' D I' (hP _ _ q)
 | ret v=>exact q
 | brk=>exact q
 | cont=>exact q
theorem bz {t u:TS} {D:Ends} {s:St} {H:Hp} (Pv:St→Hp→Prop) (h:t {D with nx:=Pv} s H) (h2:∀ s' H',Pv s' H'→u D s' H'):Ev t u D s H:=⟨Pv,h,h2⟩
def Ew (sp:Sp) (t:TA) (i:Nat):TB:=fun s H nx ex=>t s H fun vs H1=>sp (vs++[]) H1 (fun v H2=>nx (s.set i (some v)) H2) (exK ex)
def xK (sp:Sp) (t:TA):TB:=fun s H nx ex=>t s H fun vs H1=>sp (vs++[]) H1 (fun _ H2=>nx s H2) (exK ex)
theorem E9 {j k:Nat} {ps:List Str} {sp:Sp} {x:Str} {p pos apos:Pos} {e:Expr} {es:List Expr} {t:TA}
  (G:dm X.prog X.w X.K X.mg X.base (CXe X.prog X.w) j x ps sp) (hr:Room k X.A) (ha:PA X.nox (e :: es) t) (hjk:j≤k:=by decide) (hg:Gl X x:=by rfl) (hs:swapsWith (.Call (.Name x p) (e :: es) [] pos) none apos.line X.env=pure false:=by rfl)
  (hdb:(x == ("__debug__" : Str))=false:=by decide) (he:starEach (e :: es) X.env=(false,eval e X.env) :: starEach es X.env:=by rfl) (hpl:(backTo pos (starEach es X.env)).any (·.1)=false:=by rfl) :
  PB X [.Expr (.Call (.Name x p) (e :: es) [] pos) apos] (xK sp t):=by
 obtain ⟨f,fd,F,b,kp,mm⟩:=G
 exact yt F (hr.mono hjk) hg mm kp b .nil ha hs hdb he hpl
def Ex (K:PySem.W.Frag) (Dd:Addr) (ie iz:Nat) (tb:TB):TS:=fun D s H=>tb s H D.nx fun C d H'=>PySem.W.mroIn K C (.ref Dd)=some true∧∀ ea,H' ea=none→D.nx (((s.set ie (some (.ref ea))).set iz (some (.ref ea))).set ie none) (upd H' ea (vH ea C d))
theorem y7 {K:PySem.W.Frag} {body:List Stmt} {tb:TB} {bx n z:Str} {D:Addr} {iz ie:Nat} {np pz pn zp hpos pos:Pos} (hB:PB X body tb) (hst:X.stack=X.env :: X.outer) (hfr:X.env.frame=some X.env.locals) (hg:Gl X bx) (hm:X.mg bx=some (.ref D))
  (h1:PySem.W.typeIn X.K (.ref D)=some (.type "type")) (h2:(PySem.W.clsIn X.K D).isSome=true) (h3:PySem.W.mroIn X.K D (.type "BaseException")=some true)
  (hN:X.N.Nodup) (hi:X.N[ie]? = some n) (hl:X.env.scope.names.lookup n=some .local) (hz:X.N[iz]? = some z) (hlz:Loc X.env.scope z) (hf:X.fn z=true∨X.env.scope.names.lookup z=some .local:=by first | exact .inl rfl | exact .inr rfl | assumption)
  (hsw:swapsWith (.Name n pn) (some (.Name z pz)) zp.line X.env=pure false:=by rfl) (hdb:(bx == ("__debug__" : Str))=false:=by decide) (hd1:(n == ("__debug__" : Str))=false:=by decide) (hd2:(n == ("__classdict__" : Str))=false:=by decide) (hK:X.K=K:=by rfl) :
  PS X (.Try body [.ExceptHandler (some (.Name bx np)) (some n) [.Assign [.Name z pz] (.Name n pn) zp] hpos] [] [] pos) (Ex K D ie iz tb):=by
 subst hK
 exact AW hB hst hfr hg hm h1 h2 h3 hN hi hl hz hlz hf hsw hdb hd1 hd2
theorem BO {K:PySem.W.Frag} {Dd:Addr} {ie iz:Nat} {tb:TB} {D:Ends} {s:St} {H:Hp} (h:tb s H D.nx fun C d H'=>PySem.W.mroIn K C (.ref Dd)=some true∧∀ ea,aS H' ea→D.nx (((s.set ie (some (.ref ea))).set iz (some (.ref ea))).set ie none) (upd H' ea (vH ea C d))):Ex K Dd ie iz tb D s H:=h
theorem BP {sp:Sp} {t:TA} {s:St} {H:Hp} {nx:St→Hp→Prop} {ex:Addr→Option Addr→Hp→Prop} (h:t s H fun vs H1=>sp (vs++[]) H1 (fun _ H2=>nx s H2) (exK ex)):xK sp t s H nx ex:=h
theorem y8 {K:PySem.W.Frag} {es:List Expr} {k:Nat} {t:TGs} {n:Nat} {pos:Pos} (hc:X.calm=true) (h:PGs X es t)
  (hn:(assignEach es X.env).length=n:=by rfl) (hst:(assignEach es X.env).findIdx? (·.1)=none:=by rfl) (hK:X.K=K:=by rfl):PG X (.Tuple es k pos) (Ar K n t):=hK ▸ As hc h hn hst
theorem y9 {K:PySem.W.Frag} {a:Addr} {xs:List V} {n:Nat} {t:TGs} {s:St} {H:Hp} {Q:St→Hp→Prop} (e:SqT K H a xs) (l:xs.length=n) (h:t xs s H Q):Ar K n t (.ref a) s H Q:=⟨a,xs,rfl,e,l,h⟩
theorem za {K:PySem.W.Frag} {a:Addr} {n:Nat} {t:TGs} {s:St} {H:Hp} {Q:St→Hp→Prop} (h:Ar K n t (.ref a) s H Q):Ar K n t (.ref a) s H Q:=h
theorem wK {t:TG} {u:TGs} {v:V} {r:List V} {s:St} {H:Hp} {Q:St→Hp→Prop} (h:t v s H fun s' H'=>u r s' H' Q):Aq t u (v :: r) s H Q:=⟨v,r,rfl,h⟩
theorem zb {s:St} {H:Hp} {Q:St→Hp→Prop} (h:Q s H):Ea [] s H Q:=⟨rfl,h⟩
theorem zc {to ti:TE} {t:Ap} {v:V} {s:St} {H:Hp} {Q:St→Hp→Prop} (h:to s H fun o H1=>ti s H1 fun i H2=>t o i v H2 fun H3=>Q s H3):Eb to ti t v s H Q:=h
theorem uy {p:Addr} {xs:List V} {k:Int} {j:Nat} {v:V} {H:Hp} {Q:Hp→Prop} (e:At H p (.lst xs)) (hi:ixN xs.length k=some j) (h:Q (upd H p (.lst (xs.set j v)))):AK (.ref p) (.int k) v H Q:=⟨p,xs,k,j,rfl,rfl,e,hi,h⟩
theorem wL {r r':R2} {ta tb tc:TE} {s:St} {H:Hp} {Q:VK} (h:ta s H fun x H1=>tb s H1 fun y H2=>r x y H2 fun z H3=>∃ k,z = .bl k∧(if k=true then tc s H3 fun w' H4=>r' y w' H4 Q else Q (.bl false) H3)):qX r r' ta tb tc s H Q:=h
end
theorem zd:bootBuiltins "ValueError" = some (.type "ValueError"):=by decide +kernel
theorem uz {X:Cx} {H:Hp} {a b:Addr} {xs ys:List Int} (ha:SqL X.K H a (xs.map V.int)) (hb:SqL X.K H b (ys.map V.int)):RcW X H 1 (.ref a) (.ref b) (decide (xs=ys)):=by
 by_cases hl:xs.length=ys.length
 ·have h:=lN (X:=X) (n:=0) (e:=fun j=>xs.getD j 0 == ys.getD j 0) ha hb (by simpa using hl) fun j x y ex ey=>by
   obtain ⟨i,e1,rfl⟩:=ce ex
   obtain ⟨i',e2,rfl⟩:=ce ey
   rw [List.getD_eq_getElem?_getD,List.getD_eq_getElem?_getD,e1,e2]
   exact pq i i'
  rw [List.length_map,ua xs ys hl] at h
  exact h.mono (by omega)
 ·have h:=t7 (X:=X) ha hb (by simpa using hl)
  have:decide (xs=ys)=false:=decide_eq_false fun e=>hl (by rw [e])
  rw [this]
  exact h.mono (by omega)
section
variable {K:PySem.W.Frag} {H:Hp}
end
end L2
set_option maxHeartbeats 4000000
set_option maxRecDepth 100000
namespace L2
open PySem PySem.Spec PyProof.Rows
section
variable {X:Cx}
def uA:V→List V→Hp→VK→Prop:=fun x vs H Q=>∃ (l:Addr) (xs:List V) (i:Int) (k:Nat) (y:V),x = .ref l∧vs=[.int i,y]∧i=k∧H l=some (.lst xs)∧k≤xs.length∧xs.length < 1000000∧Q .non (upd H l (.lst (xs.take k++y :: xs.drop k)))
theorem uB:MtM X "list.insert" uA:=by
 intro pins s σ H x vs v us Q I rx rv h
 obtain ⟨l,xs,i,k,y,rfl,rfl,hik,hH,hk,hz,q⟩:=h
 cases rx
 obtain ⟨u,w,rfl,ru,rw'⟩:=rv.two
 obtain ⟨t,rfl⟩:=ru
 obtain ⟨z,its,n,r,hl,e⟩:=I.lstM hH
 have e24:sizeLine=16777216:=by decide +kernel
 have f1:Builtin.List.listFitsIndex i=true:=fitsIndex_both (by omega) (by omega)
 have f2:¬ (!Builtin.List.listFitsIndex i)=true:=by rw [f1];decide
 have f3:its.toArray.size≤sizeLine:=by rw [List.size_toArray,← hl];exact z
 have M:=AutoSeq1.list_insert_list_int_val_1 l its.toArray n i t w f2 f3
 refine call_meets F.slot_list_insert ⟨_,e,rfl⟩ F.entry_list_insert (F.args_list_insert_3 _ _ _) M ⟨e,?_⟩
 refine ⟨.non,_,I.lset (its':=its.take k++w :: its.drop k) hH e ?_ ?_ ?_,rfl,q⟩
 ·show ((its.toArray.extract 0 (if i < 0 then (i+(its.toArray.size:Int)).toNat else min i.toNat its.toArray.size)).push w++its.toArray.extract (if i < 0 then (i+(its.toArray.size:Int)).toNat else min i.toNat its.toArray.size))=_
  rw [if_neg (by omega),show i.toNat=k by omega,List.size_toArray,Nat.min_eq_left (by omega)]
  apply Array.toList_inj.mp
  simp [List.drop_take]
  exact List.take_of_length_le (by rw [List.length_drop];omega)
 ·exact (r.take k).append (.cons rw' (r.drop k))
 ·rw [List.length_append,List.length_cons,List.length_take,List.length_drop]
  omega
theorem uC {l:Addr} {xs:List V} {k:Nat} {y:V} {H:Hp} {Q:VK} (e:At H l (.lst xs)) (hk:k≤xs.length) (hl:xs.length < 1000000) (h:Q .non (upd H l (.lst (xs.take k++y :: xs.drop k)))):uA (.ref l) [.int k,y] H Q:=⟨l,xs,_,k,y,rfl,rfl,rfl,e,hk,hl,h⟩
def uD (K:PySem.W.Frag):V→List V→Hp→VK→Prop:=fun x vs H Q=>∃ (l:Addr) (ns:List Int) (k:Int),x = .ref l∧vs=[.int k]∧SqL K H l (ns.map V.int)∧k∈ns∧Q (.int (ns.idxOf k:Nat)) H
theorem wM:MtM X "list.index" (uD X.K):=by
 intro pins s σ H x vs v us Q I rx rv h
 obtain ⟨l,ns,k,rfl,rfl,hS,hk,q⟩:=h
 cases rx
 obtain ⟨u,rfl,ru⟩:=rv.one
 obtain ⟨t,rfl⟩:=ru
 obtain ⟨its,r,pl,hz⟩:=I.list hS
 have hi:=kW r
 obtain ⟨⟨cls,dd,data,sl⟩,ho,hc,n,hd⟩:=id pl.isList
 simp only at hc hd
 subst hc hd
 have hlen:=hi.length
 have hj:ns.idxOf k < ns.length:=List.idxOf_lt_length_iff.mpr hk
 rw [List.length_map] at hz
 have e24:sizeLine=16777216:=by decide +kernel
 refine call_meets PySem.F.slot_list_index ⟨_,ho,rfl⟩ PySem.F.entry_list_index (PySem.F.args_list_index_2 _ _)
  (SeqAt.list_indexAt l its.toArray n dd sl (.int k t) (isInt k) (ns.idxOf k) (by simpa [hlen] using hj) (by omega) ?_ ?_) ⟨ho,fun y hy=>(eq_isInt k t hi y (by simpa using hy)).at _ _,?_⟩
 ·show isInt k its[ns.idxOf k]=true
  rw [isInt_at k hi _ (by omega) hj]
  simpa using List.getElem_idxOf hj
 ·intro j hjs hlt
  show isInt k its[j]=false
  rw [isInt_at k hi j (by simpa using hjs) (by omega)]
  exact ne_of_lt_idxOf hlt _
 ·exact ⟨.int _,H,I.tok _,⟨_,rfl⟩,q⟩
theorem nI {K:PySem.W.Frag} (hK:X.K=K:=by rfl):MtM X "list.index" (uD K):=hK ▸ wM
theorem rD {K:PySem.W.Frag} {l:Addr} {ns:List Int} {k:Int} {H:Hp} {Q:VK} (e:SqL K H l (ns.map V.int)) (hk:k∈ns) (h:Q (.int (ns.idxOf k:Nat)) H):uD K (.ref l) [.int k] H Q:=⟨l,ns,k,rfl,rfl,e,hk,h⟩
theorem rE (val:Nat→Int):∀ k,argBest (fun i j=>decide (val i < val j)) k≤k∧∀ i,i≤k→val (argBest (fun i j=>decide (val i < val j)) k)≤val i
 | 0=>⟨Nat.le_refl _,fun i hi=>by
                    have:i=0:=by omega
                    subst this;exact Int.le_refl _⟩
 | k+1=>by
  obtain ⟨h1,h2⟩:=rE val k
  unfold argBest
  by_cases c:decide (val (k+1) < val (argBest (fun i j=>decide (val i < val j)) k))=true
  ·rw [if_pos c]
   refine ⟨Nat.le_refl _,fun i hi => ?_⟩
   have c':=of_decide_eq_true c
   rcases Nat.lt_or_ge i (k+1) with z | z
   ·have:=h2 i (by omega)
    omega
   ·have:i=k+1:=by omega
    subst this;exact Int.le_refl _
  ·rw [if_neg c]
   refine ⟨by omega,fun i hi => ?_⟩
   have c':¬ val (k+1) < val (argBest (fun i j=>decide (val i < val j)) k):=fun z=>c (decide_eq_true z)
   rcases Nat.lt_or_ge i (k+1) with z | z
   ·exact h2 i (by omega)
   ·have:i=k+1:=by omega
    subst this;omega
def Fa:List V→Hp→VK→Prop:=fun xs H Q=>∃ (p:Addr) (ns:List Int),xs=[.ref p]∧H p=some (.lst (ns.map V.int))∧ns≠[]∧∀ m,m∈ns→(∀ x∈ns,m≤x)→Q (.int m) H
theorem gM (hc:X.calm=true):dz X (.builtin "min") Fa:=by
 intro pins s σ H xs us Q I r h
 obtain ⟨p,ns,rfl,hq,hne,q⟩:=h
 obtain ⟨u,rfl,rx⟩:=kq r
 cases rx
 obtain ⟨its,r',pl,hz⟩:=I.list (SqL.of (K:=X.K) hq)
 have hl:=r'.length
 rw [List.length_map] at hl
 have hpos:0 < ns.length:=List.length_pos_iff.mpr hne
 refine call_min_walk (wpAny_pyIter_list pl.isList ?_)
 have hnp:p≠s.heap.objs.size:=by
  obtain ⟨o,ho,_⟩:=pl.isList
  exact Nat.ne_of_lt (Heap.lt_size ho)
 have hval:∀ (i:Nat) (v:Value),its.toArray[i]? = some v→∃ t,v=Value.int (ns.getD i 0) t:=fun i v hv=>by
  have hv':its[i]? = some v:=by simpa using hv
  have hi:i < ns.length:=by
   have:=(List.getElem?_eq_some_iff.mp hv').1
   omega
  obtain ⟨u,h1,h2⟩:=r'.get (i:=i) (x := .int (ns.getD i 0)) (by rw [List.getElem?_map,List.getElem?_eq_getElem hi];simp [List.getD_eq_getElem?_getD,hi])
  rw [hv'] at h1
  cases h1
  exact h2
 refine ⟨_,_,_,_,_,_,_,rfl,Walks.list (A:=X.A.in1) (I.ok.hd hc) s.heap.objs.size p hnp its.toArray,⟨⟨_,Heap.get?_push_size _ rfl,rfl,rfl⟩,pl.isList.at fun o e=>Heap.get?_push_of_some _ e⟩,?_,?_,CmpOf.ints_lt (fun i=>ns.getD i 0) hval,fun v h' tk hP k => ?_⟩
 ·intro b hb
  rw [Heap.size_push]
  obtain ⟨o,ho,_⟩:=pl.isList
  have h9:=Heap.lt_size ho
  simp only [List.mem_cons,List.not_mem_nil,or_false] at hb
  rcases hb with rfl | rfl
  ·exact Nat.lt_succ_self _
  ·exact Nat.lt_succ_of_lt h9
 ·rw [List.size_toArray,← hl];exact hpos
 ·obtain ⟨t,rfl⟩:=hval _ _ hP
  refine ⟨.int _,H,I.walked k,⟨t,rfl⟩,?_⟩
  have e:its.toArray.size=ns.length:=by rw [List.size_toArray,hl]
  rw [e]
  obtain ⟨b1,b2⟩:=rE (fun i=>ns.getD i 0) (ns.length - 1)
  refine q _ ?_ ?_
  ·rw [List.getD_eq_getElem?_getD,List.getElem?_eq_getElem (show argBest _ (ns.length - 1) < ns.length by omega)]
   exact List.getElem_mem _
  ·intro x hx
   obtain ⟨i,hi,rfl⟩:=List.getElem_of_mem hx
   have:=b2 i (by omega)
   rw [show ns.getD i 0=ns[i] by simp [List.getD_eq_getElem?_getD,hi]] at this
   exact this
end
theorem ze {te:TE} {ti:TIp} {x:V} {a0 a1 a2:Option V} {r:St} {D:Ends} {H:Hp} (h:te (a0 :: a1 :: a2 :: some x :: r) H fun y H1=>ti x y H1 fun z H2=>D.nx (a0 :: a1 :: a2 :: some z :: r) H2):Ec 3 te ti D (a0 :: a1 :: a2 :: some x :: r) H:=⟨x,rfl,h⟩
theorem BQ {f:Int→Int→Int} {i j:Int} {H:Hp} {Q:VK} (h:Q (.int (f i j)) H):ipI f (.int i) (.int j) H Q:=⟨i,j,rfl,rfl,h⟩
end L2
set_option maxHeartbeats 4000000
set_option maxRecDepth 100000
namespace L2
open PySem PySem.Spec PyProof.Rows
def sw (D:Addr) (n i:Nat) (Iv:Nat→List V→Hp→Prop) (ys:List V) (y:V) (H:Hp):Prop:=H D=some (.lst ys)∧∃ m,m < n - i∧(i+1≤n∧m=n - (i+1)∧Iv (i+1) (ys++[y]) (upd H D (.lst (ys++[y]))))
def wN (D:Addr) (n i:Nat) (Iv:Nat→List V→Hp→Prop) (ys:List V) (H:Hp):Prop:=H D=some (.lst ys)∧∃ m,m < n - i∧(i+1≤n∧m=n - (i+1)∧Iv (i+1) ys H)
theorem pK {D:Addr} {n i:Nat} {Iv:Nat→List V→Hp→Prop} {ys:List V} {y:V} {H:Hp} (hi:i < n) (e:At H D (.lst ys)) (h:Iv (i+1) (ys++[y]) (upd H D (.lst (ys++[y])))):sw D n i Iv ys y H:=⟨e,n - (i+1),by omega,hi,rfl,h⟩
theorem DQ {D:Addr} {n i:Nat} {Iv:Nat→List V→Hp→Prop} {ys:List V} {H:Hp} (hi:i < n) (e:At H D (.lst ys)) (h:Iv (i+1) ys H):wN D n i Iv ys H:=⟨e,n - (i+1),by omega,hi,rfl,h⟩
theorem nJ {K:PySem.W.Frag} {tt:TT} {te:TE} {caps:St} {a D:Addr} {xs:List V} {H1:Hp} {Q:VK} (Iv:Nat→List V→Hp→Prop) (h0:Iv 0 [] (upd H1 D (.lst [])))
  (hl:∀ i ys H,i≤xs.length→Iv i ys H→At H D (.lst ys)∧SqL K H a xs∧ys.length≤i) (hn:xs.length≤sizeLine)
  (hs:∀ i x ys H,xs[i]? = some x→Iv i ys H→tt (caps++[some x]) H fun b H2=>if b=true then te (caps++[some x]) H2 (sw D xs.length i Iv ys) else wN D xs.length i Iv ys H2)
  (hd:∀ ys H,Iv xs.length ys H→Q (.ref D) H) :
  ∃ W:Nat→Nat→List V→Hp→Prop,(∃ n,W 0 n [] (upd H1 D (.lst [])))∧eB (Itl K a) tt te caps D W Q:=by
 refine ⟨fun i m ys Hc=>i≤xs.length∧m=xs.length - i∧Iv i ys Hc,⟨xs.length,Nat.zero_le _,rfl,h0⟩,?_⟩
 rintro i m ys Hc ⟨hi,rfl,iv⟩
 obtain ⟨e1,e2,e3⟩:=hl i ys Hc hi iv
 refine ⟨e1,?_⟩
 by_cases h:i < xs.length
 ·refine .inr ⟨⟨xs,xs[i],e2,List.getElem?_eq_getElem h⟩,by omega,?_⟩
  rintro v H' ⟨rfl,hv⟩
  exact hs i v ys _ (hv xs e2) iv
 ·have hin:i=xs.length:=by omega
  subst hin
  exact .inl ⟨⟨xs,e2,Nat.le_refl _⟩,hd ys Hc iv⟩
theorem uE {tt:TT} {te:TE} {caps:St} {D:Addr} {n:Nat} {H1:Hp} {Q:VK} (Iv:Nat→List V→Hp→Prop) (h0:Iv 0 [] (upd H1 D (.lst [])))
  (hl:∀ i ys H,i≤n→Iv i ys H→At H D (.lst ys)∧ys.length≤i) (hn:n≤sizeLine)
  (hs:∀ i ys H,i < n→Iv i ys H→tt (caps++[some (.int (i:Int))]) H fun b H2=>if b=true then te (caps++[some (.int (i:Int))]) H2 (sw D n i Iv ys) else wN D n i Iv ys H2)
  (hd:∀ ys H,Iv n ys H→Q (.ref D) H) :
  ∃ W:Nat→Nat→List V→Hp→Prop,(∃ n,W 0 n [] (upd H1 D (.lst [])))∧eB (Itr 0 n) tt te caps D W Q:=by
 refine ⟨fun i m ys Hc=>i≤n∧m=n - i∧Iv i ys Hc,⟨n,Nat.zero_le _,rfl,h0⟩,?_⟩
 rintro i m ys Hc ⟨hi,rfl,iv⟩
 obtain ⟨e1,e3⟩:=hl i ys Hc hi iv
 refine ⟨e1,?_⟩
 by_cases h:i < n
 ·refine .inr ⟨h,by omega,?_⟩
  rintro v H' ⟨rfl,rfl⟩
  rw [Int.zero_add]
  exact hs i ys _ h iv
 ·have hin:i=n:=by omega
  subst hin
  exact .inl ⟨Nat.le_refl _,hd ys Hc iv⟩
theorem gN {K:PySem.W.Frag} {te:TE} {caps:St} {H:Hp} {Q:VK} {a:Addr} {xs:List V} (Iv:Addr→Nat→List V→Hp→Prop) (e:SqL K H a xs) (hn:xs.length≤sizeLine)
  (h0:∀ D,aS H D→Iv D 0 [] (upd H D (.lst []))) (hl:∀ D i ys H,i≤xs.length→Iv D i ys H→At H D (.lst ys)∧SqL K H a xs∧ys.length≤i)
  (hs:∀ D i x ys H,xs[i]? = some x→Iv D i ys H→te (caps++[some x]) H (sw D xs.length i (Iv D) ys)) (hd:∀ D ys H,Iv D xs.length ys H→Q (.ref D) H) :
  ∃ a',V.ref a = .ref a'∧(∃ xs,SqL K H a' xs)∧∀ D,H D=none→∃ W:Nat→Nat→List V→Hp→Prop,(∃ n,W 0 n [] (upd H D (.lst [])))∧eB (Itl K a') bE te caps D W Q:=
 ⟨a,rfl,⟨xs,e⟩,fun D hD=>nJ (Iv D) (h0 D hD) (hl D) hn (fun i x ys H hx iv=>by unfold bE;exact tq (hs D i x ys H hx iv)) (hd D)⟩
theorem uF {K:PySem.W.Frag} {tt:TT} {te:TE} {caps:St} {H:Hp} {Q:VK} {a:Addr} {xs:List V} (Iv:Addr→Nat→List V→Hp→Prop) (e:SqL K H a xs) (hn:xs.length≤sizeLine)
  (h0:∀ D,aS H D→Iv D 0 [] (upd H D (.lst []))) (hl:∀ D i ys H,i≤xs.length→Iv D i ys H→At H D (.lst ys)∧SqL K H a xs∧ys.length≤i)
  (hs:∀ D i x ys H,xs[i]? = some x→Iv D i ys H→tt (caps++[some x]) H fun b H2=>if b=true then te (caps++[some x]) H2 (sw D xs.length i (Iv D) ys) else wN D xs.length i (Iv D) ys H2) (hd:∀ D ys H,Iv D xs.length ys H→Q (.ref D) H) :
  ∃ a',V.ref a = .ref a'∧(∃ xs,SqL K H a' xs)∧∀ D,H D=none→∃ W:Nat→Nat→List V→Hp→Prop,(∃ n,W 0 n [] (upd H D (.lst [])))∧eB (Itl K a') tt te caps D W Q:=
 ⟨a,rfl,⟨xs,e⟩,fun D hD=>nJ (Iv D) (h0 D hD) (hl D) hn (hs D) (hd D)⟩
theorem nK {te:TE} {caps:St} {H:Hp} {Q:VK} {j:Int} (n:Nat) (Iv:Addr→Nat→List V→Hp→Prop) (ej:j.toNat=n) (hj:j < 2 ^ 62 ∧ -(2 ^ 62)≤j) (hn:n≤sizeLine)
  (h0:∀ D,aS H D→Iv D 0 [] (upd H D (.lst []))) (hl:∀ D i ys H,i≤n→Iv D i ys H→At H D (.lst ys)∧ys.length≤i)
  (hs:∀ D i ys H,i < n→Iv D i ys H→te (caps++[some (.int (i:Int))]) H (sw D n i (Iv D) ys)) (hd:∀ D ys H,Iv D n ys H→Q (.ref D) H) :
  ∃ j':Int,[V.int j]=[.int j'] ∧ -(2 ^ 62)≤j'∧j' < 2 ^ 62∧∀ D,H D=none→∃ W:Nat→Nat→List V→Hp→Prop,(∃ n,W 0 n [] (upd H D (.lst [])))∧eB (Itr 0 j'.toNat) bE te caps D W Q:=by
 refine ⟨j,rfl,hj.2,hj.1,fun D hD => ?_⟩
 rw [ej]
 exact uE (Iv D) (h0 D hD) (hl D) hn (fun i ys H hi iv=>by unfold bE;exact tq (hs D i ys H hi iv)) (hd D)
end L2
namespace L2
open PySem PySem.Spec PyProof.Rows
section
variable {κ:Type} [DecidableEq κ]
def f9 (kvs:List (κ×V)) (k:κ):Option V:=(kvs.find? fun kv=>decide (kv.1=k)).map (·.2)
def fY (kvs:List (κ×V)) (k:κ) (v:V):List (κ×V):=
 if (kvs.any fun kv=>decide (kv.1=k))=true then kvs.map (fun kv=>if kv.1=k then (kv.1,v) else kv) else kvs++[(k,v)]
def zf (kvs:List (κ×V)) (k:κ):List (κ×V):=kvs.filter fun kv=>decide (kv.1≠k)
theorem lY {p:κ×V} {r:List (κ×V)} {k:κ} (e:p.1=k):f9 (p :: r) k=some p.2:=by simp [f9,List.find?_cons,e]
theorem lZ {p:κ×V} {r:List (κ×V)} {k:κ} (e:¬ p.1=k):f9 (p :: r) k=f9 r k:=by simp [f9,List.find?_cons,e]
theorem l0 (k:κ):∀ kvs:List (κ×V),(kvs.any fun kv=>decide (kv.1=k))=(f9 kvs k).isSome
 | []=>rfl
 | p :: r=>by
  rw [List.any_cons]
  by_cases e:p.1=k
  ·simp only [lY e,decide_eq_true e,Bool.true_or,Option.isSome_some]
  ·rw [lZ e,decide_eq_false e,Bool.false_or];exact l0 k r
theorem gb (kvs:List (κ×V)) (k:κ) (v:V):(fY kvs k v).length≤kvs.length+1:=by
 unfold fY
 split
 ·rw [List.length_map];omega
 ·rw [List.length_append,List.length_cons,List.length_nil];omega
theorem wO {kvs:List (κ×V)} {k:κ} (v:V) (h:f9 kvs k=none):fY kvs k v=kvs++[(k,v)]:=by
 unfold fY
 rw [l0,h]
 exact if_neg (by decide)
theorem RelO.isSome_eq {o:Option V} {u:Option Value} (r:RelO o u):o.isSome=u.isSome:=by
 cases o with
 | none=>cases u with
  | none=>rfl
  | some _=>exact (show False from r).elim
 | some _=>cases u with
  | none=>exact (show False from r).elim
  | some _=>rfl
theorem KV.val {kvs:List (κ×V)} {vs:List (κ×Value)} (r:KV kvs vs) (k:κ):RelO (f9 kvs k) (valueAt vs k):=by
 unfold KV at r
 induction r with
 | nil=>exact True.intro
 | @cons p q ps qs h t ih=>
  obtain ⟨h1,h2⟩:=h
  by_cases e:p.1=k
  ·have e':q.1=k:=h1.symm.trans e
   have b:valueAt (q :: qs) k=some q.2:=by simp [valueAt,List.find?_cons,e']
   rw [lY e,b];exact h2
  ·have e':¬ q.1=k:=fun z=>e (h1.trans z)
   have b:valueAt (q :: qs) k=valueAt qs k:=by simp [valueAt,List.find?_cons,e']
   rw [lZ e,b];exact ih
theorem KV.any {kvs:List (κ×V)} {vs:List (κ×Value)} (r:KV kvs vs) (k:κ):(kvs.any fun kv=>decide (kv.1=k))=vs.any fun kv=>decide (kv.1=k):=by
 unfold KV at r
 induction r with
 | nil=>rfl
 | cons h t ih=>rw [List.any_cons,List.any_cons,ih,h.1]
theorem KV.repl {kvs:List (κ×V)} {vs:List (κ×Value)} (r:KV kvs vs) (k:κ) {y:V} {u:Value} (ry:RelV y u) :
  KV (kvs.map fun kv=>if kv.1=k then (kv.1,y) else kv) (vs.map fun kv=>if kv.1=k then (kv.1,u) else kv):=by
 unfold KV at r ⊢
 induction r with
 | nil=>exact .nil
 | @cons p q ps qs h t ih=>
  rw [List.map_cons,List.map_cons]
  refine .cons ?_ ih
  obtain ⟨h1,h2⟩:=h
  by_cases e:p.1=k
  ·rw [if_pos e,if_pos (h1.symm.trans e)];exact ⟨h1,ry⟩
  ·rw [if_neg e,if_neg (fun z=>e (h1.trans z))];exact ⟨h1,h2⟩
theorem KV.put {kvs:List (κ×V)} {vs:List (κ×Value)} (r:KV kvs vs) (k:κ) {y:V} {u:Value} (ry:RelV y u):KV (fY kvs k y) (stored vs k u):=by
 unfold fY stored
 rw [r.any k]
 by_cases e:(vs.any fun kv=>decide (kv.1=k))=true
 ·rw [if_pos e,if_pos e];exact r.repl k ry
 ·rw [if_neg e,if_neg e];exact Paired.snoc r ⟨rfl,ry⟩
theorem KV.length {kvs:List (κ×V)} {vs:List (κ×Value)} (r:KV kvs vs):kvs.length=vs.length:=Paired.length r
end
theorem wP {P:Program} {w:World} {k:Key} {u:Value} (r:RelV (kV k) u):(bJ P w).is k u=true:=by
 cases k with
 | inl i=>obtain ⟨t,e⟩:=(show ∃ t,u=Value.int i t from r);subst e;exact o8 P w i t
 | inr x=>obtain ⟨t,e⟩:=(show ∃ t,u=Value.str x t from r);subst e;exact o9 P w x t
theorem nL {P:Program} {w:World}:∀ {ks:List Key} {us:List Value},Vals (ks.map kV) us→ItemsAre (bJ P w) ks us
 | [],_,r=>by rw [List.map_nil] at r;cases r;exact .nil
 | k :: ks,_,r=>by
  rw [List.map_cons] at r
  cases r with
  | cons h t=>exact .cons (wP h) (nL t)
abbrev KT (H:Hp):List (List Key×V)→List (List Key×Addr×Value)→Prop:=Paired fun p q=>p.1=q.1∧H q.2.1=some (.tup (p.1.map kV))∧RelV p.2 q.2.2
theorem KT.val {H:Hp} {kvs:List (List Key×V)} {xs:List (List Key×Addr×Value)} (r:KT H kvs xs) (k:List Key):RelO (f9 kvs k) ((atKey xs k).map (·.2)):=by
 induction r with
 | nil=>exact True.intro
 | @cons p q ps qs h t ih=>
  obtain ⟨h1,_,h2⟩:=h
  by_cases e:p.1=k
  ·have e':q.1=k:=h1.symm.trans e
   have b:atKey (q :: qs) k=some q.2:=by simp [atKey,List.find?_cons,e']
   rw [lY e,b];exact h2
  ·have e':¬ q.1=k:=fun z=>e (h1.trans z)
   have b:atKey (q :: qs) k=atKey qs k:=by simp [atKey,List.find?_cons,e']
   rw [lZ e,b];exact ih
theorem KT.repl {H:Hp} {kvs:List (List Key×V)} {xs:List (List Key×Addr×Value)} (r:KT H kvs xs) (k:List Key) {y:V} {u:Value} (ry:RelV y u) :
  KT H (kvs.map fun kv=>if kv.1=k then (kv.1,y) else kv) (xs.map (putAt k u)):=by
 induction r with
 | nil=>exact .nil
 | @cons p q ps qs h t ih=>
  rw [List.map_cons,List.map_cons]
  refine .cons ?_ ih
  obtain ⟨h1,h2,h3⟩:=h
  unfold putAt
  by_cases e:p.1=k
  ·rw [if_pos e,if_pos (h1.symm.trans e)];exact ⟨h1,h2,ry⟩
  ·rw [if_neg e,if_neg (fun z=>e (h1.trans z))];exact ⟨h1,h2,h3⟩
theorem KT.put {H:Hp} {kvs:List (List Key×V)} {xs:List (List Key×Addr×Value)} (r:KT H kvs xs) (k:List Key) {b:Addr} {y:V} {u:Value} (hb:H b=some (.tup (k.map kV))) (ry:RelV y u) :
  KT H (fY kvs k y) (storedH xs k b u):=by
 have e:(kvs.any fun kv=>decide (kv.1=k))=(atKey xs k).isSome:=by
  rw [l0,(r.val k).isSome_eq,Option.isSome_map]
 unfold fY storedH
 rw [e]
 by_cases q:(atKey xs k).isSome=true
 ·rw [if_pos q,if_pos q];exact r.repl k ry
 ·rw [if_neg q,if_neg q];exact Paired.snoc r ⟨rfl,hb,ry⟩
theorem KT.keeps {H H':Hp} {kvs:List (List Key×V)} {xs:List (List Key×Addr×Value)} (r:KT H kvs xs) (ht:∀ b ys,H b=some (.tup ys)→H' b=some (.tup ys)):KT H' kvs xs:=
 Paired.mapP r fun _ _ z=>⟨z.1,ht _ _ z.2.1,z.2.2⟩
section
variable {P:Program} {w:World} {H:Hp} {h:Heap} {a:Addr}
theorem BR {u:HO} (ok:HOk P w H h) (e:Rd H a u):ObjOk P w H h a u:=e.ok ok
theorem zg {kvs:List (Key×V)} (ok:HOk P w H h) (e:Rd H a (.dK kvs)):kvs.length≤sizeLine∧(a == sysModules)=false∧∃ vs,KV kvs vs∧h.DictOf (bJ P w) a vs:=
 show ObjOk P w H h a (.dK kvs) from BR ok e
theorem wQ {kvs:List (Key×V)} (ok:HOk P w H h) (e:H a=some (.dK kvs)):kvs.length≤sizeLine∧(a == sysModules)=false∧∃ vs,KV kvs vs∧h.DictOf (bJ P w) a vs:=zg ok (.inl e)
theorem uG {ks:List Key} (ok:HOk P w H h) (e:H a=some (.tup (ks.map kV))):(tupleKind (bJ P w)).is h ks a:=by
 obtain ⟨_,its,r,o,h1,h2,n,h3⟩:=(show ObjOk P w H h a (.tup (ks.map kV)) from ok a _ e)
 exact ⟨o,its.toArray,n,h1,h2,h3,by simpa using nL r⟩
theorem zh {kvs:List (List Key×V)} (ok:HOk P w H h) (e:Rd H a (.dT kvs)):kvs.length≤sizeLine∧(a == sysModules)=false ∧
  ∃ xs,KT H kvs xs∧h.DictOfH (tupleKind (bJ P w)) a xs:=by
 obtain ⟨z,y,xs,r,o,es,ep,h1,h2,h3,h4,h5⟩:=(show ObjOk P w H h a (.dT kvs) from BR ok e)
 refine ⟨z,y,xs,r,o,es,ep,h1,h2,h3,h4,fun x hx => ?_,h5⟩
 have all:∀ {l:List (List Key×V)} {m:List (List Key×Addr×Value)},KT H l m→∀ x∈m,(tupleKind (bJ P w)).is h x.1 x.2.1:=by
  intro l m q
  induction q with
  | nil=>intro x hx;exact nomatch hx
  | @cons p q ps qs hq t ih=>
   intro x hx
   rcases List.mem_cons.mp hx with e | hx
   ·subst e
    exact uG ok (by rw [← hq.1];exact hq.2.1)
   ·exact ih x hx
 exact all r x hx
theorem DR {kvs:List (List Key×V)} (ok:HOk P w H h) (e:H a=some (.dT kvs)):kvs.length≤sizeLine∧(a == sysModules)=false ∧
  ∃ xs,KT H kvs xs∧h.DictOfH (tupleKind (bJ P w)) a xs:=zh ok (.inl e)
end
def DGet (H:Hp) (a:Addr) (y:V) (r:Option V):Prop:=
 (∃ kvs k,Rd H a (.dK kvs)∧y=kV k∧r=f9 kvs k)∨∃ kvs k b,Rd H a (.dT kvs)∧y = .ref b∧H b=some (.tup (k.map kV))∧r=f9 kvs k
def DPut (H:Hp) (a:Addr) (y v:V) (H':Hp):Prop:=
 (∃ kvs k,H a=some (.dK kvs)∧y=kV k∧kvs.length < sizeLine∧H'=upd H a (.dK (fY kvs k v))) ∨
 ∃ kvs k b,H a=some (.dT kvs)∧y = .ref b∧H b=some (.tup (k.map kV))∧kvs.length < sizeLine∧H'=upd H a (.dT (fY kvs k v))
theorem DGet.k {H:Hp} {a:Addr} {kvs:List (Key×V)} {k:Key} (e:H a=some (.dK kvs)):DGet H a (kV k) (f9 kvs k) := .inl ⟨kvs,k,.inl e,rfl,rfl⟩
theorem DPut.k {H:Hp} {a:Addr} {kvs:List (Key×V)} {k:Key} {v:V} (e:H a=some (.dK kvs)) (hl:kvs.length < sizeLine):DPut H a (kV k) v (upd H a (.dK (fY kvs k v))) := .inl ⟨kvs,k,e,rfl,hl,rfl⟩
section
variable {X:Cx} {pins:List (Addr×Obj)} {σ:St} {H:Hp} {s:Shared} {a:Addr} {y v:V} {u r:Value} {o:Option V} {A:Around} {E:Value→Shared→Prop}
theorem Inv.big (I:Inv X pins σ H s):sysModules < s.heap.objs.size:=by
 have h:mainGlobals < s.heap.objs.size:=(I.mod.glob.keeps I.bk).lt
 exact Nat.lt_trans (by decide) h
theorem uH {Q:Value→Shared→Prop} (hu:A.units+1 < cLine) (I:Inv X pins σ H s) (g:DGet H a y (some v)) (ry:RelV y u) (h:∀ w' s',Inv X pins σ H s'→RelV v w'→Q w' s') :
  wpAny (model X.prog X.w) A (getItem (.ref a) u) Q E s:=by
 rcases g with ⟨kvs,k,e,ey,l⟩ | ⟨kvs,k,b,e,ey,eb,l⟩
 ·subst ey
  obtain ⟨z,hd,vs,rel,dd⟩:=zg I.hok e
  obtain ⟨w',hw,rw'⟩:=RelO.some_of (v:=v) (o:=valueAt vs k) (by rw [l];exact rel.val k)
  exact wpAny_getItem_of (wP ry) dd.mapOf hw (h w' _ (I.tok _) rw')
 ·subst ey
  cases (show u=Value.ref b from ry)
  obtain ⟨z,hd,xs,rel,dd⟩:=zh I.hok e
  obtain ⟨w',hw,rw'⟩:=RelO.some_of (v:=v) (o:=(atKey xs k).map (·.2)) (by rw [l];exact rel.val k)
  obtain ⟨p,hp,hp2⟩:=Option.map_eq_some_iff.mp hw
  refine wpAny_getItem_heap (tupleKind_room_in1 hu) (uG I.hok eb) dd hp ?_
  rw [hp2]
  exact h w' _ (I.tok _) rw'
theorem l6 {h':Heap} {t':Nat} {ob:HO} (I:Inv X pins σ H s) (mu:Mut (H a)) (hs:Heap.SameBut a s.heap h') (he:∃ q,h'.get? a=some q) (new:ObjOk X.prog X.w (upd H a ob) h' a ob) :
  Inv X pins σ (upd H a ob) {s with heap:=h',toks:=t'}:=
 I.write (x:=a) (e:=a) mu (.inl rfl) (fun b q hb z=>(hs.2 b hb).trans z) he new
theorem uI {P:Program} {w:World} {H':Hp} {h':Heap} {kvs:List (Key×V)} {vs:List (Key×Value)} (z:kvs.length≤sizeLine) (hd:(a == sysModules)=false) (rel:KV kvs vs) (dd:h'.DictOf (bJ P w) a vs) :
  ObjOk P w H' h' a (.dK kvs):=⟨z,hd,vs,rel,dd⟩
theorem uJ {H':Hp} {Q:Unit→Shared→Prop} (hu:A.units+1 < cLine) (I:Inv X pins σ H s) (g:DPut H a y v H') (ry:RelV y u) (rv:RelV v r) (h:∀ s',Inv X pins σ H' s'→Q () s') :
  wpAny (model X.prog X.w) A (setItem (.ref a) u r) Q E s:=by
 rcases g with ⟨kvs,k,e,ey,l,eH⟩ | ⟨kvs,k,b,e,ey,eb,l,eH⟩
 ·subst ey eH
  obtain ⟨z,hd,vs,rel,dd⟩:=wQ I.hok e
  have hz:vs.length≤sizeLine:=by rw [← rel.length];exact z
  have hl:(fY kvs k v).length≤sizeLine:=by have:=gb kvs k v;omega
  refine wpAny_setItem_pairs (hsz:=hz) (wP ry) dd fun h' dd' hs=>h _ ?_
  have he:∃ q,h'.get? a=some q:=let ⟨q,_,_,hq,_⟩:=dd';⟨q,hq⟩
  exact l6 I (by rw [e];exact True.intro) hs he (uI hl hd (rel.put k rv) dd')
 ·subst ey eH
  cases (show u=Value.ref b from ry)
  obtain ⟨z,hd,xs,rel,dd⟩:=DR I.hok e
  have hz:xs.length≤sizeLine:=by rw [← Paired.length rel];exact z
  have hl:(fY kvs k v).length≤sizeLine:=by have:=gb kvs k v;omega
  refine wpAny_setItem_heap (hsz:=hz) (tupleKind_room_in1 hu) (uG I.hok eb) dd fun h' dd' hs=>h _ ?_
  obtain ⟨q,es,ep,hq,h2,h3,h4,_,h5⟩:=dd'
  refine l6 I (by rw [e];exact True.intro) hs ⟨q,hq⟩ ⟨hl,hd,_,(rel.put k eb rv).keeps fun c ys ec => ?_,q,es,ep,hq,h2,h3,h4,h5⟩
  rw [aX (Ai ec e (fun z=>nomatch z))]
  exact ec
end
section
variable {X:Cx} {pins:List (Addr×Obj)} {σ:St} {H:Hp} {s:Shared} {a:Addr} {kvs:List (Key×V)} {k:Key} {u:Value} {A:Around} {E:Value→Shared→Prop}
end
def Ey (i:Expr):Prop:=∀ ov iv,subscripted i false ov iv=operate [ov,iv] (getItem ov iv)
theorem zi {prog:Program} {w:World} {A:Around} {E:Value→Shared→Prop} {s:Shared} {env:Env} {value slice:Expr} {pos:Pos} {T id:String} {Q:Value→Shared→Prop}
  (hl:typeLookup (.type T) "__getitem__" = pure (some (.builtin id))) (hs:Ey slice)
  (h:wpAny (model prog w) A (eval value env) (fun o s₁=>wpAny (model prog w) A (eval slice env) (fun i s₂=>s₂.TypeIs o T∧wpAny (model prog w) A (getItem o i) Q E s₂) E s₁) E s) :
  wpAny (model prog w) A (eval (.Subscript value slice pos) env) Q E s:=by
 refine Subscript_ (wpAny_mono h (fun o s₁ h₁=>wpAny_mono h₁ (fun i s₂ h₂ => ?_) fun _ _ x=>x) fun _ _ x=>x)
 obtain ⟨hT,h₂⟩:=h₂
 unfold subscriptTail
 refine wpAny_bind ?_
 rw [getitemInPython_of_ne hT.not_modules]
 refine wpAny_bind (wpAny_specialOf hT hl ?_)
 have fin:wpAny (model prog w) A (subscripted slice false o i) (fun r s₃=>wpAny (model prog w) A (letTemporaryGo value o r >>= fun _=>pure r) Q E s₃) E s₂:=by
  rw [hs o i]
  exact wpAny_operating (wpAny_mono h₂ (fun r s₃ h₃=>wpAny_bind (wpAny_letTemporaryGo (wpAny_pure h₃))) fun _ _ x=>x)
 first
  | exact wpAny_pure (wpAny_bind fin)
  | exact wpAny_bind (wpAny_pure (wpAny_bind fin))
  | exact wpAny_bind fin
theorem pL {X:Cx} {pins:List (Addr×Obj)} {σ:St} {H:Hp} {s:Shared} {a:Addr} {y:V} {o:Option V} (I:Inv X pins σ H s) (g:DGet H a y o):s.TypeIs (.ref a) "dict" := by
 rcases g with ⟨kvs,k,e,_,_⟩ | ⟨kvs,k,b,e,_,_,_⟩
 ·obtain ⟨_,_,vs,_,dd⟩:=zg I.hok e
  exact dd.typeIs
 ·obtain ⟨_,_,xs,_,dd⟩:=zh I.hok e
  exact dd.typeIs
def uK (td ty:TE):TE:=fun σ H Q=>td σ H fun x H1=>ty σ H1 fun y H2=>∃ a v,x = .ref a∧DGet H2 a y (some v)∧Q v H2
def Fz (ty td:TE):TE:=fun σ H Q=>ty σ H fun y H1=>td σ H1 fun x H2=>∃ a o,x = .ref a∧DGet H2 a y o∧Q (.bl o.isSome) H2
def DS (ty td:TE):TE:=fun σ H Q=>ty σ H fun y H1=>td σ H1 fun x H2=>∃ a o,x = .ref a∧DGet H2 a y o∧Q (.bl (!o.isSome)) H2
def zj (td ty tv:TE):TS:=fun D σ H=>tv σ H fun v H1=>td σ H1 fun x H2=>ty σ H2 fun y H3=>∃ a H4,x = .ref a∧DPut H3 a y v H4∧D.nx σ H4
def Fb (td ty tv:TE) (rd:V→V→Hp→VK→Prop):TS:=fun D σ H=>td σ H fun x H1=>ty σ H1 fun y H2=>∃ a v,x = .ref a∧DGet H2 a y (some v) ∧
 tv σ H2 fun y2 H3=>rd v y2 H3 fun z H4=>∃ H5,DPut H4 a y z H5∧D.nx σ H5
def Fc (td ty:TE):TS:=fun D σ H=>td σ H fun x H1=>ty σ H1 fun y H2=>∃ a kvs k,x = .ref a∧H2 a=some (.dK kvs)∧y=kV k∧(f9 kvs k).isSome=true∧D.nx σ (upd H2 a (.dK (zf kvs k)))
section
variable {X:Cx} {o i e value:Expr} {pos pos' tpos:Pos} {td ty tv:TE}
theorem aA (hu:X.A.units+1 < cLine) (ho:PE X o td) (hi:PE X i ty) (hs:Ey i):PE X (.Subscript o i pos) (uK td ty):=by
 intro pins s σ H Q I h
 refine zi PySem.F.slot_dict_getitem.lookup hs (thn (ho pins s σ H _ I h) fun u s1 ⟨x,H1,I1,rx,q1⟩=>thn (hi pins s1 σ H1 _ I1 q1) fun iv s2 ⟨y,H2,I2,ry,a,v,ex,g,q2⟩ => ?_)
 subst ex
 obtain rfl:u=Value.ref a:=rx
 exact ⟨pL I2 g,uH hu I2 g ry fun w' s3 I3 rw'=>⟨v,H2,I3,rw',q2⟩⟩
theorem aP (hu:X.A.units+1 < cLine) (ho:PE X o td) (hi:PE X i ty) (hv:PE X value tv) (hs:swapsWith value (some (.Subscript o i pos')) pos.line X.env=pure false) :
  PS X (.Assign [.Subscript o i pos'] value pos) (zj td ty tv):=by
 intro pins s σ H D I h
 refine wpAny_Assign_Subscript (thn (hv pins s σ H _ I h) fun r s1 ⟨v,H1,I1,rv,q1⟩=>thn (ho pins s1 σ H1 _ I1 q1) fun u s2 ⟨x,H2,I2,rx,q2⟩=>thn (hi pins s2 σ H2 _ I2 q2) fun iv s3 ⟨y,H3,I3,ry,a,H4,ex,g,q3⟩ => ?_) hs
 subst ex
 obtain rfl:u=Value.ref a:=rx
 exact uJ hu I3 g ry rv fun s4 I4=>⟨σ,H4,I4,q3⟩
end
theorem wR {P:Program} {w:World} {H:Hp} (h:Heap) (hb:sysModules < h.objs.size):ObjOk P w H (h.push {cls := .type "dict",data := .dict #[]}) h.objs.size (.dK []):=
 ⟨Nat.zero_le _,beq_eq_false_iff_ne.mpr (Ne.symm (Nat.ne_of_lt hb)),[],.nil,Heap.DictOf.new h⟩
def Ez:TE:=fun _ H Q=>∀ p,H p=none→Q (.ref p) (upd H p (.dK []))
def EA:TE:=fun _ H Q=>∀ p,H p=none→Q (.ref p) (upd H p (.dT []))
section
variable {X:Cx} {pos:Pos}
end
def jN:List (TE×TE)→St→Hp→(List (V×V)→Hp→Prop)→Prop
 | [],_,H,Q=>Q [] H
 | (tk,tv) :: r,σ,H,Q=>tk σ H fun x H1=>tv σ H1 fun y H2=>jN r σ H2 fun ps H3=>Q ((x,y) :: ps) H3
abbrev VV:List (V×V)→List (Value×Value)→Prop:=Paired fun p q=>RelV p.1 q.1∧RelV p.2 q.2
def PPs (X:Cx) (pos:Pos) (keys:List (Option Expr)) (values:List Expr) (trs:List (TE×TE)):Prop:=
 ∀ (pins:List (Addr×Obj)) (s:Shared) (σ:St) (H:Hp) (Q:List (V×V)→Hp→Prop),Inv X pins σ H s→jN trs σ H Q →
  wpAny (model X.prog X.w) X.A (evalPairs (pairTrees keys values X.env pos)) (fun vs s'=>∃ ps H',Inv X pins σ H' s'∧VV ps vs∧Q ps H') X.xe s
theorem zk {X:Cx} {pos:Pos}:PPs X pos [] [] []:=fun pins s σ H Q I h=>pairTrees_nil_walk ⟨[],H,I,.nil,h⟩
theorem wS {X:Cx} {pos:Pos} {k v:Expr} {ks:List (Option Expr)} {vs:List Expr} {tk tv:TE} {trs:List (TE×TE)} (hk:PE X k tk) (hv:PE X v tv) (hr:PPs X pos ks vs trs) :
  PPs X pos (some k :: ks) (v :: vs) ((tk,tv) :: trs):=fun pins s σ H Q I h=>
 pairTrees_cons_walk (thn (hk pins s σ H _ I h) fun u s1 ⟨x,H1,I1,rx,q1⟩=>thn (hv pins s1 σ H1 _ I1 q1) fun w2 s2 ⟨y,H2,I2,ry,q2⟩=>
  thn (hr pins s2 σ H2 _ I2 q2) fun ws s3 ⟨ps,H3,I3,rel,q3⟩=>⟨(x,y) :: ps,H3,I3,.cons ⟨rx,ry⟩ rel,q3⟩)
def cT (kvs more:List (Key×V)):List (Key×V):=more.foldl (fun acc kv=>fY acc kv.1 kv.2) kvs
theorem KV.merge:∀ {more:List (Key×V)} {rs:List (Key×Value)} {kvs:List (Key×V)} {vs:List (Key×Value)},KV more rs→KV kvs vs→KV (cT kvs more) (merged vs rs):=by
 intro more rs kvs vs r
 unfold KV at r
 induction r generalizing kvs vs with
 | nil=>intro q;exact q
 | @cons p q ps qs h t ih=>
  intro r0
  have e:KV (fY kvs p.1 p.2) (stored vs q.1 q.2):=by
   have:=r0.put p.1 h.2
   rw [← h.1];exact this
  exact ih e
theorem dG:∀ (more kvs:List (Key×V)),(cT kvs more).length≤kvs.length+more.length
 | [],kvs=>by show kvs.length≤kvs.length+0;omega
 | p :: r,kvs=>by
  have h1:=dG r (fY kvs p.1 p.2)
  have h2:=gb kvs p.1 p.2
  show (cT (fY kvs p.1 p.2) r).length≤_
  rw [List.length_cons];omega
theorem k7 {P:Program} {w:World}:∀ {kvs:List (Key×V)} {ws:List (Value×Value)},VV (kvs.map fun kv=>(kV kv.1,kv.2)) ws→∃ rs,Carries (bJ P w) ws rs∧KV kvs rs
 | [],_,r=>by rw [List.map_nil] at r;cases r;exact ⟨[],True.intro,.nil⟩
 | p :: kvs,_,r=>by
  rw [List.map_cons] at r
  cases r with
  | @cons a b as bs h t=>
   obtain ⟨rs,c,q⟩:=k7 (P:=P) (w:=w) t
   obtain ⟨b1,b2⟩:=b
   exact ⟨(p.1,b2) :: rs,⟨wP h.1,rfl,c⟩,.cons ⟨rfl,h.2⟩ q⟩
def zl (trs:List (TE×TE)):TE:=fun σ H Q=>∀ p,H p=none→jN trs σ (upd H p (.dK [])) fun ps H2=>H2 p=some (.dK [])∧∃ kvs:List (Key×V),ps=kvs.map (fun kv=>(kV kv.1,kv.2))∧kvs.length≤15∧Q (.ref p) (upd H2 p (.dK (cT [] kvs)))
theorem zm {X:Cx} {pos:Pos} {keys:List (Option Expr)} {values:List Expr} {trs:List (TE×TE)} (h:PPs X pos keys values trs) (hall:keys.all (·.isSome)=true) (hl:keys.length=values.length) (h0:keys≠[])
  (h15:keys.length≤15):PE X (.Dict keys values pos) (zl trs):=by
 intro pins s σ H Q I q
 have hn:=I.hok.fresh (Nat.le_refl s.heap.objs.size)
 have I1:=I.laid (a:=s.heap.objs.size) (o := .dK []) (h':=s.heap.push {cls := .type "dict",data := .dict #[]}) (t':=s.toks) (fun _ _ q=>Heap.get?_push_of_some _ q) (Nat.le_refl _) (wR s.heap I.big)
 refine wpAny_Dict_walk (knd:=bJ X.prog X.w) hall hl h0 h15 (thn (h pins _ σ _ _ I1 (q _ hn)) fun ws s2 ⟨ps,H2,I2,rel,e,kvs,ep,lk,q2⟩ => ?_)
 subst ep
 obtain ⟨rs,c,rk⟩:=k7 (P:=X.prog) (w:=X.w) rel
 obtain ⟨z,hd,vs0,r0,dd⟩:=wQ I2.hok e
 cases r0
 refine ⟨rs,c,dd,fun h' dd' hs=>⟨.ref s.heap.objs.size,_,?_,rfl,q2⟩⟩
 have hz:(cT [] kvs).length≤sizeLine:=by
  have h1:=dG kvs []
  rw [List.length_nil] at h1
  rw [sizeLine_eq];omega
 have he:∃ q,h'.get? s.heap.objs.size=some q:=let ⟨q,_,_,hq,_⟩:=dd';⟨q,hq⟩
 exact l6 I2 (by rw [e];exact True.intro) hs he (uI hz hd (rk.merge .nil) dd')
structure M1 (X:Cx) (o:Expr) (m:Str) (apos:Pos) (e:Expr) (cpos:Pos):Prop where
 base:attributeBase o m X.env (eval o X.env)=eval o X.env
 few:((backTo cpos (starEach [e] X.env)).all (fun x => !x.1) && (backToKw cpos (keywordEach [] X.env)).all (fun x=>x.1.isSome)
  && decide (([e]:List Expr).length+([]:List Keyword).length+(if ([]:List Keyword).isEmpty then 0 else 1) < 30))=true
 line:(apos.endLine == cpos.line)=true
 trees:backTo cpos (starEach [e] X.env)=[(false,eval e X.env)]
structure M2 (X:Cx) (o:Expr) (m:Str) (apos:Pos) (e f:Expr) (cpos:Pos):Prop where
 base:attributeBase o m X.env (eval o X.env)=eval o X.env
 few:((backTo cpos (starEach [e,f] X.env)).all (fun x => !x.1) && (backToKw cpos (keywordEach [] X.env)).all (fun x=>x.1.isSome)
  && decide (([e,f]:List Expr).length+([]:List Keyword).length+(if ([]:List Keyword).isEmpty then 0 else 1) < 30))=true
 line:(apos.endLine == cpos.line)=true
 trees:backTo cpos (starEach [e,f] X.env)=[(false,eval e X.env),(false,eval f X.env)]
def IsD (H:Hp) (a:Addr):Prop:=(∃ kvs,Rd H a (.dK kvs))∨∃ kvs,Rd H a (.dT kvs)
section
variable {X:Cx} {pins:List (Addr×Obj)} {σ:St} {H:Hp} {s:Shared} {a:Addr} {y d:V} {u r:Value} {o:Option V} {A:Around} {E:Value→Shared→Prop}
end
def EB (td ty:TE):TE:=fun σ H Q=>td σ H fun x H1=>∃ a,x = .ref a∧IsD H1 a∧ty σ H1 fun y H2=>∃ o,DGet H2 a y o∧Q (o.getD .non) H2
def EC (td ty tx:TE):TE:=fun σ H Q=>td σ H fun x H1=>∃ a,x = .ref a∧IsD H1 a∧ty σ H1 fun y H2=>tx σ H2 fun z H3=>∃ o,DGet H3 a y o∧Q (o.getD z) H3
def ED (td ty:TE):TE:=fun σ H Q=>td σ H fun x H1=>∃ a,x = .ref a∧IsD H1 a∧ty σ H1 fun y H2=>∃ kvs k v,H2 a=some (.dK kvs)∧y=kV k∧f9 kvs k=some v∧Q v (upd H2 a (.dK (zf kvs k)))
def EE (td ty tx:TE):TE:=fun σ H Q=>td σ H fun x H1=>∃ a,x = .ref a∧IsD H1 a∧ty σ H1 fun y H2=>tx σ H2 fun z H3=>∃ kvs k,H3 a=some (.dK kvs)∧y=kV k ∧
 (∀ v,f9 kvs k=some v→Q v (upd H3 a (.dK (zf kvs k))))∧(f9 kvs k=none→Q z H3)
section
variable {X:Cx} {o e f:Expr} {apos cpos:Pos} {td ty tx:TE}
end
section
variable {X:Cx} {pins:List (Addr×Obj)} {σ:St} {H:Hp} {s:Shared} {a:Addr} {kvs:List (Key×V)} {A:Around} {E:Value→Shared→Prop}
end
section
variable {X:Cx} {pins:List (Addr×Obj)} {σ:St} {H:Hp} {s:Shared} {a:Addr} {y:V} {u:Value} {A:Around} {E:Value→Shared→Prop}
end
end L2
set_option maxHeartbeats 4000000
set_option maxRecDepth 100000
namespace L2
open PySem PySem.Spec PyProof.Rows
def wT:V→V→Hp→VK→Prop:=fun x y H Q=>∃ a v,x = .ref a∧DGet H a y (some v)∧Q v H
theorem zn {td ty:TE} {s:St} {H:Hp} {Q:VK} (h:td s H fun x H1=>ty s H1 fun y H2=>wT x y H2 Q):uK td ty s H Q:=h
theorem jt {a:Addr} {kvs:List (Key×V)} {k:Str} {v:V} {H:Hp} {Q:VK} (e:At H a (.dK kvs)) (l:f9 kvs (.inr k)=some v) (h:Q v H):wT (.ref a) (.str k) H Q:=
 ⟨a,v,rfl,by have:=DGet.k (k := .inr k) e;rw [l] at this;exact this,h⟩
theorem zo {a:Addr} {k:Str} {H:Hp} {Q:VK} (h:wT (.ref a) (.str k) H Q):wT (.ref a) (.str k) H Q:=h
def wU (v:V):V→V→Hp→(Hp→Prop)→Prop:=fun x y H N=>∃ a H4,x = .ref a∧DPut H a y v H4∧N H4
theorem zq {td ty tv:TE} {D:Ends} {s:St} {H:Hp} (h:tv s H fun v H1=>td s H1 fun x H2=>ty s H2 fun y H3=>wU v x y H3 fun H4=>D.nx s H4):zj td ty tv D s H:=h
theorem wV {a:Addr} {kvs kvs':List (Key×V)} {k:Str} {v:V} {H:Hp} {N:Hp→Prop} (e:At H a (.dK kvs)) (hl:kvs.length < 1000) (p:fY kvs (.inr k) v=kvs') (h:N (upd H a (.dK kvs'))):wU v (.ref a) (.str k) H N:=
 ⟨a,_,rfl,DPut.k (k := .inr k) e (bu (Nat.le_of_lt hl)),by rw [p];exact h⟩
theorem zr {a:Addr} {k:Str} {v:V} {H:Hp} {N:Hp→Prop} (h:wU v (.ref a) (.str k) H N):wU v (.ref a) (.str k) H N:=h
def BS:V→List V→Hp→VK→Prop:=fun x vs H Q=>∃ d o kvs more,x = .ref d∧vs=[.ref o]∧H d=some (.dK kvs)∧H o=some (.dK more)∧d≠o∧kvs.length+more.length≤1000∧Q .non (upd H d (.dK (cT kvs more)))
theorem sx {X:Cx}:MtR X "dict.update" BS:=by
 rintro pins s σ H x vs v us Q I rx rv ⟨d,o,kvs,more,rfl,rfl,ed,eo,hne,hl,q⟩
 obtain rfl:v=Value.ref d:=rx
 obtain ⟨u,rfl,ru⟩:=kq rv
 obtain rfl:u=Value.ref o:=ru
 obtain ⟨z1,n1,ws,r1,d1⟩:=wQ I.hok ed
 obtain ⟨z2,n2,ws2,r2,d2⟩:=wQ I.hok eo
 have l1:=r1.length
 have l2:=r2.length
 refine call_meetsIn PySem.F.slot_dict_update d1.typeIs PySem.F.entry_dict_update (PySem.F.args_dict_update_2 _ _) (meets_dict_update (bJ X.prog X.w) d o hne n2)
  ⟨ws,ws2,d1,d2,(by rw [← l1,← l2];exact small hl),fun h' hd' ho' hs => ?_⟩
 have hm:=KV.merge r2 r1
 have lm:(cT kvs more).length≤sizeLine:=Nat.le_trans (dG more kvs) (small hl)
 refine ⟨.non,_,l6 (t':=s.toks) I (by rw [ed];exact True.intro) hs ?_ (uI lm n1 hm hd'),rfl,q⟩
 obtain ⟨ob,_,_,e1,_⟩:=hd'
 exact ⟨ob,e1⟩
theorem zt {d o:Addr} {kvs more:List (Key×V)} {H:Hp} {Q:VK} (ed:At H d (.dK kvs)) (eo:At H o (.dK more)) (hne:d≠o) (hl:kvs.length+more.length≤1000) (h:Q .non (upd H d (.dK (cT kvs more)))):BS (.ref d) [.ref o] H Q:=⟨d,o,kvs,more,rfl,rfl,ed,eo,hne,hl,h⟩
theorem zu {K:PySem.W.Frag} {p:Addr} {kvs:List (Key×V)} {H:Hp} (e:At H p (.dK kvs)):tyV K "dict" (.ref p) H := .inr (.inr (.inl ⟨rfl,.inl ⟨kvs,e⟩⟩))
end L2
namespace L2
open PySem PySem.Spec PyProof.Rows
section
variable {X:Cx} {K:PySem.W.Frag}
def zw (K:PySem.W.Frag):R2:=fun x y H Q=>∃ a b xs ys,x = .ref a∧y = .ref b∧SqL K H a xs∧SqL K H b ys∧xs.length+ys.length≤sizeLine∧∀ p,H p=none→Q (.ref p) (upd H p (.lst (xs++ys)))
theorem zx:OpR X (binaryOp .Add) (zw X.K):=by
 intro pins s σ H x y v u Q I rx ry h
 obtain ⟨l,b,xs,zs,rfl,rfl,hH,hB,hz,q⟩:=h
 cases rx
 cases ry
 obtain ⟨its,r,e,z⟩:=I.list hH
 obtain ⟨its2,r2,e2,z2⟩:=I.list hB
 have l1:=r.length
 have l2:=r2.length
 obtain ⟨⟨cls,dd,data,sl⟩,n,ho,hc,hdd,hd⟩:=e
 obtain ⟨⟨cls2,dd2,data2,sl2⟩,n2,ho2,hc2,hdd2,hd2⟩:=e2
 dsimp only at hc hd hc2 hd2
 subst hc hd hc2 hd2
 refine concat_meets ⟨_,ho,rfl⟩ ⟨_,ho2,rfl⟩ noFill_list_add seq_list_add PySem.F.slot_list_add PySem.F.entry_list_add (PySem.F.args_list_add_2 _ _) (list_addW l b its.toArray its2.toArray n n2 dd dd2 sl sl2 (by rw [List.size_toArray,List.size_toArray];omega)) ⟨ho,ho2,?_⟩
 have ea:its.toArray++its2.toArray=(its++its2).toArray:=by simp
 rw [ea]
 exact ⟨.ref _,_,I.lnew (t':=s.toks) (r.append r2) (by rw [List.length_append];omega),rfl,q _ I.fresh⟩
theorem ge (hK:X.K=K:=by rfl):OpR X (binaryOp .Add) (zw K):=hK ▸ zx
end
theorem dH {K:PySem.W.Frag} {a b:Addr} {xs ys:List V} {H:Hp} {Q:VK} (e1:SqL K H a xs) (e2:SqL K H b ys) (hl:xs.length+ys.length≤5000) (h:∀ p,aS H p→Q (.ref p) (upd H p (.lst (xs++ys)))):zw K (.ref a) (.ref b) H Q:=⟨a,b,xs,ys,rfl,rfl,e1,e2,Nat.le_trans hl (by decide +kernel),h⟩
def BT (t:TS):TS:=fun D σ H=>∃ p xs,H p=some (.lst xs)∧∀ o,t D σ (upd H p (.frz o (.lst xs)))
theorem uL {X:Cx} {ss:List Stmt} {t:TS} (h:PSs X ss t):PSs X ss (BT t):=by
 rintro pins s σ H D I ⟨p,xs,e,q⟩
 obtain ⟨o,I2⟩:=I.freeze e
 exact h pins s σ _ D I2 (q o)
theorem uM {t:TS} {D:Ends} {s:St} {H:Hp} {p:Addr} {xs:List V} (e:At H p (.lst xs)) (h:∀ o,t D s (upd H p (.frz o (.lst xs)))):BT t D s H:=⟨p,xs,e,h⟩
end L2
namespace L2
open PySem PySem.Spec PyProof.Rows
def BU (p:Addr):List (V×V)→Hp→VK→Prop:=fun ps H2 Q=>H2 p=some (.dK [])∧∃ kvs:List (Key×V),ps=kvs.map (fun kv=>(kV kv.1,kv.2))∧kvs.length≤15∧Q (.ref p) (upd H2 p (.dK (cT [] kvs)))
theorem pM {trs:List (TE×TE)} {s:St} {H:Hp} {Q:VK} (h:∀ p,aS H p→jN trs s (upd H p (.dK [])) fun ps H2=>BU p ps H2 Q):zl trs s H Q:=h
theorem l7 {p:Addr} {kvs kvs':List (Key×V)} {H:Hp} {Q:VK} (e:At H p (.dK [])) (hl:kvs.length≤15) (hm:cT [] kvs=kvs') (h:Q (.ref p) (upd H p (.dK kvs'))):BU p (kvs.map fun kv=>(kV kv.1,kv.2)) H Q:=⟨e,kvs,rfl,hl,hm ▸ h⟩
theorem wW {tk tv:TE} {r:List (TE×TE)} {s:St} {H:Hp} {Q:List (V×V)→Hp→Prop} (h:tk s H fun x H1=>tv s H1 fun y H2=>jN r s H2 fun ps H3=>Q ((x,y) :: ps) H3):jN ((tk,tv) :: r) s H Q:=h
theorem zy {s:St} {H:Hp} {Q:List (V×V)→Hp→Prop} (h:Q [] H):jN [] s H Q:=h
end L2
set_option maxHeartbeats 4000000
set_option maxRecDepth 100000
namespace L2
open PySem PySem.Spec PyProof.Rows
section
variable {X:Cx} {K:PySem.W.Frag} {H:Hp}
theorem rG {bs:List Bool}:∀ {us:List Value},Vals (bs.map V.bl) us→us=bs.map Value.bool:=by
 induction bs with
 | nil=>intro us r;rw [List.map_nil] at r;cases r;rfl
 | cons b bs ih=>
  intro us r
  rw [List.map_cons] at r
  cases r with
  | cons h t=>
   have h:_=Value.bool b:=h
   rw [h,ih t]
   rfl
def sy:Value→Bool
 | .bool b=>b
 | _=>false
theorem xL {A:Around} {s:Shared} {bs:List Bool} {y:Value} (h:y∈bs.map Value.bool):SeqAt.EqAt A s y (.bool true) (sy y):=by
 obtain ⟨b,_,rfl⟩:=List.mem_map.mp h
 have:=tV (A:=A) (s:=s) (y := .bl b) (x := .bl true) (u := .bool b) (v := .bool true) rfl rfl rfl rfl
 have e:eqV (.bl b) (.bl true)=sy (.bool b):=by cases b <;> rfl
 rw [e] at this
 exact this
theorem uN (bs:List Bool):(bs.map Value.bool).countP sy=bs.count true:=by
 rw [List.countP_map,List.count]
 congr 1
 funext b
 cases b <;> rfl
def uO:V→List V→Hp→VK→Prop:=fun x vs H Q=>∃ (l:Addr) (bs:List Bool),x = .ref l∧vs=[.bl true]∧H l=some (.lst (bs.map V.bl))∧Q (.int (bs.count true:Nat)) H
theorem wX:MtM X "list.count" uO:=by
 intro pins s σ H x vs v us Q I rx rv h
 obtain ⟨l,bs,rfl,rfl,hS,q⟩:=h
 cases rx
 obtain ⟨u,rfl,ru⟩:=rv.one
 obtain rfl:u=Value.bool true:=ru
 obtain ⟨its,r,pl,hz⟩:=I.list (SqL.of (K:=X.K) hS)
 obtain rfl:=rG r
 obtain ⟨⟨cls,dd,data,sl⟩,ho,hc,n,hd⟩:=id pl.isList
 simp only at hc hd
 subst hc hd
 refine call_meets PySem.F.slot_list_count ⟨_,ho,rfl⟩ PySem.F.entry_list_count (PySem.F.args_list_count_2 _ _)
  (SeqAt.list_countAt l _ n dd sl (.bool true) sy) ⟨ho,fun y hy=>xL (by simpa using hy),?_⟩
 have e:(bs.map Value.bool).toArray.toList.countP sy=bs.count true:=uN bs
 rw [e]
 exact ⟨.int _,H,I.tok _,⟨_,rfl⟩,q⟩
def uP:V→List V→Hp→VK→Prop:=fun x vs H Q=>∃ (l:Addr) (bs:List Bool),x = .ref l∧vs=[.bl true]∧H l=some (.lst (bs.map V.bl))∧true∈bs∧Q (.int (bs.idxOf true:Nat)) H
theorem uQ:MtM X "list.index" uP:=by
 intro pins s σ H x vs v us Q I rx rv h
 obtain ⟨l,bs,rfl,rfl,hS,hk,q⟩:=h
 cases rx
 obtain ⟨u,rfl,ru⟩:=rv.one
 obtain rfl:u=Value.bool true:=ru
 obtain ⟨its,r,pl,hz⟩:=I.list (SqL.of (K:=X.K) hS)
 obtain rfl:=rG r
 obtain ⟨⟨cls,dd,data,sl⟩,ho,hc,n,hd⟩:=id pl.isList
 simp only at hc hd
 subst hc hd
 have hj:bs.idxOf true < bs.length:=List.idxOf_lt_length_iff.mpr hk
 rw [List.length_map] at hz
 have e24:sizeLine=16777216:=by decide +kernel
 refine call_meets PySem.F.slot_list_index ⟨_,ho,rfl⟩ PySem.F.entry_list_index (PySem.F.args_list_index_2 _ _)
  (SeqAt.list_indexAt l (bs.map Value.bool).toArray n dd sl (.bool true) sy (bs.idxOf true) (by simpa using hj) (by omega) ?_ ?_) ⟨ho,fun y hy=>xL (by simpa using hy),?_⟩
 ·have e:(bs.map Value.bool).toArray[bs.idxOf true]'(by simpa using hj)=Value.bool bs[bs.idxOf true]:=by simp
  rw [e]
  show bs[bs.idxOf true]=true
  exact List.getElem_idxOf hj
 ·intro j hjs hlt
  have hb:j < bs.length:=by omega
  have e:(bs.map Value.bool).toArray[j]'hjs=Value.bool bs[j]:=by simp
  rw [e]
  show bs[j]=false
  have:=List.not_of_lt_findIdx (p:=fun x=>x == true) (xs:=bs) (i:=j) hlt
  simpa using this
 ·exact ⟨.int _,H,I.tok _,⟨_,rfl⟩,q⟩
theorem nM {l:Addr} {bs:List Bool} {Q:VK} (e:At H l (.lst (bs.map V.bl))) (h:Q (.int (bs.count true:Nat)) H):uO (.ref l) [.bl true] H Q:=⟨l,bs,rfl,rfl,e,h⟩
theorem nN {l:Addr} {bs:List Bool} {Q:VK} (e:At H l (.lst (bs.map V.bl))) (hk:true∈bs) (h:Q (.int (bs.idxOf true:Nat)) H):uP (.ref l) [.bl true] H Q:=⟨l,bs,rfl,rfl,e,hk,h⟩
def TFr (K:PySem.W.Frag) (H:Hp) (v:V) (f:Int×List Int):Prop:=∃ t r,v = .ref t∧SqT K H t [.int f.1,.ref r]∧SqL K H r (f.2.map V.int)
theorem BV {x y:V} {f:Int×List Int} (hx:TFr K H x f) (hy:TFr K H y f):EqK K H 3 x y true:=by
 obtain ⟨t,r,rfl,ht,hr⟩:=hx
 obtain ⟨t',r',rfl,ht',hr'⟩:=hy
 intro X e
 subst e
 refine t9 ?_ fun _=>rfl
 have h:=t8 (X:=X) (n:=1) (e:=fun _=>true) ht ht' fun j x y ex ey=>by
  match j,ex,ey with
  | 0,ex,ey=>
   cases ex
   cases ey
   have:=pq (X:=X) (H:=H) f.1 f.1
   rw [beq_self_eq_true] at this
   exact this.mono (by omega)
  | 1,ex,ey=>
   cases ex
   cases ey
   have:=uz hr hr'
   rw [decide_eq_true rfl] at this
   exact t9 this fun _=>rfl
 have e:(List.range (min ([V.int f.1,.ref r]:List V).length ([V.int f.1,.ref r']:List V).length)).all (fun _=>true) && ([V.int f.1,.ref r]:List V).length == ([V.int f.1,.ref r']:List V).length:=by rfl
 rw [e] at h
 exact h.mono (by omega)
theorem zz {a b:Addr} {xs ys:List V} {fs:List (Int×List Int)} (ha:SqL K H a xs) (hb:SqL K H b ys) (hx:xs.length=fs.length) (hy:ys.length=fs.length) (px:∀ (j:Nat) x f,xs[j]? = some x→fs[j]? = some f→TFr K H x f) (py:∀ (j:Nat) x f,ys[j]? = some x→fs[j]? = some f→TFr K H x f):RcK K H 8 (.ref a) (.ref b) true:=by
 intro X e
 subst e
 have h:=lN (X:=X) (n:=3) (e:=fun _=>true) ha hb (hx.trans hy.symm) fun j x y ex ey=>by
  have hj:j < fs.length:=by rw [← hx];exact (List.getElem?_eq_some_iff.mp ex).1
  exact BV (px j x _ ex (List.getElem?_eq_getElem hj)) (py j y _ ey (List.getElem?_eq_getElem hj)) X rfl
 rw [show (List.range xs.length).all (fun _=>true)=true from List.all_eq_true.mpr fun _ _=>rfl] at h
 exact h.mono (by omega)
theorem wY {a b:Addr} {xs ys:List V} {fs:List (Int×List Int)} {Q:VK} (ha:SqL K H a xs) (hb:SqL K H b ys) (hx:xs.length=fs.length) (hy:ys.length=fs.length) (px:∀ (j:Nat) x f,xs[j]? = some x→fs[j]? = some f→TFr K H x f) (py:∀ (j:Nat) x f,ys[j]? = some x→fs[j]? = some f→TFr K H x f) (h:Q (.bl false) H):Bv K (.ref a) (.ref b) H Q:=⟨true,zz ha hb hx hy px py,h⟩
end
end L2
namespace L2
open PySem PySem.Spec PyProof.Rows
class PEc (X:Cx) (e:Expr) (t:outParam TE):Prop where
 out:PE X e t
class PPc (X:Cx) (pos:Pos) (ks:List (Option Expr)) (vs:List Expr) (ts:outParam (List (TE×TE))):Prop where
 out:PPs X pos ks vs ts
 all:ks.all (·.isSome)=true
 len:ks.length=vs.length
section
variable {X:Cx} {p pos:Pos}
theorem uR:PE X (.List [] pos) (CH (CC mO)):=dY (bj ae)
instance pec_str {s:Str} {j:Nat}:PEc X (.Constant (.str s) j p) (tC (.str s)):=⟨am⟩
instance pec_int {i:Int} {j:Nat}:PEc X (.Constant (.int i) j p) (tC (.int i)):=⟨af⟩
instance pec_non {j:Nat}:PEc X (.Constant .none j p) (tC .non):=⟨cc⟩
instance pec_neg {i:Int} {j:Nat} {pos:Pos}:PEc X (.UnaryOp .USub (.Constant (.int i) j p) pos) (tUn (rU fun i => .int (-i)) (tC (.int i))):=⟨lI gE af⟩
instance pec_nil:PEc X (.List [] p) (CH (CC mO)):=⟨uR⟩
instance pec_two {s:Str} {i:Int} {j k:Nat} {p1 p2:Pos} {x1}:PEc X (.Tuple [.Constant (.str s) j p1,.Constant (.int i) k p2] x1 p) (CB (kr (tC (.str s)) (kr (tC (.int i)) mO))):=⟨cH (aa am (aa af ae))⟩
instance ppc_nil:PPc X pos [] [] []:=⟨zk,rfl,rfl⟩
instance ppc_cons {k v:Expr} {ks:List (Option Expr)} {vs:List Expr} {s t:TE} {ts:List (TE×TE)} [a:PEc X k s] [b:PEc X v t] [c:PPc X pos ks vs ts]:PPc X pos (some k :: ks) (v :: vs) ((s,t) :: ts):=⟨wS a.out b.out c.out,c.all,by rw [List.length_cons,List.length_cons,c.len]⟩
theorem l8 {k:Option Expr} {ks:List (Option Expr)} {vs:List Expr} {ts:List (TE×TE)} [a:PPc X pos (k :: ks) vs ts] (h:(k :: ks).length≤15:=by exact Nat.le_of_ble_eq_true rfl):PE X (.Dict (k :: ks) vs pos) (zl ts):=zm a.out a.all a.len (List.cons_ne_nil _ _) h
end
end L2
namespace L2
open PySem
theorem aR {N P:List Str} {sc:Scope} (a:sc.kind = .function:=by rfl) (b:sc.isCoroutine=false:=by rfl) (c:sc.isGenerator=false:=by rfl) (d:N.Nodup:=by decide +kernel) (e:N.take P.length=P:=by rfl) (f:∀ x∈P,sc.names.lookup x=some .local∨sc.names.lookup x=some .cell:=by decide +kernel) (g:∀ y∈sc.names,y.2 ≠ .free:=by decide +kernel):FnScope N P sc:=⟨a,b,c,d,e,f,g⟩
end L2
namespace BB
def ar (n:Int):Nat→List Int
 | 0=>[]
 | k+1=>(n / 2 ^ k % 2) :: ar n k
theorem aO (n:Int):∀ k,(ar n k).length=k
 | 0=>rfl
 | k+1=>by simp [ar,aO n k]
theorem lc (n:Int):∀ m:Nat,(List.range m).map (fun k:Nat=>n / 2 ^ (m - 1 - k) % 2)=ar n m
 | 0=>rfl
 | m+1=>by
  rw [List.range_succ_eq_map,List.map_cons,List.map_map,ar]
  congr 1
  rw [← lc n m]
  apply List.map_congr_left
  intro k hk
  have:m+1 - 1 - (k+1)=m - 1 - k:=by lia
  show n / 2 ^ (m+1 - 1 - (k+1)) % 2=_
  rw [this]
def Bit (b:Int):Prop:=b=0∨b=1
def Bits (l:List Int):Prop:=∀ b∈l,Bit b
theorem dI (n:Int):∀ k,Bits (ar n k)
 | 0=>by intro b hb;cases hb
 | k+1=>by
  intro b hb
  rcases List.mem_cons.mp hb with rfl | hb
  ·unfold Bit;lia
  ·exact dI n k b hb
theorem Bits.nil:Bits []:=by intro b hb;cases hb
theorem Bits.cons {b:Int} {l:List Int} (h:Bit b) (t:Bits l):Bits (b :: l):=by
 intro c hc
 rcases List.mem_cons.mp hc with rfl | hc
 ·exact h
 ·exact t c hc
theorem Bits.head {b:Int} {l:List Int} (h:Bits (b :: l)):Bit b:=h b List.mem_cons_self
theorem Bits.tail {b:Int} {l:List Int} (h:Bits (b :: l)):Bits l:=fun c hc=>h c (List.mem_cons_of_mem _ hc)
theorem Bits.append {l m:List Int} (h:Bits l) (t:Bits m):Bits (l++m):=by
 intro c hc
 rcases List.mem_append.mp hc with hc | hc
 ·exact h c hc
 ·exact t c hc
theorem Bits.take {l:List Int} (h:Bits l) (n:Nat):Bits (l.take n):=fun c hc=>h c (List.mem_of_mem_take hc)
theorem Bits.drop {l:List Int} (h:Bits l) (n:Nat):Bits (l.drop n):=fun c hc=>h c (List.mem_of_mem_drop hc)
theorem Bits.zeros (n:Nat):Bits (List.replicate n 0):=fun c hc => .inl (List.eq_of_mem_replicate hc)
def x2 (a b:Int):Int:=(a+b) % 2
def gC:List Int→List Int→List Int
 | [],r=>r
 | _ :: _,[]=>[]
 | w :: ws,x :: r=>x2 x w :: gC ws r
theorem dJ (r:List Int):gC [] r=r:=by unfold gC;rfl
theorem bB (w x:Int) (ws r:List Int):gC (w :: ws) (x :: r)=x2 x w :: gC ws r:=by rw [gC]
theorem rH:∀ ws r,(gC ws r).length=r.length
 | [],r=>by rw [dJ]
 | _ :: _,[]=>by simp [gC]
 | w :: ws,x :: r=>by simp [bB,rH ws r]
def wheel:List Int:=ar 17817 15
theorem eG:wheel.length=15:=aO _ _
def dL (c:List Int) (b:Int):List Int:=
 if c.headD 0=b then c.tail++[0] else List.zipWith x2 (c.tail++[0]) wheel
theorem uS {c:List Int} (b:Int) (h:c.length=15):(dL c b).length=15:=by
 unfold dL
 split <;> simp [List.length_zipWith,eG,h]
theorem rJ:∀ a b:List Int,Bits (List.zipWith x2 a b)
 | [],_=>by simp [Bits.nil]
 | _ :: _,[]=>by simp [Bits.nil]
 | x :: a,y :: b=>by
  rw [List.zipWith_cons_cons]
  exact (show Bit (x2 x y) by unfold Bit x2;lia) |> fun h=>Bits.cons h (rJ a b)
theorem sA {c:List Int} (b:Int) (h:Bits c):Bits (dL c b):=by
 unfold dL
 split
 ·refine Bits.append (fun x hx=>h x (List.mem_of_mem_tail hx)) (Bits.cons (.inl rfl) Bits.nil)
 ·exact rJ _ _
theorem l9:∀ (bs c:List Int),c.length=15→(bs.foldl dL c).length=15
 | [],_,h=>h
 | b :: bs,c,h=>l9 bs (dL c b) (uS b h)
theorem jO:∀ (bs c:List Int),Bits c→Bits (bs.foldl dL c)
 | [],_,h=>h
 | b :: bs,c,h=>jO bs (dL c b) (sA b h)
theorem rK:∀ (ws cs r:List Int),ws.length=cs.length→gC ws (gC cs r)=gC (List.zipWith x2 cs ws) r
 | [],[],r,_=>by simp [dJ]
 | w :: ws,c :: cs,[],_=>by simp [gC]
 | w :: ws,c :: cs,x :: r,h=>by
  rw [List.zipWith_cons_cons,bB,bB,bB,rK ws cs r (by simpa using h)]
  congr 1
  unfold x2;lia
 | [],_ :: _,_,h=>by simp at h
 | _ :: _,[],_,h=>by simp at h
theorem nO:∀ (cs r:List Int),Bits r→cs.length < r.length→gC (cs++[0]) r=gC cs r
 | [],[],_,h=>by simp at h
 | [],x :: r,hb,_=>by
  show gC [0] (x :: r)=_
  rw [bB,dJ,dJ]
  congr 1
  rcases hb.head with e | e <;> subst e <;> rfl
 | c :: cs,[],_,h=>by simp at h
 | c :: cs,x :: r,hb,h=>by
  rw [List.cons_append,bB,bB,nO cs r hb.tail (by simpa using h)]
theorem wZ {c0 b:Int} {cs r:List Int} (hb:Bit b) (hc:Bit c0) (hcs:Bits cs) (hr:Bits r) (hl:cs.length=14) (hrl:15≤r.length) :
  (if x2 b c0=1 then gC wheel (gC cs r) else gC cs r)=gC (dL (c0 :: cs) b) r:=by
 have ez:gC cs r=gC (cs++[0]) r:=(nO cs r hr (by lia)).symm
 have ec:dL (c0 :: cs) b=if c0=b then cs++[0] else List.zipWith x2 (cs++[0]) wheel:=rfl
 rw [ec]
 by_cases e:c0=b
 ·subst e
  have h0:¬ x2 c0 c0=1:=by unfold x2;lia
  rw [if_neg h0,if_pos rfl]
  exact ez
 ·have h1:x2 b c0=1:=by
   unfold x2
   rcases hb with rfl | rfl <;> rcases hc with rfl | rfl <;> first | rfl | exact absurd rfl e
  rw [if_pos h1,if_neg e,ez,rK _ _ _ (by simp [eG,hl])]
theorem lg:∀ (cs:List Int),Bits cs→gC cs (List.replicate cs.length 0)=cs
 | [],_=>rfl
 | c :: cs,h=>by
  rw [List.length_cons,List.replicate_succ,bB,lg cs h.tail]
  congr 1
  rcases h.head with e | e <;> subst e <;> rfl
def zeros15:List Int:=List.replicate 15 0
def chk (bs:List Int):List Int:=bs.foldl dL zeros15
theorem b0 (bs:List Int):(chk bs).length=15:=l9 bs _ (by simp [zeros15])
theorem rL (bs:List Int):Bits (chk bs):=jO bs _ (Bits.zeros 15)
def gh (c:Nat) (b:Int):Nat:=
 if ((c / 16384:Nat):Int)=b then c * 2 % 32768 else (c * 2 % 32768) ^^^ 17817
theorem rM {c:Nat} (b:Int):gh c b < 32768:=by
 unfold gh
 have h1:c * 2 % 32768 < 2 ^ 15:=by lia
 split
 ·lia
 ·exact Nat.xor_lt_two_pow h1 (by decide)
theorem dM (n i:Nat):((n:Int) / 2 ^ i % 2)=((n.testBit i).toNat:Int):=by
 rw [Nat.toNat_testBit]
 push_cast
 rfl
theorem lh (a b:Nat):∀ k,ar ((a ^^^ b:Nat):Int) k=List.zipWith x2 (ar a k) (ar b k)
 | 0=>rfl
 | k+1=>by
  rw [ar,ar,ar,List.zipWith_cons_cons,lh a b k]
  congr 1
  rw [dM,dM,dM,Nat.testBit_xor]
  cases a.testBit k <;> cases b.testBit k <;> rfl
theorem iW (a:Nat):∀ k,ar ((a * 2:Nat):Int) (k+1)=ar a k++[0]
 | 0=>by simp [ar]
 | k+1=>by
  rw [ar,iW a k,ar,List.cons_append]
  congr 1
  rw [dM,dM,Nat.mul_comm,← Nat.pow_one 2,Nat.testBit_two_pow_mul]
  simp
theorem lj (a:Nat) (m:Nat):∀ k,k≤m→ar ((a % 2 ^ m:Nat):Int) k=ar a k
 | 0,_=>rfl
 | k+1,h=>by
  rw [ar,ar,lj a m k (by lia)]
  congr 1
  rw [dM,dM,Nat.testBit_mod_two_pow]
  simp [show k < m by lia]
theorem pN {c:Nat} (hc:c < 32768) (b:Int):ar (gh c b) 15=dL (ar c 15) b:=by
 have hs:ar ((c * 2 % 32768:Nat):Int) 15=(ar c 15).tail++[0]:=by
  have:=lj (c * 2) 15 15 (Nat.le_refl _)
  rw [show (2:Nat) ^ 15=32768 from rfl] at this
  rw [this,iW c 14]
  rfl
 have hh:(ar c 15).headD 0=((c / 16384:Nat):Int):=by
  show ((c:Int) / 2 ^ 14 % 2)=_
  lia
 unfold gh dL
 rw [hh]
 split
 ·exact hs
 ·rw [lh,hs]
  rfl
theorem uT:∀ (bs:List Int) (c:Nat),c < 32768→bs.foldl gh c < 32768
 | [],_,h=>h
 | b :: bs,c,_=>uT bs _ (rM b)
theorem rN:∀ (bs:List Int) (c:Nat),c < 32768→ar (bs.foldl gh c:Nat) 15=bs.foldl dL (ar c 15)
 | [],_,_=>rfl
 | b :: bs,c,h=>by
  rw [List.foldl_cons,List.foldl_cons,rN bs _ (rM b),pN h]
theorem zA (bs:List Int):ar (bs.foldl gh 0:Nat) 15=chk bs:=by
 rw [rN bs 0 (by decide)]
 rfl
theorem rO:∀ (ws r:List Int) (j:Nat),j < ws.length→j < r.length →
  (gC (ws.take j) r).set j (x2 ((gC (ws.take j) r).getD j 0) (ws.getD j 0))=gC (ws.take (j+1)) r
 | [],_,_,h,_=>by simp at h
 | _ :: _,[],_,_,h=>by simp at h
 | w :: ws,x :: r,0,_,_=>by
  simp [dJ,bB]
 | w :: ws,x :: r,j+1,h,h'=>by
  have ih:=rO ws r j (by simpa using h) (by simpa using h')
  simp only [List.take_succ_cons,bB,List.set_cons_succ,List.getD_cons_succ]
  rw [ih]
def fI (k j:Nat) (rest:List Int):List Int:=rest.take k++gC ((1 :: wheel).take j) (rest.drop k)
theorem sB (k:Nat) (rest:List Int):fI k 0 rest=rest:=by
 unfold fI;rw [List.take_zero,dJ,List.take_append_drop]
theorem nP (k j:Nat) (rest:List Int):(fI k j rest).length=rest.length:=by
 unfold fI
 rw [List.length_append,rH,← List.length_append,List.take_append_drop]
theorem uU (k j:Nat) (rest:List Int) (hk:k≤rest.length) (i:Nat):(fI k j rest).getD (k+i) 0=(gC ((1 :: wheel).take j) (rest.drop k)).getD i 0:=by
 unfold fI
 have:(rest.take k).length=k:=by simp [hk]
 simp [List.getD_eq_getElem?_getD,List.getElem?_append_right,this]
theorem uV (k j:Nat) (rest:List Int) (hj:j < 16) (hk:k+j < rest.length) :
  (fI k j rest).set (k+j) (((fI k j rest).getD (k+j) 0+(1 :: wheel).getD j 0) % 2)=fI k (j+1) rest:=by
 rw [uU k j rest (by lia)]
 have hl:(rest.take k).length=k:=by simp;lia
 unfold fI
 rw [List.set_append_right _ _ (by lia),hl,Nat.add_sub_cancel_left]
 congr 1
 exact rO (1 :: wheel) (rest.drop k) j (by simp [eG];lia) (by simp;lia)
theorem sC (k:Nat) (rest:List Int) (x:Int) (r:List Int) (h:rest.drop k=x :: r):(fI k 16 rest).drop (k+1)=gC wheel r:=by
 have hk:k≤rest.length:=by
  have:=congrArg List.length h
  simp at this;lia
 have hl:(rest.take k).length=k:=by simp [hk]
 unfold fI
 rw [h,List.take_of_length_le (l:=1 :: wheel) (by simp [eG]),bB]
 rw [List.drop_append,hl]
 simp [List.drop_of_length_le,hl]
def sE (k:Nat) (rest:List Int):List Int:=if rest.getD k 0=1 then fI k 16 rest else rest
structure Outer (bs:List Int) (k:Nat) (rest:List Int):Prop where
 len:rest.length=bs.length+15
 bhd:rest.drop k=gC ((bs.take k).foldl dL zeros15) (bs.drop k++zeros15)
theorem pO (bs:List Int) (hb:Bits bs):Outer bs 0 (bs++zeros15):=by
 refine ⟨by simp [zeros15],?_⟩
 simp only [List.drop_zero,List.take_zero,List.foldl_nil]
 have:∀ (m:Nat) (r:List Int),Bits r→gC (List.replicate m 0) r=r:=by
  intro m
  induction m with
  | zero=>intro r _;exact dJ r
  | succ m ih=>
   intro r hr
   cases r with
   | nil=>rfl
   | cons x r=>
    rw [List.replicate_succ,bB,ih r hr.tail]
    congr 1
    rcases hr.head with e | e <;> subst e <;> rfl
 exact (this 15 _ (hb.append (Bits.zeros 15))).symm
theorem ln {bs:List Int} (hb:Bits bs) {k:Nat} {rest:List Int} (hk:k < bs.length) (o:Outer bs k rest):Outer bs (k+1) (sE k rest):=by
 obtain ⟨hl,hd⟩:=o
 have e1:bs.drop k=bs[k] :: bs.drop (k+1):=List.drop_eq_getElem_cons hk
 have e2:(bs.take (k+1)).foldl dL zeros15=dL ((bs.take k).foldl dL zeros15) bs[k]:=by
  rw [List.take_succ_eq_append_getElem hk,List.foldl_append]
  rfl
 have hcl:=l9 (bs.take k) zeros15 (by simp [zeros15])
 have hcb:=jO (bs.take k) zeros15 (Bits.zeros 15)
 generalize (bs.take k).foldl dL zeros15=c at *
 match c,hcl,hcb with
 | [],h,_=>cases h
 | c0 :: cs,hcl,hcb=>
  rw [e1,List.cons_append,bB] at hd
  have hg:rest.getD k 0=x2 bs[k] c0:=by
   have:=congrArg (fun l=>l.getD 0 0) hd
   simpa [List.getD_eq_getElem?_getD] using this
  have hr:Bits (bs.drop (k+1)++zeros15):=(hb.drop _).append (Bits.zeros 15)
  have key:=wZ (b:=bs[k]) (c0:=c0) (cs:=cs) (r:=bs.drop (k+1)++zeros15) (hb _ (List.getElem_mem hk)) hcb.head hcb.tail hr (by simpa using hcl) (by simp [zeros15])
  refine ⟨?_,?_⟩
  ·unfold sE;split
   ·rw [nP,hl]
   ·exact hl
  ·rw [e2,← key]
   unfold sE
   rw [hg]
   split
   ·exact sC k rest _ _ hd
   ·have:rest.drop (k+1)=(rest.drop k).drop 1:=by rw [List.drop_drop]
    rw [this,hd];rfl
theorem uW {bs rest:List Int} (o:Outer bs bs.length rest):rest.drop bs.length=chk bs:=by
 have h:=o.bhd
 rw [List.take_of_length_le (Nat.le_refl _),List.drop_of_length_le (Nat.le_refl _),List.nil_append] at h
 rw [h]
 have:=lg (chk bs) (rL bs)
 rw [b0] at this
 exact this
end BB
namespace BB
def bG (l:List Int):Int:=l.foldl (fun n b=>n * 2+b) 0
theorem iA:∀ (l:List Int) (a:Int),l.foldl (fun n b=>n * 2+b) a=a * 2 ^ l.length+bG l
 | [],a=>by simp [bG]
 | b :: l,a=>by
  unfold bG
  rw [List.foldl_cons,List.foldl_cons,iA l,iA l (0 * 2+b),List.length_cons,Int.pow_succ]
  have:(2:Int) ^ l.length * 2=2 * 2 ^ l.length:=Int.mul_comm _ _
  rw [this,Int.add_mul,Int.zero_mul,Int.zero_add,← Int.mul_assoc,Int.add_assoc]
theorem iB (b:Int) (l:List Int):bG (b :: l)=b * 2 ^ l.length+bG l:=by
 show l.foldl _ (0 * 2+b)=_
 rw [iA];simp
theorem ju:∀ {l:List Int},Bits l→0≤bG l∧bG l < 2 ^ l.length
 | [],_=>by decide
 | b :: l,h=>by
  obtain ⟨h1,h2⟩:=ju h.tail
  rw [iB,List.length_cons,Int.pow_succ]
  rcases h.head with e | e <;> subst e <;> lia
theorem lu:∀ {l:List Int},Bits l→∀ m:Int,ar (m * 2 ^ l.length+bG l) l.length=l
 | [],_,_=>rfl
 | b :: l,h,m=>by
  obtain ⟨h1,h2⟩:=ju h.tail
  rw [iB,List.length_cons,ar]
  have e:m * 2 ^ (l.length+1)+(b * 2 ^ l.length+bG l)=(m * 2+b) * 2 ^ l.length+bG l:=by
   rw [Int.pow_succ,Int.add_mul,Int.mul_assoc,Int.mul_comm (2 ^ l.length) 2];lia
  rw [e,lu h.tail (m * 2+b)]
  congr 1
  have hp:(0:Int) < 2 ^ l.length:=Int.pow_pos (by decide)
  have:((m * 2+b) * 2 ^ l.length+bG l) / 2 ^ l.length=m * 2+b:=by
   rw [Int.add_comm,Int.add_mul_ediv_right _ _ (by lia),Int.ediv_eq_zero_of_lt h1 h2];lia
  rw [this]
  rcases h.head with e | e <;> subst e <;> lia
theorem eI {l:List Int} (h:Bits l):ar (bG l) l.length=l:=by
 have:=lu h 0
 simpa using this
theorem iX (n:Int):∀ k:Nat,bG (ar n k)=n % 2 ^ k
 | 0=>by simp [ar,bG]
 | k+1=>by
  rw [ar,iB,aO,iX n k,Int.pow_succ]
  have hp:(0:Int) < 2 ^ k:=Int.pow_pos (by decide)
  generalize (2:Int) ^ k=p at *
  have h1:=Int.mul_ediv_add_emod n p
  have h2:=Int.mul_ediv_add_emod (n / p) 2
  have h3:0≤n / p % 2∧n / p % 2 < 2:=by lia
  have h4:=Int.emod_nonneg n (show p≠0 by lia)
  have h5:=Int.emod_lt_of_pos n hp
  generalize n % p=r at *
  generalize n / p=q at *
  generalize he:q % 2=b at *
  generalize q / 2=c at *
  have e:n=(p * 2) * c+(b * p+r):=by
   rw [← h1,← h2]
   rw [Int.mul_add,Int.mul_assoc,Int.add_assoc]
   congr 1
   rw [Int.mul_comm p b]
  have hb:b * p+r < p * 2:=by
   have:b=0∨b=1:=by lia
   rcases this with rfl | rfl <;> lia
  have hb0:0≤b * p+r:=by
   have:b=0∨b=1:=by lia
   rcases this with rfl | rfl <;> lia
  rw [e,Int.mul_add_emod_self_left]
  exact (Int.emod_eq_of_lt hb0 hb).symm
theorem dg {n:Int} {k:Nat} (h0:0≤n) (h1:n < 2 ^ k):bG (ar n k)=n:=by
 rw [iX];exact Int.emod_eq_of_lt h0 h1
def cb (w:List Int):List Int:=w.drop (w.length - 5)
def due (w:List Int):Bool:=cb w == [0,0,0,0,0] || cb w == [1,1,1,1,1]
def aN (w:List Int) (b:Int):List Int:=if due (w++[b])=true then w++[b]++[1 - b] else w++[b]
def aT (l:List Int):List Int:=l.foldl aN []
theorem fo (l:List Int) (b:Int):aT (l++[b])=aN (aT l) b:=by
 unfold aT;rw [List.foldl_append];rfl
def rP:List Int→Nat
 | []=>0
 | [_]=>1
 | x :: y :: r=>if x=y then rP (y :: r)+1 else 1
def run (w:List Int):Nat:=rP w.reverse
theorem du (w:List Int) (b:Int):run (w++[b])=if w.getLast? = some b then run w+1 else 1:=by
 unfold run
 rw [List.reverse_append]
 show rP (b :: w.reverse)=_
 rw [← List.head?_reverse]
 cases h:w.reverse with
 | nil=>simp [rP]
 | cons y r=>
  by_cases e:b=y
  ·subst e
   rw [if_pos (show (b :: r).head? = some b from rfl)]
   simp [rP]
  ·rw [if_neg (show ¬ (y :: r).head? = some b from fun h=>e (Option.some.inj h).symm)]
   simp [rP,e]
theorem uX (w:List Int) (b:Int):1≤run (w++[b]):=by
 rw [du];split <;> lia
theorem md:∀ (n:Nat) (r:List Int) (x:Int),n+1≤rP (x :: r)↔∃ t,r=List.replicate n x++t
 | 0,r,x=>by
  constructor
  ·intro _;exact ⟨r,by simp⟩
  ·intro _
   cases r with
   | nil=>simp [rP]
   | cons y r=>simp only [rP];split <;> lia
 | n+1,[],x=>by simp [rP,List.replicate_succ]
 | n+1,y :: r,x=>by
  simp only [rP]
  by_cases e:x=y
  ·subst e
   rw [if_pos rfl,Nat.succ_le_succ_iff,md n r x]
   simp [List.replicate_succ]
  ·rw [if_neg e]
   constructor
   ·intro h;lia
   ·rintro ⟨t,h⟩
    rw [List.replicate_succ,List.cons_append] at h
    injection h with h1 _
    exact absurd h1.symm e
theorem uY (w:List Int):cb w=(w.reverse.take 5).reverse:=by
 unfold cb
 rw [List.take_reverse,List.reverse_reverse]
theorem iC {w:List Int} (h:Bits w):due w=true↔5≤run w:=by
 unfold due run
 rw [uY]
 have hb:Bits w.reverse:=fun b hb=>h b (List.mem_reverse.mp hb)
 generalize w.reverse=r at *
 simp only [Bool.or_eq_true,beq_iff_eq]
 have sym:∀ x:Int,(r.take 5).reverse=[x,x,x,x,x]↔r.take 5=[x,x,x,x,x]:=fun x=>by
  constructor
  ·intro e;have:=congrArg List.reverse e;simpa using this
  ·intro e;rw [e];rfl
 rw [sym,sym]
 cases r with
 | nil=>simp [rP]
 | cons x r=>
  rw [md 4 r x]
  constructor
  ·rintro (e | e)
   all_goals
    rw [List.take_succ_cons] at e
    injection e with e1 e2
    subst e1
    refine ⟨r.drop 4,?_⟩
    have:=List.take_append_drop 4 r
    rw [e2] at this
    exact this.symm
  ·rintro ⟨t,rfl⟩
   rcases hb.head with e | e <;> subst e
   ·exact .inl rfl
   ·exact .inr rfl
theorem ky {w:List Int} {b:Int} (h:Bits w) (hb:Bit b):Bits (aN w b):=by
 have h1:Bits (w++[b]):=h.append (Bits.cons hb Bits.nil)
 unfold aN
 split
 ·exact h1.append (Bits.cons (by rcases hb with e | e <;> subst e <;> simp [Bit]) Bits.nil)
 ·exact h1
theorem fu:∀ {l:List Int},Bits l→Bits (aT l):=by
 intro l
 suffices ∀ (l w:List Int),Bits w→Bits l→Bits (l.foldl aN w) from fun h=>this l [] Bits.nil h
 intro l
 induction l with
 | nil=>intro w h _;exact h
 | cons b l ih=>intro w h hl;exact ih _ (ky h hl.head) hl.tail
theorem me {w:List Int} {b:Int} (h:Bits w) (hb:Bit b) (hr:run w≤4):run (aN w b)≤4:=by
 have h1:Bits (w++[b]):=h.append (Bits.cons hb Bits.nil)
 unfold aN
 split
 ·rw [du,if_neg (by simp;lia)];decide
 ·rename_i hd
  have:=mt (iC h1).mpr hd
  lia
theorem bX {α:Type} (l:List α):l=[]∨∃ m b,l=m++[b]:=by
 rcases List.eq_nil_or_concat l with h | ⟨m,b,h⟩
 ·exact .inl h
 ·exact .inr ⟨m,b,by simpa using h⟩
theorem uZ {α:Type} {P:List α→Prop} (h0:P []) (h1:∀ l b,P l→P (l++[b])):∀ l,P l:=by
 intro l
 have:∀ n (l:List α),l.length=n→P l:=by
  intro n
  induction n with
  | zero=>intro l e;rw [List.length_eq_zero_iff.mp e];exact h0
  | succ n ih=>
   intro l e
   rcases bX l with rfl | ⟨m,b,rfl⟩
   ·simp at e
   ·exact h1 m b (ih m (by simpa using e))
 exact this _ l rfl
theorem Bits.left {l m:List Int} (h:Bits (l++m)):Bits l:=fun b hb=>h b (List.mem_append_left _ hb)
theorem Bits.right {l m:List Int} (h:Bits (l++m)):Bits m:=fun b hb=>h b (List.mem_append_right _ hb)
theorem nQ:∀ {l:List Int},Bits l→run (aT l)≤4:=by
 intro l
 refine uZ (P:=fun l=>Bits l→run (aT l)≤4) (fun _=>by decide) (fun l b ih h => ?_) l
 rw [fo]
 exact me (fu h.left) h.right.head (ih h.left)
theorem iY {l:List Int} (h:Bits l):due (aT l)=false:=by
 have h1:=nQ h
 have h2:=iC (fu h)
 cases e:due (aT l) with
 | false=>rfl
 | true=>have:=h2.mp e;lia
def xM (w:List Int):Prop:=4 < w.length∧(∃ x,cb w=[x,x,x,x,x])∧run w % 5=0
theorem sF {w:List Int} (h:Bits w) (hr:run w≤5) (h1:1≤run w):xM w↔due w=true:=by
 constructor
 ·rintro ⟨_,_,h3⟩
  rw [iC h];lia
 ·intro hd
  have h5:=(iC h).mp hd
  have hl:4 < w.length:=by
   unfold due at hd
   simp only [Bool.or_eq_true,beq_iff_eq] at hd
   have:(cb w).length=5:=by rcases hd with e | e <;> rw [e] <;> rfl
   unfold cb at this
   rw [List.length_drop] at this
   lia
  refine ⟨hl,?_,by lia⟩
  unfold due at hd
  simp only [Bool.or_eq_true,beq_iff_eq] at hd
  rcases hd with e | e
  ·exact ⟨_,e⟩
  ·exact ⟨_,e⟩
theorem pP {w:List Int} {b:Int} (h:Bits w) (hb:Bit b) (hr:run w≤4):xM (w++[b])↔due (w++[b])=true:=by
 refine sF (h.append (Bits.cons hb Bits.nil)) ?_ (uX w b)
 rw [du];split <;> lia
def Fe (w:List Int):Prop:=∀ k x,k+6≤w.length→(w.drop k).take 6≠[x,x,x,x,x,x]
theorem jP:∀ (l:List Int),(aT l).length≤2 * l.length:=by
 intro l
 refine uZ (P:=fun l=>(aT l).length≤2 * l.length) (by simp [aT]) (fun l b ih => ?_) l
 rw [fo]
 unfold aN
 split <;> simp <;> lia
end BB
namespace BB
def bd (row:List Int):List Int:=row.flatMap fun b=>ar b 8
def body (name:Int) (row:List Int):List Int:=[0]++ar name 11++ar (row.length:Int) 4++bd row
def aW (name:Int) (row:List Int):List Int:=body name row++chk (body name row)
def iZ (name:Int) (row:List Int):Prop:=(0≤name∧name≤2047)∧row.length≤8∧∀ b∈row,0≤b∧b≤255
theorem dN:∀ row:List Int,(bd row).length=8 * row.length
 | []=>rfl
 | b :: r=>by
  show (ar b 8++bd r).length=_
  rw [List.length_append,aO,dN r,List.length_cons];lia
theorem i3:∀ row:List Int,Bits (bd row)
 | []=>Bits.nil
 | b :: r=>(dI b 8).append (i3 r)
theorem jQ (name:Int) (row:List Int):Bits (body name row):=
 (((Bits.cons (.inl rfl) Bits.nil).append (dI _ _)).append (dI _ _)).append (i3 _)
theorem fA (name:Int) (row:List Int):(body name row).length=16+8 * row.length:=by
 unfold body;simp [aO,dN];lia
theorem dO (name:Int) (row:List Int):Bits (aW name row):=(jQ name row).append (rL _)
theorem dA (name:Int) (row:List Int):(aW name row).length=31+8 * row.length:=by
 unfold aW;rw [List.length_append,fA,b0];lia
def cnt (p:List Int):Int:=8 * p.getD 12 0+4 * p.getD 13 0+2 * p.getD 14 0+p.getD 15 0
def aU (p:List Int):Nat:=(16+8 * cnt p).toNat
structure Fits (p:List Int):Prop where
 h0:p.getD 0 0=0
 h8:cnt p≤8
 ck:aU p < p.length→p.drop (aU p)=(chk (p.take (aU p))).take (p.length - aU p)
theorem ba {p:List Int} (h:Bits p) (i:Nat):Bit (p.getD i 0):=by
 rw [List.getD_eq_getElem?_getD]
 cases e:p[i]? with
 | none=>exact .inl rfl
 | some x=>exact h x (List.mem_of_getElem? e)
theorem i4 {p:List Int} (h:Bits p):0≤cnt p:=by
 unfold cnt
 rcases ba h 12 with a | a <;> rcases ba h 13 with b | b <;> rcases ba h 14 with c | c <;> rcases ba h 15 with d | d <;> lia
theorem Fits.len {p:List Int} (f:Fits p):p.length≤aU p+15:=by
 by_cases h:aU p < p.length
 ·have:=congrArg List.length (f.ck h)
  rw [List.length_drop,List.length_take,b0] at this
  lia
 ·lia
def dB (p:List Int):List Int:=if p.length=0 then [0] else if 12 < p.length∧p.getD 12 0=1 then [0] else [0,1]
def bS (p:List Int):List Int:=
 if p.length < 16 then dB p else if p.length < aU p then [0,1] else if p.length=aU p+15 then []
 else [(chk (p.take (aU p))).getD (p.length - aU p) 0]
theorem BW {p:List Int} (h:16≤p.length):bG ((p.drop 12).take 4)=cnt p:=by
 have e:(p.drop 12).take 4=[p.getD 12 0,p.getD 13 0,p.getD 14 0,p.getD 15 0]:=by
  match p,h with
  | _ :: _ :: _ :: _ :: _ :: _ :: _ :: _ :: _ :: _ :: _ :: _ :: a :: b :: c :: d :: r,_=>rfl
 rw [e]
 unfold cnt bG
 simp only [List.foldl_cons,List.foldl_nil]
 lia
theorem be {p:List Int} {b:Int} {i:Nat} (h:i < p.length):(p++[b]).getD i 0=p.getD i 0:=by
 simp [List.getD_eq_getElem?_getD,List.getElem?_append_left h]
theorem dv {p:List Int} {b:Int}:(p++[b]).getD p.length 0=b:=by
 simp [List.getD_eq_getElem?_getD]
theorem dw {p:List Int} {i:Nat} (h:p.length≤i):p.getD i 0=0:=by
 simp [List.getD_eq_getElem?_getD,List.getElem?_eq_none h]
theorem rQ {p:List Int} {b:Int} (h:16≤p.length):cnt (p++[b])=cnt p:=by
 unfold cnt
 rw [be (by lia),be (by lia),be (by lia),be (by lia)]
theorem mf {p:List Int} {b:Int} (h:16≤p.length):aU (p++[b])=aU p:=by
 unfold aU;rw [rQ h]
theorem mh {p:List Int} (h:Bits p):16≤aU p:=by
 have:=i4 h
 unfold aU;lia
theorem jR {p:List Int} {b:Int} (hp:Bits p) (hb:Bit b) (f:Fits p) (hend:¬ (16≤p.length∧p.length=aU p+15)) :
  b∈bS p↔Fits (p++[b]):=by
 have hq:Bits (p++[b]):=hp.append (Bits.cons hb Bits.nil)
 have hbm:b∈([0,1]:List Int):=by rcases hb with e | e <;> subst e <;> simp
 unfold bS
 by_cases h16:p.length < 16
 ·rw [if_pos h16]
  have noCk:∀ (h8:cnt (p++[b])≤8),(aU (p++[b]) < (p++[b]).length→(p++[b]).drop (aU (p++[b]))=(chk ((p++[b]).take (aU (p++[b])))).take ((p++[b]).length - aU (p++[b]))):=fun _ hlt=>by
   have:=mh hq
   rw [List.length_append,List.length_singleton] at hlt
   lia
  unfold dB
  by_cases h0:p.length=0
  ·rw [if_pos h0]
   have e:p=[]:=List.length_eq_zero_iff.mp h0
   subst e
   constructor
   ·intro h
    have:b=0:=by simpa using h
    subst this
    exact ⟨rfl,by decide,noCk (by decide)⟩
   ·intro g
    have:=g.h0
    simpa using this
  ·rw [if_neg h0]
   have g0:(p++[b]).getD 0 0=0:=by rw [be (by lia)];exact f.h0
   have f8:=f.h8
   by_cases hc:12 < p.length∧p.getD 12 0=1
   ·rw [if_pos hc]
    obtain ⟨h12,h1⟩:=hc
    have c12:(p++[b]).getD 12 0=1:=by rw [be (by lia)];exact h1
    have cn:cnt (p++[b])≤8↔b=0:=by
     unfold cnt at f8 ⊢
     rw [c12]
     rw [h1] at f8
     have b13:=ba hp 13
     have b14:=ba hp 14
     have b15:=ba hp 15
     have z13:p.getD 13 0=0:=by rcases b13 with e | e <;> rcases b14 with e' | e' <;> rcases b15 with e'' | e'' <;> lia
     have z14:p.getD 14 0=0:=by rcases b14 with e' | e' <;> rcases b15 with e'' | e'' <;> lia
     have hl:p.length=13∨p.length=14∨p.length=15:=by lia
     rcases hl with hl | hl | hl
     ·have e13:(p++[b]).getD 13 0=b:=by rw [← hl];exact dv
      rw [e13,dw (by simp;lia),dw (by simp;lia)]
      rcases hb with e | e <;> subst e <;> simp
     ·have e14:(p++[b]).getD 14 0=b:=by rw [← hl];exact dv
      rw [e14,be (by lia),z13,dw (by simp;lia)]
      rcases hb with e | e <;> subst e <;> simp
     ·have e15:(p++[b]).getD 15 0=b:=by rw [← hl];exact dv
      rw [e15,be (by lia),z13,be (by lia),z14]
      rcases hb with e | e <;> subst e <;> simp
    constructor
    ·intro h
     have:b=0:=by simpa using h
     have h8:=cn.mpr this
     exact ⟨g0,h8,noCk h8⟩
    ·intro g
     have:=cn.mp g.h8
     simp [this]
   ·rw [if_neg hc]
    refine ⟨fun _ => ?_,fun _=>hbm⟩
    have h8:cnt (p++[b])≤8:=by
     unfold cnt
     by_cases h12:12 < p.length
     ·have z:p.getD 12 0=0:=by
       rcases ba hp 12 with e | e
       ·exact e
       ·exact absurd ⟨h12,e⟩ hc
      rw [be h12,z]
      rcases ba hq 13 with e | e <;> rcases ba hq 14 with e' | e' <;> rcases ba hq 15 with e'' | e'' <;> lia
     ·rw [dw (i:=13) (by simp;lia),dw (i:=14) (by simp;lia),dw (i:=15) (by simp;lia)]
      rcases ba hq 12 with e | e <;> lia
    exact ⟨g0,h8,noCk h8⟩
 ·rw [if_neg h16]
  have hge:16≤p.length:=by lia
  have ea:=mf (b:=b) hge
  have g0:(p++[b]).getD 0 0=0:=by rw [be (by lia)];exact f.h0
  have g8:cnt (p++[b])≤8:=by rw [rQ hge];exact f.h8
  by_cases hlt:p.length < aU p
  ·rw [if_pos hlt]
   refine ⟨fun _=>⟨g0,g8,fun h => ?_⟩,fun _=>hbm⟩
   rw [ea,List.length_append,List.length_singleton] at h
   lia
  ·rw [if_neg hlt,if_neg (fun e=>hend ⟨hge,e⟩)]
   have hl:=f.len
   have hl':p.length < aU p+15:=by
    rcases Nat.lt_or_ge p.length (aU p+15) with h | h
    ·exact h
    ·exact absurd ⟨hge,by lia⟩ hend
   have et:(p++[b]).take (aU p)=p.take (aU p):=List.take_append_of_le_length (by lia)
   have ed:(p++[b]).drop (aU p)=p.drop (aU p)++[b]:=List.drop_append_of_le_length (by lia)
   have ck:p.drop (aU p)=(chk (p.take (aU p))).take (p.length - aU p):=by
    by_cases h:aU p < p.length
    ·exact f.ck h
    ·have:p.length=aU p:=by lia
     rw [List.drop_of_length_le (by lia),this];simp
   have hi:p.length - aU p < (chk (p.take (aU p))).length:=by rw [b0];lia
   have key:(chk (p.take (aU p))).take (p.length+1 - aU p)=p.drop (aU p)++[(chk (p.take (aU p))).getD (p.length - aU p) 0]:=by
    rw [show p.length+1 - aU p=(p.length - aU p)+1 by lia,List.take_succ_eq_append_getElem hi,← ck]
    simp [List.getD_eq_getElem?_getD,List.getElem?_eq_getElem hi]
   constructor
   ·intro h
    have e:b=(chk (p.take (aU p))).getD (p.length - aU p) 0:=by simpa using h
    refine ⟨g0,g8,fun _ => ?_⟩
    rw [ea,et,ed,List.length_append,List.length_singleton,key,← e]
   ·intro g
    have h1:=g.ck (by rw [ea,List.length_append,List.length_singleton];lia)
    rw [ea,et,ed,List.length_append,List.length_singleton,key] at h1
    have h2:=List.append_cancel_left h1
    exact List.mem_singleton.mpr (List.head_eq_of_cons_eq h2)
theorem gO {p:List Int} (hp:Bits p):bS p=[]↔16≤p.length∧p.length=aU p+15:=by
 have:=mh hp
 unfold bS dB
 constructor
 ·intro h
  by_cases h16:p.length < 16
  ·rw [if_pos h16] at h
   split at h
   ·cases h
   ·split at h <;> cases h
  ·rw [if_neg h16] at h
   split at h
   ·cases h
   ·split at h
    ·exact ⟨by lia,by assumption⟩
    ·cases h
 ·rintro ⟨h1,h2⟩
  rw [if_neg (by lia),if_neg (by lia),if_pos h2]
def aF (w p:List Int):List Int:=if due w=true then [1 - w.getLastD 0] else bS p
def jS (s:List Int×Int×Int) (b:Int):List Int×Int×Int:=
 if s.2.1=5 then (s.1,1,b) else (s.1++[b],if s.2.2=b then s.2.1+1 else 1,b)
def LP (w:List Int):List Int×Int×Int:=w.foldl jS ([],0,2)
theorem u3 (w:List Int) (b:Int):LP (w++[b])=jS (LP w) b:=by
 unfold LP;rw [List.foldl_append];rfl
structure Rd (w p:List Int):Prop where
 bw:Bits w
 bp:Bits p
 st:aT p=if due w=true then w++[1 - w.getLastD 0] else w
 fit:Fits p
 lp:LP w=(p,(run w:Int),w.getLastD 2)
 r5:run w≤5
theorem w5:Fits []:=⟨rfl,by decide,fun h=>by simp at h⟩
theorem gP:Rd [] []:=⟨Bits.nil,Bits.nil,rfl,w5,rfl,by decide⟩
theorem bb {w:List Int} {b d:Int}:(w++[b]).getLastD d=b:=by simp
theorem Rd.d5 {w p:List Int} (r:Rd w p):due w=true↔run w=5:=by
 rw [iC r.bw];have:=r.r5;lia
theorem jv {w:List Int} {b:Int} (hb:Bit b):w.getLastD 2=b↔w.getLast? = some b:=by
 rcases bX w with rfl | ⟨m,c,rfl⟩
 ·simp;rcases hb with e | e <;> subst e <;> decide
 ·simp
def cf (w p:List Int) (b:Int):List Int:=if due w=true then p else p++[b]
theorem Rd.fin {w p:List Int} (r:Rd w p):aF w p=[]↔due w=false∧16≤p.length∧p.length=aU p+15:=by
 unfold aF
 cases e:due w with
 | true=>simp
 | false=>simp [gO r.bp]
theorem Rd.next {w p:List Int} {b:Int} (r:Rd w p) (hb:Bit b) (hc:b∈aF w p):Rd (w++[b]) (cf w p b):=by
 have hw:Bits (w++[b]):=r.bw.append (Bits.cons hb Bits.nil)
 unfold aF at hc
 unfold cf
 cases e:due w with
 | true=>
  rw [e] at hc
  simp only [if_true] at hc ⊢
  have hne:w≠[]:=by rintro rfl;cases e
  obtain ⟨m,c,rfl⟩:∃ m c,w=m++[c]:=(bX w).resolve_left hne
  have hbc:b=1 - c:=by simpa using hc
  have h5:=r.d5.mp e
  have hrun:run (m++[c]++[b])=1:=by
   rw [du,if_neg (by simp;lia)]
  have nd:due (m++[c]++[b])=false:=by
   cases z:due (m++[c]++[b]) with
   | false=>rfl
   | true=>have:=(iC hw).mp z;lia
  refine ⟨hw,r.bp,?_,r.fit,?_,by lia⟩
  ·rw [nd,r.st,e,hbc];simp
  ·rw [u3,r.lp,h5,hrun]
   simp [jS]
 | false=>
  rw [e] at hc
  simp only [Bool.false_eq_true,if_false] at hc ⊢
  have hne:¬ (16≤p.length∧p.length=aU p+15):=fun z=>by
   rw [(gO r.bp).mpr z] at hc;cases hc
  have h5:run w≠5:=fun z=>by rw [r.d5.mpr z] at e;cases e
  have hr:=r.r5
  refine ⟨hw,r.bp.append (Bits.cons hb Bits.nil),?_,(jR r.bp hb r.fit hne).mp hc,?_,?_⟩
  ·rw [fo,r.st,e]
   simp only [Bool.false_eq_true,if_false]
   unfold aN
   split <;> simp
  ·rw [u3,r.lp,du]
   unfold jS
   simp only
   rw [if_neg (by lia),bb]
   by_cases hl:w.getLast? = some b
   ·rw [if_pos hl,if_pos ((jv hb).mpr hl)];simp
   ·rw [if_neg hl,if_neg (fun z=>hl ((jv hb).mp z))];simp
  ·rw [du];split <;> lia
def Ends (w:List Int):Prop:=¬ ((LP w).1.length < 31∨(LP w).2.1=5)∧((LP w).1.length:Int)=31+8 * cnt (LP w).1
def u4 (w:List Int) (b:Int):Prop:=¬ (w≠[]∧(Ends w∨((LP w).2.1=5∧b=w.getLastD 0)))∧Fits (LP (w++[b])).1
def aL (p:List Int):Int:=bG ((p.drop 1).take 11)
def cg (p:List Int):List Int:=(List.range (cnt p).toNat).map fun j=>bG ((p.drop (16+8 * j)).take 8)
theorem lv:∀ (n:Nat) (l:List Int),Bits l→l.length=8 * n→bd ((List.range n).map fun j=>bG ((l.drop (8 * j)).take 8))=l
 | 0,l,_,h=>by
  have:l=[]:=List.length_eq_zero_iff.mp (by lia)
  subst this;rfl
 | n+1,l,hb,h=>by
  rw [List.range_succ_eq_map,List.map_cons,List.map_map]
  show ar (bG ((l.drop (8 * 0)).take 8)) 8++bd _=l
  have e1:ar (bG (l.take 8)) 8=l.take 8:=by
   have:=eI (hb.take 8)
   rwa [List.length_take,show min 8 l.length=8 by lia] at this
  have e2:=lv n (l.drop 8) (hb.drop 8) (by simp;lia)
  have e3:((fun j=>bG ((l.drop (8 * j)).take 8)) ∘ Nat.succ)=fun j=>bG (((l.drop 8).drop (8 * j)).take 8):=by
   funext j
   show bG ((l.drop (8 * (j+1))).take 8)=_
   rw [List.drop_drop,show 8+8 * j=8 * (j+1) by lia]
  rw [Nat.mul_zero,List.drop_zero,e1,e3,e2,List.take_append_drop]
theorem mi {α:Type} (l:List α) (a b:Nat) (h:a≤b):l.take b=l.take a++(l.drop a).take (b - a):=by
 have:=List.take_add (l:=l) (i:=a) (j:=b - a)
 rwa [show a+(b - a)=b by lia] at this
theorem sG {p:List Int} (hp:Bits p) (f:Fits p) (h16:16≤p.length) (hl:p.length=aU p+15) :
  aW (aL p) (cg p)=p∧iZ (aL p) (cg p):=by
 have c0:=i4 hp
 have c8:=f.h8
 have ha:aU p=16+8 * (cnt p).toNat:=by unfold aU;lia
 have hrl:(cg p).length=(cnt p).toNat:=by unfold cg;simp
 have e0:p.take 1=[0]:=by
  match p,h16,f.h0 with
  | a :: r,_,h=>
   have:a=0:=h
   subst this;rfl
 have e1:ar (aL p) 11=(p.drop 1).take 11:=by
  have:=eI ((hp.drop 1).take 11)
  rwa [List.length_take,List.length_drop,show min 11 (p.length - 1)=11 by lia] at this
 have e2:ar ((cg p).length:Int) 4=(p.drop 12).take 4:=by
  have:=eI ((hp.drop 12).take 4)
  rw [List.length_take,List.length_drop,show min 4 (p.length - 12)=4 by lia,BW h16] at this
  rw [hrl,← this]
  congr 1;lia
 have e3:bd (cg p)=(p.drop 16).take (aU p - 16):=by
  have h3:=lv (cnt p).toNat ((p.drop 16).take (aU p - 16)) ((hp.drop 16).take _) (by simp;lia)
  rw [← h3]
  congr 1
  unfold cg
  apply List.map_congr_left
  intro j hj
  have hj':j < (cnt p).toNat:=List.mem_range.mp hj
  congr 1
  rw [List.drop_take,List.drop_drop,List.take_take,show min 8 (aU p - 16 - 8 * j)=8 by lia]
 have eb:body (aL p) (cg p)=p.take (aU p):=by
  unfold body
  rw [e1,e2,e3,← e0]
  rw [mi p 16 (aU p) (by lia),mi p 12 16 (by lia),mi p 1 12 (by lia)]
 refine ⟨?_,?_,by lia,?_⟩
 ·unfold aW
  rw [eb]
  have:=f.ck (by lia)
  rw [List.take_of_length_le (by rw [b0];lia)] at this
  rw [← this,List.take_append_drop]
 ·have:=ju ((hp.drop 1).take 11)
  rw [List.length_take,List.length_drop,show min 11 (p.length - 1)=11 by lia] at this
  unfold aL
  lia
 ·intro b hb
  unfold cg at hb
  obtain ⟨j,hj,rfl⟩:=List.mem_map.mp hb
  have hj':j < (cnt p).toNat:=List.mem_range.mp hj
  have:=ju ((hp.drop (16+8 * j)).take 8)
  rw [List.length_take,List.length_drop,show min 8 (p.length - (16+8 * j))=8 by lia] at this
  lia
theorem Rd.done {w p:List Int} (r:Rd w p) (h:aF w p=[]):aT (aW (aL p) (cg p))=w∧iZ (aL p) (cg p):=by
 obtain ⟨hd,h1,h2⟩:=r.fin.mp h
 obtain ⟨e,g⟩:=sG r.bp r.fit h1 h2
 refine ⟨?_,g⟩
 rw [e,r.st,hd];rfl
theorem bY {l m:List Int} {i:Nat} (h:i < l.length):(l++m).getD i 0=l.getD i 0:=by
 simp [List.getD_eq_getElem?_getD,List.getElem?_append_left h]
theorem eJ {name:Int} {row:List Int} (g:iZ name row):cnt (aW name row)=row.length:=by
 have hl:=dA name row
 rw [← BW (by lia)]
 have:((aW name row).drop 12).take 4=ar (row.length:Int) 4:=by
  unfold aW body
  simp only [List.append_assoc]
  rw [← List.append_assoc [0],List.drop_append_of_le_length (by simp [aO]),List.drop_of_length_le (by simp [aO]),List.nil_append,
   List.take_append_of_le_length (by simp [aO]),List.take_of_length_le (by simp [aO])]
 rw [this,dg (by lia) (by have:=g.2.1;lia)]
theorem nR {name:Int} {row:List Int} (g:iZ name row):aU (aW name row)=16+8 * row.length:=by
 unfold aU;rw [eJ g];lia
theorem u5 {P:List Int} (hP:Bits P) (f:Fits P) (h16:16≤P.length):∀ k,Fits (P.take k):=by
 intro k
 by_cases hk:P.length≤k
 ·rw [List.take_of_length_le hk];exact f
 have hk':k < P.length:=by lia
 have hlen:(P.take k).length=k:=by simp;lia
 have gd:∀ i,(P.take k).getD i 0=if i < k then P.getD i 0 else 0:=fun i=>by
  by_cases h:i < k
  ·rw [if_pos h];simp [List.getD_eq_getElem?_getD,h]
  ·rw [if_neg h,dw (by lia)]
 have c0:=f.h8
 have hc:cnt (P.take k)≤cnt P:=by
  unfold cnt
  rw [gd,gd,gd,gd]
  rcases ba hP 12 with a | a <;> rcases ba hP 13 with b | b <;> rcases ba hP 14 with c | c <;> rcases ba hP 15 with d | d <;> rw [a,b,c,d] <;> (repeat' split) <;> lia
 refine ⟨?_,by lia,fun hlt => ?_⟩
 ·rw [gd];split
  ·exact f.h0
  ·rfl
 ·rw [hlen] at hlt ⊢
  have h16':=mh (hP.take k)
  have ec:cnt (P.take k)=cnt P:=by
   unfold cnt
   rw [gd,gd,gd,gd,if_pos (by lia),if_pos (by lia),if_pos (by lia),if_pos (by lia)]
  have ea:aU (P.take k)=aU P:=by unfold aU;rw [ec]
  rw [ea] at hlt ⊢
  have:=f.ck (by lia)
  rw [List.take_take,show min (aU P) k=aU P by lia,List.drop_take,this,List.take_take]
  congr 1;lia
theorem pQ {name:Int} {row:List Int} (g:iZ name row):Fits (aW name row):=by
 have ha:=nR g
 have hl:=dA name row
 refine ⟨rfl,by rw [eJ g];have:=g.2.1;lia,fun _ => ?_⟩
 rw [ha,hl]
 unfold aW
 rw [List.drop_left' (by rw [fA]),List.take_left' (by rw [fA]),List.take_of_length_le (by rw [b0];lia)]
inductive Way:List Int→List Int→List Int→List Int→Prop
 | nil (w p:List Int):Way w p [] p
 | cons {w p r q:List Int} {b:Int}:b∈aF w p→Way (w++[b]) (cf w p b) r q→Way w p (b :: r) q
theorem Way.snoc {w p r q:List Int} {b:Int} (h:Way w p r q) (hb:b∈aF (w++r) q):Way w p (r++[b]) (cf (w++r) q b):=by
 induction h with
 | nil w p=>rw [List.append_nil] at hb ⊢;exact .cons hb (.nil _ _)
 | cons h1 h2 ih=>
  rw [List.append_assoc] at ih
  exact .cons h1 (ih (by simpa using hb))
theorem Way.rd {w p r q:List Int} (h:Way w p r q) (hr:Bits r) (x:Rd w p):Rd (w++r) q:=by
 induction h with
 | nil w p=>rw [List.append_nil];exact x
 | cons h1 h2 ih=>
  have:=ih hr.tail (x.next hr.head h1)
  rwa [List.append_assoc] at this
theorem xN {P:List Int} (hP:Bits P) (f:Fits P) (h16:16≤P.length):∀ k,k≤P.length→Way [] [] (aT (P.take k)) (P.take k)∧Rd (aT (P.take k)) (P.take k)
 | 0,_=>⟨.nil _ _,gP⟩
 | k+1,hk=>by
  obtain ⟨h,r⟩:=xN hP f h16 k (by lia)
  have e:P.take (k+1)=P.take k++[P[k]]:=List.take_succ_eq_append_getElem (by lia)
  have hbit:Bit P[k]:=hP _ (List.getElem_mem _)
  have nd:=iY (hP.take k)
  have hlen:(P.take k).length=k:=by simp;lia
  have hne:¬ (16≤(P.take k).length∧(P.take k).length=aU (P.take k)+15):=by
   rintro ⟨h1,h2⟩
   have ec:cnt (P.take k)=cnt P:=by
    rw [← BW h1,← BW h16,List.drop_take,List.take_take,show min 4 (k - 12)=4 by lia]
   have ea:aU (P.take k)=aU P:=by unfold aU;rw [ec]
   have:=f.len
   rw [ea] at h2
   lia
  have hin:P[k]∈aF (aT (P.take k)) (P.take k):=by
   unfold aF
   rw [nd]
   simp only [Bool.false_eq_true,if_false]
   refine (jR (hP.take k) hbit r.fit hne).mpr ?_
   rw [← e];exact u5 hP f h16 (k+1)
  have h1:=h.snoc (b:=P[k]) (by simpa using hin)
  have r1:=r.next hbit hin
  have en:cf (aT (P.take k)) (P.take k) P[k]=P.take (k+1):=by unfold cf;rw [nd,e];rfl
  simp only [List.nil_append] at h1
  rw [en] at h1 r1
  have es:aT (P.take (k+1))=aN (aT (P.take k)) P[k]:=by rw [e,fo]
  rw [es]
  unfold aN
  by_cases hd:due (aT (P.take k)++[P[k]])=true
  ·rw [if_pos hd]
   have hin2:1 - P[k]∈aF (aT (P.take k)++[P[k]]) (P.take (k+1)):=by
    unfold aF;rw [if_pos hd];simp
   have hb2:Bit (1 - P[k]):=by rcases hbit with z | z <;> rw [z] <;> simp [Bit]
   have h2:=h1.snoc (b:=1 - P[k]) (by simpa using hin2)
   have r2:=r1.next hb2 hin2
   have en2:cf (aT (P.take k)++[P[k]]) (P.take (k+1)) (1 - P[k])=P.take (k+1):=by unfold cf;rw [if_pos hd]
   simp only [List.nil_append] at h2
   rw [en2] at h2 r2
   exact ⟨h2,r2⟩
  ·rw [if_neg hd]
   exact ⟨h1,r1⟩
theorem ly {name:Int} {row:List Int} (g:iZ name row):aL (aW name row)=name∧cg (aW name row)=row:=by
 have hc:=eJ g
 constructor
 ·unfold aL aW body
  have:((([0]++ar name 11++ar (row.length:Int) 4++bd row)++chk ([0]++ar name 11++ar (row.length:Int) 4++bd row)).drop 1).take 11=ar name 11:=by
   simp only [List.append_assoc]
   rw [List.drop_append_of_le_length (by simp),List.drop_of_length_le (by simp),List.nil_append,List.take_append_of_le_length (by simp [aO]),List.take_of_length_le (by simp [aO])]
  rw [this]
  exact dg g.1.1 (by have:=g.1.2;lia)
 ·unfold cg
  rw [hc]
  have hd:∀ (m:Nat),(aW name row).drop (16+m)=(bd row++chk (body name row)).drop m:=fun m=>by
   have e:aW name row=([0]++ar name 11++ar (row.length:Int) 4)++(bd row++chk (body name row)):=by
    unfold aW
    rw [← List.append_assoc]
    rfl
   rw [e,← List.drop_drop,List.drop_left' (by simp [aO])]
  have gen:∀ (r t:List Int),(∀ b∈r,0≤b∧b≤255)→(List.range r.length).map (fun j=>bG (((bd r++t).drop (8 * j)).take 8))=r:=by
   intro r t
   induction r with
   | nil=>intro _;rfl
   | cons b r ih=>
    intro hr
    rw [List.length_cons,List.range_succ_eq_map,List.map_cons,List.map_map]
    have e0:bd (b :: r)++t=ar b 8++(bd r++t):=by
     show (ar b 8++bd r)++t=_
     rw [List.append_assoc]
    congr 1
    ·rw [e0,Nat.mul_zero,List.drop_zero,List.take_append_of_le_length (by simp [aO]),List.take_of_length_le (by simp [aO])]
     have:=hr b List.mem_cons_self
     exact dg this.1 (by lia)
    ·have:=ih fun c hc=>hr c (List.mem_cons_of_mem _ hc)
     rw [← this]
     rw [List.length_map,List.length_range]
     apply List.map_congr_left
     intro j _
     rw [this]
     show bG (((bd (b :: r)++t).drop (8 * (j+1))).take 8)=_
     rw [e0,show 8 * (j+1)=8+8 * j by lia,← List.drop_drop,List.drop_left' (by simp [aO])]
  rw [Int.toNat_natCast]
  have:=gen row (chk (body name row)) g.2.2
  rw [← this]
  rw [List.length_map,List.length_range]
  apply List.map_congr_left
  intro j _
  rw [this,hd]
theorem nS {name:Int} {row:List Int} (g:iZ name row):Way [] [] (aT (aW name row)) (aW name row)∧aF (aT (aW name row)) (aW name row)=[]∧Rd (aT (aW name row)) (aW name row):=by
 have hl:=dA name row
 have hP:=dO name row
 obtain ⟨h,r⟩:=xN hP (pQ g) (by lia) (aW name row).length (Nat.le_refl _)
 rw [List.take_of_length_le (Nat.le_refl _)] at h r
 refine ⟨h,r.fin.mpr ⟨iY hP,by lia,?_⟩,r⟩
 rw [nR g];lia
end BB
namespace BB
inductive Md where
 | free | frame | cry | dazed | rest
 deriving DecidableEq
abbrev Fr:=Int×List Int
structure Nd where
 st:Md
 ps:Nat
 ws:List Int
 pl:List Int
 sn:Option (List Int)
 qu:List Fr
 tk:List Fr
 fc:Nat
def Nd.new:Nd:=⟨.free,0,[],[],none,[],[],0⟩
def bI (f:Fr):List Int:=aT (aW f.1 f.2)
namespace Nd
def EF (d:Nd) (s:Md):Nd:={d with st:=s,ps:=0}
def passOne (d:Nd) (k:Nat) (s:Md):Nd:=if d.ps+1=k then {d with st:=s,ps:=0} else {d with ps:=d.ps+1}
def cryOut (d:Nd):Nd:={d with st := .cry,ps:=0,fc:=d.fc+1}
def enter (d:Nd) (sn:Option (List Int)):Nd:={d with st := .frame,ps:=0,ws:=[],pl:=[],sn:=sn}
def begin (d:Nd):Nd:=if d.st = .free then (match d.qu with | []=>d | f :: _=>d.enter (some (bI f))) else d
def over (d:Nd):Bool:=decide (aF d.ws d.pl=[])
def due (d:Nd) (s:List Int):Int:=s.getD d.ws.length 0
def putFrame (d:Nd):Int:=if d.over then (if d.ps=1∧d.sn=none then 0 else 1) else (match d.sn with | none=>1 | some s=>d.due s)
def put (d:Nd):Int:=match d.st with
 | .cry=>0
 | .frame=>d.putFrame
 | _=>1
def hears (d:Nd) (b:Int):Bool:=match d.sn with
 | none=>false
 | some s => !decide (b=d.due s)
def atName (d:Nd):Bool := !BB.due d.ws && decide (1≤d.pl.length) && decide (d.pl.length < 12)
def giveWay (d:Nd) (b:Int):Nd:=if d.hears b && decide (b=0) && d.atName then {d with sn:=none} else d
def take (d:Nd) (b:Int):Nd:={d with ws:=d.ws++[b],pl:=cf d.ws d.pl b}
def hearStuffed (d:Nd) (b:Int):Nd:=if (d.giveWay b).hears b || !decide (b∈aF d.ws d.pl) then (d.giveWay b).cryOut else (d.giveWay b).take b
def wrong (d:Nd) (b:Int):Bool:=if d.ps=1 then decide (b=1) && d.sn.isSome else decide (b=0)
def dropName (n:Int) (q:List Fr):List Fr:=q.eraseIdx ((q.map (·.1)).idxOf n)
def endFrame (d:Nd):Nd:=match d.sn with
 | none=>{d with st := .rest,ps:=0,tk:=d.tk++[(aL d.pl,cg d.pl)]}
 | some _=>{d with st := .rest,ps:=0,qu:=dropName (aL d.pl) d.qu}
def hearBehind (d:Nd) (b:Int):Nd:=if d.wrong b then d.cryOut else if d.ps+1=10 then ({d with ps:=d.ps+1}:Nd).endFrame else {d with ps:=d.ps+1}
def hearFrame (d:Nd) (b:Int):Nd:=if d.over then d.hearBehind b else d.hearStuffed b
def hearDazed (d:Nd) (b:Int):Nd:=if b=0 then {d with ps:=0} else d.passOne 8 .rest
def hearBetween (d:Nd) (b:Int):Nd:=if b=0 then (d.enter none).hearFrame b else if d.st = .rest then d.passOne 3 .free else d
def hear (d:Nd) (b:Int):Nd:=match d.st with
 | .frame=>d.hearFrame b
 | .cry=>d.passOne 6 .dazed
 | .dazed=>d.hearDazed b
 | _=>d.hearBetween b
def spot (n:Int):List Fr→Nat
 | []=>0
 | f :: q=>if f.1≤n then spot n q+1 else 0
def letWait (d:Nd) (f:Fr):Nd:={d with qu:=d.qu.take (spot f.1 d.qu)++f :: d.qu.drop (spot f.1 d.qu)}
end Nd
structure NdOk (d:Nd):Prop where
 rd:Rd d.ws d.pl
 qu:∀ f∈d.qu,iZ f.1 f.2
 sn:∀ s,d.st = .frame→d.sn=some s→∃ f∈d.qu,s=bI f∧d.ws <+: s
theorem NdOk.new:NdOk Nd.new:=⟨gP,fun f h=>by simp [Nd.new] at h,fun s h=>by simp [Nd.new] at h⟩
theorem Rd.uniq {w p q:List Int} (a:Rd w p) (b:Rd w q):p=q:=by
 have h:=a.lp.symm.trans b.lp
 exact (Prod.mk.inj h).1
theorem u6 {f:Fr} (g:iZ f.1 f.2):Rd (bI f) (aW f.1 f.2)∧aF (bI f) (aW f.1 f.2)=[]:=by
 obtain ⟨_,b,c⟩:=nS g
 exact ⟨c,b⟩
theorem NdOk.more {d:Nd} (ok:NdOk d) {s:List Int} (h1:d.st = .frame) (h2:d.sn=some s) (h3:d.over=false):d.ws.length < s.length:=by
 obtain ⟨f,hf,rfl,hp⟩:=ok.sn s h1 h2
 obtain ⟨r1,r2⟩:=u6 (ok.qu f hf)
 have hl:=hp.length_le
 rcases Nat.lt_or_ge d.ws.length (bI f).length with z | z
 ·exact z
 ·have e:d.ws=bI f:=hp.eq_of_length (by lia)
  have r3:=ok.rd
  rw [e] at r3
  have e2:=r3.uniq r1
  unfold Nd.over at h3
  rw [e,e2] at h3
  exact absurd r2 (of_decide_eq_false h3)
theorem u7 {w p q:List Int} {b:Int}:∀ {r t:List Int},Way w p (r++b :: t) q→∃ p',Way w p r p'∧b∈aF (w++r) p':=by
 intro r
 induction r generalizing w p with
 | nil=>
  intro t h
  cases h with
  | cons h1 h2=>exact ⟨p,.nil _ _,by rw [List.append_nil];exact h1⟩
 | cons a r ih=>
  intro t h
  cases h with
  | cons h1 h2=>
   obtain ⟨p',a1,a2⟩:=ih h2
   exact ⟨p',.cons h1 a1,by simpa using a2⟩
theorem u8 {f:Fr} (g:iZ f.1 f.2) {w p:List Int} (r:Rd w p) {b:Int} (h:w++[b] <+: bI f):b∈aF w p:=by
 obtain ⟨t,ht⟩:=h
 obtain ⟨a,_,_⟩:=nS g
 have a':Way [] [] (w++b :: t) (aW f.1 f.2):=by
  have:w++b :: t=bI f:=by rw [← ht];simp
  rw [this]
  exact a
 obtain ⟨p',w1,w2⟩:=u7 a'
 have r2:=w1.rd r.bw gP
 rw [List.nil_append] at r2 w2
 rw [r.uniq r2]
 exact w2
theorem jT {w s:List Int} (h:w <+: s) (hl:w.length < s.length):w++[s.getD w.length 0] <+: s:=by
 obtain ⟨t,rfl⟩:=h
 cases t with
 | nil=>simp at hl
 | cons b t=>
  refine ⟨t,?_⟩
  have:(w++b :: t).getD w.length 0=b:=by simp [List.getD_eq_getElem?_getD]
  rw [this]
  simp
theorem NdOk.over_eq {d:Nd} (ok:NdOk d) {f:Fr} (hf:f∈d.qu) (hp:d.ws <+: bI f) (h:d.over=true):d.ws=bI f∧d.pl=aW f.1 f.2:=by
 have g:=ok.qu f hf
 have e:d.ws=bI f:=by
  rcases Nat.lt_or_ge d.ws.length (bI f).length with z | z
  ·have h2:=u8 g ok.rd (jT hp z)
   unfold Nd.over at h
   rw [of_decide_eq_true h] at h2
   cases h2
  ·exact hp.eq_of_length (by have:=hp.length_le;lia)
 have r3:=ok.rd
 rw [e] at r3
 exact ⟨e,r3.uniq (u6 g).1⟩
theorem NdOk.ps {d:Nd} (ok:NdOk d) (k:Nat):NdOk {d with ps:=k}:=⟨ok.rd,ok.qu,ok.sn⟩
theorem NdOk.enter0 {d:Nd} (ok:NdOk d):NdOk (d.enter none):=⟨gP,ok.qu,fun _ _ z=>by simp [Nd.enter] at z⟩
theorem NdOk.begin {d:Nd} (ok:NdOk d):NdOk d.begin:=by
 unfold Nd.begin
 split
 ·split
  ·exact ok
  ·rename_i f q e
   refine ⟨gP,ok.qu,fun s _ z => ?_⟩
   have:s=bI f:=(Option.some.inj z).symm
   subst this
   exact ⟨f,by show f∈d.qu;rw [e];exact List.mem_cons_self,rfl,List.nil_prefix⟩
 ·exact ok
theorem NdOk.passOne {d:Nd} (ok:NdOk d) (k:Nat) (s:Md) (h:s ≠ .frame):NdOk (d.passOne k s):=by
 unfold Nd.passOne
 split
 ·exact ⟨ok.rd,ok.qu,fun _ z=>absurd z h⟩
 ·exact ok.ps _
theorem NdOk.cryOut {d:Nd} (ok:NdOk d):NdOk d.cryOut:=⟨ok.rd,ok.qu,fun _ z=>by simp [Nd.cryOut] at z⟩
theorem NdOk.giveWay {d:Nd} (ok:NdOk d) (b:Int):NdOk (d.giveWay b):=by
 unfold Nd.giveWay
 split
 ·exact ⟨ok.rd,ok.qu,fun _ _ z=>by simp at z⟩
 ·exact ok
theorem cY (d:Nd) (b:Int):(d.giveWay b).ws=d.ws∧(d.giveWay b).pl=d.pl∧(d.giveWay b).qu=d.qu∧(d.giveWay b).st=d.st∧(d.giveWay b).tk=d.tk∧(d.giveWay b).fc=d.fc∧(d.giveWay b).ps=d.ps:=by
 unfold Nd.giveWay
 split <;> exact ⟨rfl,rfl,rfl,rfl,rfl,rfl,rfl⟩
theorem NdOk.hearStuffed {d:Nd} (ok:NdOk d) {b:Int} (hb:Bit b) (hf:d.st = .frame) (ho:d.over=false):NdOk (d.hearStuffed b):=by
 unfold Nd.hearStuffed
 have ok':=ok.giveWay b
 obtain ⟨e1,e2,e3,e4,_⟩:=cY d b
 split
 ·exact ok'.cryOut
 ·rename_i h
  have h':(d.giveWay b).hears b=false∧b∈aF d.ws d.pl:=by
   simp only [Bool.or_eq_true,Bool.not_eq_true',decide_eq_false_iff_not,not_or,Classical.not_not,Bool.not_eq_true] at h
   exact h
  refine ⟨?_,ok'.qu,fun s z1 z2 => ?_⟩
  ·show Rd ((d.giveWay b).ws++[b]) (cf (d.giveWay b).ws (d.giveWay b).pl b)
   rw [e1,e2]
   exact ok.rd.next hb h'.2
  ·have z2':(d.giveWay b).sn=some s:=z2
   obtain ⟨f,hf1,rfl,hp⟩:=ok'.sn s (by rw [e4];exact hf) z2'
   refine ⟨f,hf1,rfl,?_⟩
   have hd:b=(d.giveWay b).due (bI f):=by
    have:=h'.1
    unfold Nd.hears at this
    rw [z2'] at this
    simpa using this
   have hl:(d.giveWay b).ws.length < (bI f).length:=ok'.more (by rw [e4];exact hf) z2' (by unfold Nd.over;rw [e1,e2];exact ho)
   show (d.giveWay b).ws++[b] <+: bI f
   have:=jT hp hl
   unfold Nd.due at hd
   rw [← hd] at this
   exact this
theorem nT {n:Int} {q:List Fr} {f:Fr} (h:f∈Nd.dropName n q):f∈q:=List.mem_of_mem_eraseIdx h
theorem NdOk.endFrame {d:Nd} (ok:NdOk d):NdOk d.endFrame:=by
 unfold Nd.endFrame
 split
 ·exact ⟨ok.rd,ok.qu,fun _ z=>by simp at z⟩
 ·exact ⟨ok.rd,fun f hf=>ok.qu f (nT hf),fun _ z=>by simp at z⟩
theorem NdOk.hearBehind {d:Nd} (ok:NdOk d) (b:Int):NdOk (d.hearBehind b):=by
 unfold Nd.hearBehind
 split
 ·exact ok.cryOut
 ·split
  ·exact (ok.ps _).endFrame
  ·exact ok.ps _
theorem NdOk.hearFrame {d:Nd} (ok:NdOk d) {b:Int} (hb:Bit b) (hf:d.st = .frame):NdOk (d.hearFrame b):=by
 unfold Nd.hearFrame
 split
 ·exact ok.hearBehind b
 ·rename_i h
  exact ok.hearStuffed hb hf (Bool.eq_false_iff.mpr h)
theorem NdOk.hear {d:Nd} (ok:NdOk d) {b:Int} (hb:Bit b):NdOk (d.hear b):=by
 unfold Nd.hear
 split
 ·rename_i h;exact ok.hearFrame hb h
 ·exact ok.passOne _ _ (by decide)
 ·unfold Nd.hearDazed
  split
  ·exact ok.ps 0
  ·exact ok.passOne _ _ (by decide)
 all_goals
  unfold Nd.hearBetween
  split
  ·exact ok.enter0.hearFrame hb rfl
  ·split
   ·exact ok.passOne _ _ (by decide)
   ·exact ok
theorem pR (n:Int):∀ q:List Fr,Nd.spot n q≤q.length
 | []=>Nat.le_refl _
 | f :: q=>by
  unfold Nd.spot
  split
  ·have:=pR n q
   rw [List.length_cons];lia
  ·exact Nat.zero_le _
theorem NdOk.letWait {d:Nd} (ok:NdOk d) {f:Fr} (g:iZ f.1 f.2):NdOk (d.letWait f):=by
 have hm:∀ x,x∈d.qu→x∈(d.letWait f).qu:=fun x hx=>by
  unfold Nd.letWait
  rw [List.mem_append,List.mem_cons]
  rw [← List.take_append_drop (Nd.spot f.1 d.qu) d.qu] at hx
  rcases List.mem_append.mp hx with z | z
  ·exact .inl z
  ·exact .inr (.inr z)
 refine ⟨ok.rd,fun x hx => ?_,fun s h1 h2 => ?_⟩
 ·unfold Nd.letWait at hx
  rw [List.mem_append,List.mem_cons] at hx
  rcases hx with z | rfl | z
  ·exact ok.qu x (List.mem_of_mem_take z)
  ·exact g
  ·exact ok.qu x (List.mem_of_mem_drop z)
 ·obtain ⟨x,a,b,e⟩:=ok.sn s h1 h2
  exact ⟨x,hm x a,b,e⟩
end BB
namespace BB
theorem va (f:Fr):Bits (bI f):=fu (dO _ _)
theorem NdOk.put_bit {d:Nd} (ok:NdOk d):Bit d.put:=by
 unfold Nd.put
 split
 ·exact .inl rfl
 ·rename_i hst
  unfold Nd.putFrame
  split
  ·split
   ·exact .inl rfl
   ·exact .inr rfl
  ·split
   ·exact .inr rfl
   ·rename_i s hs
    obtain ⟨f,hf,rfl,hp⟩:=ok.sn s hst hs
    exact ba (va f) _
 ·exact .inr rfl
def iD (ds:List Nd):Int:=if 0∈ds.map Nd.put then 0 else 1
def bq (ds:List Nd) (flip:Int):Int:=if flip=1 then 1 - iD (ds.map Nd.begin) else iD (ds.map Nd.begin)
def bn (ds:List Nd) (flip:Int):List Nd:=(ds.map Nd.begin).map fun d=>d.hear (bq ds flip)
def ci:List Nd→List Int→List Int
 | _,[]=>[]
 | ds,f :: fs=>bq ds f :: ci (bn ds f) fs
def dh:List Nd→List Int→List Nd
 | ds,[]=>ds
 | ds,f :: fs=>dh (bn ds f) fs
theorem pS (ds:List Nd):Bit (iD ds):=by
 unfold iD
 split
 ·exact .inl rfl
 ·exact .inr rfl
theorem dP (ds:List Nd) (flip:Int):Bit (bq ds flip):=by
 unfold bq
 have:=pS (ds.map Nd.begin)
 split
 ·rcases this with h | h <;> rw [h]
  ·exact .inr rfl
  ·exact .inl rfl
 ·exact this
def AllOk (ds:List Nd):Prop:=∀ d∈ds,NdOk d
theorem AllOk.step {ds:List Nd} (h:AllOk ds) (flip:Int):AllOk (bn ds flip):=by
 intro d hd
 unfold bn at hd
 rw [List.map_map] at hd
 obtain ⟨e,he,rfl⟩:=List.mem_map.mp hd
 exact (h e he).begin.hear (dP _ _)
theorem pT (ds:List Nd) (fs:List Int) (f:Int):dh ds (fs++[f])=bn (dh ds fs) f:=by
 induction fs generalizing ds with
 | nil=>rfl
 | cons g fs ih=>exact ih (bn ds g)
theorem nU (ds:List Nd) (fs:List Int) (f:Int):ci ds (fs++[f])=ci ds fs++[bq (dh ds fs) f]:=by
 induction fs generalizing ds with
 | nil=>rfl
 | cons g fs ih=>exact congrArg _ (ih (bn ds g))
theorem AllOk.run {ds:List Nd} (h:AllOk ds) (fs:List Int):AllOk (dh ds fs):=by
 induction fs generalizing ds with
 | nil=>exact h
 | cons g fs ih=>exact ih (h.step g)
theorem cZ (d:Nd):d.begin.qu=d.qu∧d.begin.tk=d.tk:=by
 unfold Nd.begin
 split
 ·split <;> exact ⟨rfl,rfl⟩
 ·exact ⟨rfl,rfl⟩
theorem bT (d:Nd) (k:Nat) (s:Md):(d.passOne k s).qu=d.qu∧(d.passOne k s).tk=d.tk:=by
 unfold Nd.passOne
 split <;> exact ⟨rfl,rfl⟩
theorem pU (n:Int) (q:List Fr):(Nd.dropName n q).length≤q.length:=by
 unfold Nd.dropName
 exact List.length_eraseIdx_le _ _
theorem fZ (d:Nd) (b:Int):(d.hearFrame b).qu.length≤d.qu.length∧(d.hearFrame b).tk.length≤d.tk.length+1:=by
 unfold Nd.hearFrame
 split
 ·unfold Nd.hearBehind
  split
  ·exact ⟨Nat.le_refl _,Nat.le_succ _⟩
  ·split
   ·unfold Nd.endFrame
    split
    ·exact ⟨Nat.le_refl _,by simp⟩
    ·exact ⟨pU _ _,Nat.le_succ _⟩
   ·exact ⟨Nat.le_refl _,Nat.le_succ _⟩
 ·unfold Nd.hearStuffed
  obtain ⟨_,_,e3,_,e5,_⟩:=cY d b
  split
  ·show (d.giveWay b).qu.length≤_∧(d.giveWay b).tk.length≤_
   rw [e3,e5];exact ⟨Nat.le_refl _,Nat.le_succ _⟩
  ·show (d.giveWay b).qu.length≤_∧(d.giveWay b).tk.length≤_
   rw [e3,e5];exact ⟨Nat.le_refl _,Nat.le_succ _⟩
theorem vb (d:Nd) (b:Int):(d.hear b).qu.length≤d.qu.length∧(d.hear b).tk.length≤d.tk.length+1:=by
 unfold Nd.hear
 split
 ·exact fZ d b
 ·obtain ⟨e1,e2⟩:=bT d 6 .dazed
  rw [e1,e2];exact ⟨Nat.le_refl _,Nat.le_succ _⟩
 ·unfold Nd.hearDazed
  split
  ·exact ⟨Nat.le_refl _,Nat.le_succ _⟩
  ·obtain ⟨e1,e2⟩:=bT d 8 .rest
   rw [e1,e2];exact ⟨Nat.le_refl _,Nat.le_succ _⟩
 all_goals
  unfold Nd.hearBetween
  split
  ·exact fZ (d.enter none) b
  ·split
   ·obtain ⟨e1,e2⟩:=bT d 3 .free
    rw [e1,e2];exact ⟨Nat.le_refl _,Nat.le_succ _⟩
   ·exact ⟨Nat.le_refl _,Nat.le_succ _⟩
def Few (q t:Nat) (ds:List Nd):Prop:=∀ d∈ds,d.qu.length≤q∧d.tk.length≤t
theorem Few.step {q t:Nat} {ds:List Nd} (h:Few q t ds) (flip:Int):Few q (t+1) (bn ds flip):=by
 intro d hd
 unfold bn at hd
 rw [List.map_map] at hd
 obtain ⟨e,he,rfl⟩:=List.mem_map.mp hd
 obtain ⟨a,b⟩:=h e he
 obtain ⟨c1,c2⟩:=cZ e
 obtain ⟨d1,d2⟩:=vb e.begin (bq ds flip)
 rw [c1] at d1
 rw [c2] at d2
 exact ⟨by show (e.begin.hear _).qu.length≤_;lia,by show (e.begin.hear _).tk.length≤_;lia⟩
theorem Few.run {q t:Nat} {ds:List Nd} (h:Few q t ds) (fs:List Int):Few q (t+fs.length) (dh ds fs):=by
 induction fs generalizing ds t with
 | nil=>exact h
 | cons g fs ih=>
  have:=ih (h.step g)
  rw [List.length_cons,show t+(fs.length+1)=t+1+fs.length by lia]
  exact this
theorem Few.mono {q q' t t':Nat} {ds:List Nd} (h:Few q t ds) (a:q≤q') (b:t≤t'):Few q' t' ds:=fun d hd=>⟨Nat.le_trans (h d hd).1 a,Nat.le_trans (h d hd).2 b⟩
end BB
namespace BB
def EG (w:List Int) (r:Int):Prop:=
 (∃ (k:Nat) (b:Int),w[k]? = some b∧(∀ j c,j < k→w[j]? = some c→u4 (w.take j) c)∧¬ u4 (w.take k) b∧r=k) ∨
 ((∀ j c,w[j]? = some c→u4 (w.take j) c)∧((w≠[]∧Ends w∧r = -1)∨(¬ (w≠[]∧Ends w)∧r=w.length)))
theorem BX:∀ (l:List Int) (s:List Int×Int×Int),s.1≠[]→(l.foldl jS s).1≠[]
 | [],_,h=>h
 | b :: l,s,h=>by
  rw [List.foldl_cons]
  refine BX l _ ?_
  unfold jS
  split
  ·exact h
  ·simp
theorem BY {w:List Int} (h:w≠[]):(LP w).1≠[]:=by
 cases w with
 | nil=>exact absurd rfl h
 | cons b l=>exact BX l _ (by unfold jS;rw [if_neg (by decide)];simp)
def vc (p:List Int) (i:Nat):Int:=(List.range i).foldl (fun a j=>2 * a+p.getD (12+j) 0) 0
theorem c9 (p:List Int) (i:Nat):vc p (i+1)=2 * vc p i+p.getD (12+i) 0:=by
 unfold vc
 rw [List.range_succ,List.foldl_append]
 rfl
theorem vd (p:List Int):vc p 4=cnt p:=by
 rw [c9,c9,c9,c9]
 show 2 * (2 * (2 * (2 * 0+p.getD 12 0)+p.getD 13 0)+p.getD 14 0)+p.getD 15 0=_
 unfold cnt
 lia
end BB
namespace BB
structure Ln where
 waits:List Fr
 heard:List Fr
 faults:Int
 mode:Md
 left:Int
 plain:List Int
 like:Int
 last:Int
 many:Nat
 check:List Int
 tail:Int
 sends:Option (List Int)
 put:Int
namespace Ln
def new:Ln:=⟨[],[],0,.free,0,[],0,2,0,[],-1,none,1⟩
def start (n:Ln):Ln:={n with mode := .frame,plain:=[],like:=0,last:=2,many:=0,tail := -1,sends:=none}
def puts (n:Ln):Ln:=match n.mode with
 | .cry=>{n with put:=0}
 | .free=>(match n.waits with
  | []=>{n with put:=1}
  | f :: _=>{n.start with sends:=some (bI f),put:=0})
 | .frame=>if n.tail < 0 then (match n.sends with
   | none=>{n with put:=1}
   | some s=>{n with put:=s.getD n.many 0})
  else if n.tail=1∧n.sends=none then {n with put:=0} else {n with put:=1}
 | _=>{n with put:=1}
def cries (n:Ln):Ln:={n with faults:=n.faults+1,mode := .cry,left:=6,sends:=none}
def bodyOf (p:List Int):Int:=16+8 * cnt p
def laid (n:Ln):Ln:=if n.plain.getD 0 0≠0∨bodyOf n.plain > 80 then n else if (n.plain.length:Int)=bodyOf n.plain then {n with check:=chk n.plain} else n
def fits (n:Ln):Bool:=if n.plain.getD 0 0≠0∨bodyOf n.plain > 80 then false
 else decide ((n.plain.length:Int)≤bodyOf n.plain) || decide (n.plain.getLastD 0=n.laid.check.getD ((n.plain.length:Int) - bodyOf n.plain - 1).toNat 0)
def meets (n:Ln) (b:Int):Option Ln:=match n.sends with
 | none=>some n
 | some _=>if b=n.put then some n else if b=1∨¬ (1≤n.plain.length∧n.plain.length≤11)∨n.like=5 then none else some {n with sends:=none}
def takes (n:Ln) (b:Int):Ln:=if n.like=5 then {n with like:=1,last:=b,many:=n.many+1}
 else {n with like:=if b=n.last then n.like+1 else 1,plain:=n.plain++[b],last:=b,many:=n.many+1}
def frameBit (n:Ln) (b:Int):Ln:=match n.meets b with
 | none=>n.cries
 | some m=>if m.like=5∧b=m.last then (m.takes b).cries
  else if (m.takes b).fits=false then (m.takes b).laid.cries
  else if ((m.takes b).laid.plain.length:Int)=bodyOf (m.takes b).laid.plain+15∧(m.takes b).laid.like < 5 then {(m.takes b).laid with tail:=0} else (m.takes b).laid
def ends (n:Ln):Ln:=match n.sends with
 | none=>{n with heard:=n.heard++[(aL n.plain,cg n.plain)],sends:=none,mode := .rest,left:=3}
 | some _=>{n with waits:=n.waits.eraseIdx ((n.waits.map (·.1)).idxOf (aL n.plain)),sends:=none,mode := .rest,left:=3}
def tailBit (n:Ln) (b:Int):Ln:=if (b=0∧n.tail≠1)∨(b=1∧n.tail=1∧n.sends≠none) then ({n with tail:=n.tail+1}:Ln).cries
 else if n.tail=9 then ({n with tail:=n.tail+1}:Ln).ends else {n with tail:=n.tail+1}
def after:Md→Md×Int
 | .cry=>(.dazed,8)
 | .dazed=>(.rest,3)
 | .rest=>(.free,0)
 | m=>(m,0)
def inFrame (n:Ln) (b:Int):Ln:=if n.tail < 0 then n.frameBit b else n.tailBit b
def counts (n:Ln) (b:Int):Ln:=if n.mode = .dazed∧b=0 then {n with left:=8} else if n.left - 1=0 then {n with mode:=(after n.mode).1,left:=(after n.mode).2} else {n with left:=n.left - 1}
def hears (n:Ln) (b:Int):Ln:=if (n.mode = .free∨n.mode = .rest)∧b=0 then n.start.inFrame b
 else match n.mode with
 | .frame=>n.inFrame b
 | .free=>n
 | _=>n.counts b
end Ln
structure FrSim (d:Nd) (n:Ln):Prop where
 plain:n.plain=d.pl
 like:n.like=(BB.run d.ws:Int)
 last:n.last=d.ws.getLastD 2
 many:n.many=d.ws.length
 sends:n.sends=d.sn
 tail:n.tail=if d.over then (d.ps:Int) else -1
 check:aU d.pl≤d.pl.length→n.check=chk (d.pl.take (aU d.pl))
 zero:d.over=false→d.ps=0
structure Sim (d:Nd) (n:Ln):Prop where
 mode:n.mode=d.st
 waits:n.waits=d.qu
 heard:n.heard=d.tk
 faults:n.faults=(d.fc:Int)
 cry:d.st = .cry→n.left=6 - (d.ps:Int)
 dazed:d.st = .dazed→n.left=8 - (d.ps:Int)
 rest:d.st = .rest→n.left=3 - (d.ps:Int)
 fr:d.st = .frame→FrSim d n
theorem Sim.new:Sim Nd.new Ln.new:=⟨rfl,rfl,rfl,rfl,fun h=>(by cases h),fun h=>(by cases h),fun h=>(by cases h),fun h=>(by cases h)⟩
theorem DT (f:Fr):(bI f).getD 0 0=0:=by
 unfold bI
 have:∀ (l:List Int) (w:List Int),w≠[]→(l.foldl aN w).getD 0 0=w.getD 0 0∧l.foldl aN w≠[]:=by
  intro l
  induction l with
  | nil=>intro w h;exact ⟨rfl,h⟩
  | cons b l ih=>
   intro w h
   have h1:aN w b≠[]:=by unfold aN;split <;> simp
   have h2:(aN w b).getD 0 0=w.getD 0 0:=by
    have hl:0 < w.length:=List.length_pos_iff.mpr h
    unfold aN
    split
    ·rw [List.append_assoc,bY hl]
    ·rw [bY hl]
   obtain ⟨a,c⟩:=ih _ h1
   exact ⟨a.trans h2,c⟩
 unfold aT aW body
 simp only [List.append_assoc,List.singleton_append,List.cons_append,List.foldl_cons]
 have e:aN [] 0=[0]:=by decide
 rw [e]
 exact (this _ [0] (by simp)).1
theorem iE (d:Nd) (s:Option (List Int)):(d.enter s).over=false:=by
 show decide (aF [] []=[])=false
 decide
theorem jU (d:Nd) (n:Ln) (s:Option (List Int)) (k:Int):FrSim (d.enter s) {n.start with sends:=s,put:=k}:=by
 refine ⟨rfl,rfl,rfl,rfl,rfl,?_,fun h => ?_,fun _=>rfl⟩
 ·rw [iE];rfl
 ·exact absurd h (by show ¬ 16≤0;decide)
theorem Sim.setPut {d:Nd} {n:Ln} (h:Sim d n) (k:Int):Sim d {n with put:=k}:=
 ⟨h.mode,h.waits,h.heard,h.faults,h.cry,h.dazed,h.rest,fun z=>⟨(h.fr z).plain,(h.fr z).like,(h.fr z).last,(h.fr z).many,(h.fr z).sends,(h.fr z).tail,(h.fr z).check,(h.fr z).zero⟩⟩
theorem rR {n:Ln} (h:n.mode = .cry):n.puts={n with put:=0}:=by
 obtain ⟨_,_,_,m,_,_,_,_,_,_,_,_,_⟩:=n;cases h;rfl
theorem lz {n:Ln} (h:n.mode = .dazed):n.puts={n with put:=1}:=by
 obtain ⟨_,_,_,m,_,_,_,_,_,_,_,_,_⟩:=n;cases h;rfl
theorem nV {n:Ln} (h:n.mode = .rest):n.puts={n with put:=1}:=by
 obtain ⟨_,_,_,m,_,_,_,_,_,_,_,_,_⟩:=n;cases h;rfl
theorem lA {n:Ln} (h:n.mode = .free) (w:n.waits=[]):n.puts={n with put:=1}:=by
 obtain ⟨_,_,_,m,_,_,_,_,_,_,_,_,_⟩:=n;cases h;cases w;rfl
theorem lB {n:Ln} {f:Fr} {q:List Fr} (h:n.mode = .free) (w:n.waits=f :: q):n.puts={n.start with sends:=some (bI f),put:=0}:=by
 obtain ⟨_,_,_,m,_,_,_,_,_,_,_,_,_⟩:=n;cases h;cases w;rfl
theorem lC {n:Ln} (h:n.mode = .frame):n.puts={n with put:=if n.tail < 0 then (match n.sends with | none=>1 | some s=>s.getD n.many 0) else if n.tail=1∧n.sends=none then 0 else 1}:=by
 obtain ⟨_,_,_,m,_,_,_,_,_,_,_,sn,_⟩:=n
 cases h
 unfold Ln.puts
 dsimp only
 split
 ·cases sn <;> rfl
 ·split <;> rfl
theorem Sim.puts {d:Nd} {n:Ln} (h:Sim d n):Sim d.begin n.puts∧n.puts.put=d.begin.put:=by
 have hm:=h.mode
 unfold Nd.begin
 cases hst:d.st with
 | cry=>
  rw [hst] at hm
  rw [if_neg (by decide),rR hm]
  exact ⟨h.setPut 0,by unfold Nd.put;rw [hst]⟩
 | dazed=>
  rw [hst] at hm
  rw [if_neg (by decide),lz hm]
  exact ⟨h.setPut 1,by unfold Nd.put;rw [hst]⟩
 | rest=>
  rw [hst] at hm
  rw [if_neg (by decide),nV hm]
  exact ⟨h.setPut 1,by unfold Nd.put;rw [hst]⟩
 | free=>
  rw [hst] at hm
  rw [if_pos rfl]
  have hw:=h.waits
  cases hq:d.qu with
  | nil=>
   rw [hq] at hw
   rw [lA hm hw]
   exact ⟨h.setPut 1,by show (1:Int)=d.put;unfold Nd.put;rw [hst]⟩
  | cons f q=>
   rw [hq] at hw
   rw [lB hm hw]
   refine ⟨⟨rfl,h.waits,h.heard,h.faults,fun z=>(by cases z),fun z=>(by cases z),fun z=>(by cases z),fun _=>jU d n (some (bI f)) 0⟩,?_⟩
   show (0:Int)=(d.enter (some (bI f))).putFrame
   unfold Nd.putFrame
   rw [iE]
   exact (DT f).symm
 | frame=>
  rw [hst] at hm
  rw [if_neg (by decide),lC hm]
  have fs:=h.fr hst
  refine ⟨h.setPut _,?_⟩
  have pe:d.put=d.putFrame:=by unfold Nd.put;rw [hst]
  rw [pe]
  unfold Nd.putFrame
  have ht:=fs.tail
  dsimp only
  rw [fs.sends]
  cases ho:d.over with
  | false=>
   rw [ho] at ht
   have ht:n.tail = -1:=ht
   rw [if_pos (by lia)]
   cases hs':d.sn with
   | none=>rfl
   | some s=>show s.getD n.many 0=s.getD d.ws.length 0;rw [fs.many]
  | true=>
   rw [ho] at ht
   have ht:n.tail=(d.ps:Int):=ht
   rw [if_neg (by lia)]
   by_cases hc:d.ps=1∧d.sn=none
   ·rw [if_pos (show n.tail=1∧d.sn=none from ⟨by lia,hc.2⟩)]
    exact (if_pos hc).symm
   ·rw [if_neg (show ¬ (n.tail=1∧d.sn=none) from fun z=>hc ⟨by lia,z.2⟩)]
    exact (if_neg hc).symm
end BB
namespace BB
theorem gi {p:List Int} (hp:Bits p):(aU p:Int)=Ln.bodyOf p:=by
 have:=i4 hp
 unfold aU Ln.bodyOf
 lia
theorem nW {c:List Int} {k:Nat} (h:k < c.length):c.take (k+1)=c.take k++[c.getD k 0]:=by
 rw [List.take_succ_eq_append_getElem h]
 simp [List.getD_eq_getElem?_getD,h]
theorem w6 {p:List Int} {b:Int} (hp:Bits p) (hb:Bit b) (f:Fits p) (hend:¬ (16≤p.length∧p.length=aU p+15)) {n:Ln} (hn:n.plain=p++[b]) (hc:aU p≤p.length→n.check=chk (p.take (aU p))) :
  n.fits=true↔Fits (p++[b]):=by
 have hq:Bits (p++[b]):=hp.append (Bits.cons hb Bits.nil)
 have ha:=gi hq
 have h16:=mh hq
 have c0:=i4 hq
 have e8:cnt (p++[b])≤8↔Ln.bodyOf (p++[b])≤80:=by unfold Ln.bodyOf;lia
 have lq:(p++[b]).length=p.length+1:=by simp
 unfold Ln.fits
 rw [hn]
 by_cases hg:(p++[b]).getD 0 0≠0∨Ln.bodyOf (p++[b]) > 80
 ·rw [if_pos hg]
  constructor
  ·intro z;cases z
  ·intro z
   rcases hg with g | g
   ·exact absurd z.h0 g
   ·have:=e8.mp z.h8
    lia
 ·rw [if_neg hg]
  have g0:(p++[b]).getD 0 0=0:=Classical.byContradiction fun z=>hg (.inl z)
  have g8:cnt (p++[b])≤8:=e8.mpr (by
   rcases Int.lt_or_le 80 (Ln.bodyOf (p++[b])) with z | z
   ·exact absurd (.inr z) hg
   ·exact z)
  by_cases hl:(((p++[b]).length:Nat):Int)≤Ln.bodyOf (p++[b])
  ·rw [decide_eq_true hl,Bool.true_or]
   exact ⟨fun _=>⟨g0,g8,fun z=>by lia⟩,fun _=>rfl⟩
  ·rw [decide_eq_false hl,Bool.false_or,decide_eq_true_iff]
   have hlt:aU (p++[b]) < (p++[b]).length:=by lia
   have hge:16≤p.length:=by lia
   have ea:=mf (b:=b) hge
   have hA:aU p≤p.length:=by lia
   have lay:n.laid.check=chk (p.take (aU p)):=by
    unfold Ln.laid
    rw [hn,if_neg hg,if_neg (by lia)]
    exact hc hA
   have hl':p.length < aU p+15:=by
    have:=f.len
    rcases Nat.lt_or_ge p.length (aU p+15) with h | h
    ·exact h
    ·exact absurd ⟨hge,by lia⟩ hend
   rw [lay,bb,show ((((p++[b]).length:Nat):Int) - Ln.bodyOf (p++[b]) - 1).toNat=p.length - aU p by lia]
   have et:(p++[b]).take (aU p)=p.take (aU p):=List.take_append_of_le_length hA
   have ed:(p++[b]).drop (aU p)=p.drop (aU p)++[b]:=List.drop_append_of_le_length hA
   have ck:p.drop (aU p)=(chk (p.take (aU p))).take (p.length - aU p):=by
    by_cases h:aU p < p.length
    ·exact f.ck h
    ·have:p.length=aU p:=by lia
     rw [List.drop_of_length_le (by lia),this];simp
   have hi:p.length - aU p < (chk (p.take (aU p))).length:=by rw [b0];lia
   have key:=nW hi
   constructor
   ·intro z
    refine ⟨g0,g8,fun _ => ?_⟩
    rw [ea,et,ed,lq,show p.length+1 - aU p=p.length - aU p+1 by lia,key,← ck,z]
   ·intro z
    have h1:=z.ck hlt
    rw [ea,et,ed,lq,show p.length+1 - aU p=p.length - aU p+1 by lia,key,← ck] at h1
    exact List.head_eq_of_cons_eq (List.append_cancel_left h1)
theorem w8 {p:List Int} (hp:Bits p) (f:Fits p) (hne:p≠[]) {n:Ln} (hn:n.plain=p) (hc:aU p≤p.length→n.check=chk (p.take (aU p))):n.fits=true:=by
 have ha:=gi hp
 have h16:=mh hp
 have c0:=i4 hp
 have e8:cnt p≤8↔Ln.bodyOf p≤80:=by unfold Ln.bodyOf;lia
 have g8:=e8.mp f.h8
 have hg:¬ (p.getD 0 0≠0∨Ln.bodyOf p > 80):=fun z=>z.elim (fun z=>z f.h0) (fun z=>by lia)
 unfold Ln.fits
 rw [hn,if_neg hg]
 by_cases hl:((p.length:Nat):Int)≤Ln.bodyOf p
 ·rw [decide_eq_true hl,Bool.true_or]
 ·rw [decide_eq_false hl,Bool.false_or,decide_eq_true_iff]
  have hlt:aU p < p.length:=by lia
  have lay:n.laid.check=chk (p.take (aU p)):=by
   unfold Ln.laid
   rw [hn,if_neg hg,if_neg (by lia)]
   exact hc (by lia)
  obtain ⟨m,x,rfl⟩:∃ m x,p=m++[x]:=(bX p).resolve_left hne
  have lq:(m++[x]).length=m.length+1:=by simp
  have hlen:=f.len
  rw [lay,bb,show ((((m++[x]).length:Nat):Int) - Ln.bodyOf (m++[x]) - 1).toNat=m.length - aU (m++[x]) by lia]
  have h1:=f.ck hlt
  generalize aU (m++[x])=A at *
  have ed:(m++[x]).drop A=m.drop A++[x]:=List.drop_append_of_le_length (by lia)
  have hi:m.length - A < (chk ((m++[x]).take A)).length:=by rw [b0];lia
  rw [ed,lq,show m.length+1 - A=m.length - A+1 by lia,nW hi] at h1
  have h2:=List.append_inj h1 (by rw [List.length_drop,List.length_take,b0];rw [b0] at hi;lia)
  exact List.head_eq_of_cons_eq h2.2
theorem lD {d:Nd} (ho:d.over=false):aF d.ws d.pl≠[]:=of_decide_eq_false ho
theorem nX {d:Nd} (ho:d.over=true):aF d.ws d.pl=[]:=of_decide_eq_true ho
theorem FrSim.five {d:Nd} {n:Ln} (fs:FrSim d n) (ok:NdOk d):n.like=5↔due d.ws=true:=by
 rw [fs.like,ok.rd.d5]
 lia
theorem vf {d:Nd} {n:Ln} {b:Int} (fs:FrSim d n) (ok:NdOk d) (hb:Bit b) (hp:∀ s,d.sn=some s→n.put=d.due s) :
  (n.meets b=none∧d.giveWay b=d∧d.hears b=true)∨∃ m,n.meets b=some m∧FrSim (d.giveWay b) m∧(d.giveWay b).hears b=false∧m.mode=n.mode∧m.waits=n.waits∧m.heard=n.heard∧m.faults=n.faults:=by
 have h5:=fs.five ok
 unfold Ln.meets
 rw [fs.sends]
 cases hs:d.sn with
 | none=>
  have hh:d.hears b=false:=by unfold Nd.hears;rw [hs]
  have hg:d.giveWay b=d:=by unfold Nd.giveWay;rw [hh];rfl
  refine .inr ⟨n,rfl,?_,?_,rfl,rfl,rfl,rfl⟩
  ·rw [hg];exact fs
  ·rw [hg];exact hh
 | some s=>
  have hput:=hp s hs
  have hh:d.hears b = !decide (b=n.put):=by unfold Nd.hears;rw [hs,hput]
  dsimp only
  by_cases hbp:b=n.put
  ·rw [if_pos hbp]
   rw [decide_eq_true hbp] at hh
   have hg:d.giveWay b=d:=by unfold Nd.giveWay;rw [hh];rfl
   refine .inr ⟨n,rfl,?_,?_,rfl,rfl,rfl,rfl⟩
   ·rw [hg];exact fs
   ·rw [hg];exact hh
  ·rw [if_neg hbp]
   rw [decide_eq_false hbp] at hh
   have hat:d.atName=true↔(¬ n.like=5∧1≤n.plain.length∧n.plain.length≤11):=by
    unfold Nd.atName
    rw [Bool.and_eq_true,Bool.and_eq_true,decide_eq_true_iff,decide_eq_true_iff,Bool.not_eq_true',h5,fs.plain]
    constructor
    ·rintro ⟨⟨a,c⟩,e⟩
     exact ⟨by rw [a];decide,c,by lia⟩
    ·rintro ⟨a,c,e⟩
     exact ⟨⟨Bool.eq_false_iff.mpr a,c⟩,by lia⟩
   by_cases hc:b=1∨¬ (1≤n.plain.length∧n.plain.length≤11)∨n.like=5
   ·rw [if_pos hc]
    have hg:d.giveWay b=d:=by
     unfold Nd.giveWay
     rw [if_neg]
     intro z
     rw [Bool.and_eq_true,Bool.and_eq_true,decide_eq_true_iff,hat] at z
     rcases hc with c1 | c1 | c1
     ·lia
     ·exact c1 z.2.2
     ·exact z.2.1 c1
    exact .inl ⟨rfl,hg,hh⟩
   ·rw [if_neg hc]
    have hb0:b=0:=by
     rcases hb with z | z
     ·exact z
     ·exact absurd (.inl z) hc
    have hc2:(1≤n.plain.length∧n.plain.length≤11)∧¬ n.like=5:=
     ⟨Classical.byContradiction fun z=>hc (.inr (.inl z)),fun z=>hc (.inr (.inr z))⟩
    have hg:d.giveWay b={d with sn:=none}:=by
     unfold Nd.giveWay
     rw [if_pos]
     rw [Bool.and_eq_true,Bool.and_eq_true,decide_eq_true_iff,hat]
     exact ⟨⟨hh,hb0⟩,hc2.2,hc2.1⟩
    rw [hg]
    exact .inr ⟨_,rfl,⟨fs.plain,fs.like,fs.last,fs.many,rfl,fs.tail,fs.check,fs.zero⟩,rfl,rfl,rfl,rfl,rfl⟩
theorem w9 {w:List Int} (h:due w=true):w.getLastD 2=w.getLastD 0:=by
 rcases bX w with rfl | ⟨m,c,rfl⟩
 ·cases h
 ·rw [bb,bb]
theorem vg {d:Nd} {m:Ln} {b:Int} (fs:FrSim d m) (ok:NdOk d) (hb:Bit b) (ho:d.over=false) :
  (m.like=5∧b=m.last→b∉aF d.ws d.pl)∧(¬ (m.like=5∧b=m.last)→((m.takes b).fits=true↔b∈aF d.ws d.pl)) ∧
   (b∈aF d.ws d.pl→∀ t:Int,t=(if (d.take b).over then 0 else -1)→FrSim (d.take b) {(m.takes b).laid with tail:=t}):=by
 have h5:=fs.five ok
 have hch:=lD ho
 have hps:=fs.zero ho
 have hl2:=fs.last
 have common:∀ q:List Int,(m.takes b).plain=q→q=cf d.ws d.pl b→(m.takes b).like=(BB.run (d.ws++[b]):Int)→(aU q≤q.length→(m.takes b).laid.check=chk (q.take (aU q)))→(∀ x:Ln,x=(m.takes b).laid→x.plain=q∧x.like=(m.takes b).like∧x.last=(m.takes b).last∧x.many=(m.takes b).many∧x.sends=(m.takes b).sends) →
   ∀ t:Int,t=(if (d.take b).over then 0 else -1)→FrSim (d.take b) {(m.takes b).laid with tail:=t}:=fun q hq hn hlk hck hx t ht=>by
  obtain ⟨x1,x2,x3,x4,x5⟩:=hx _ rfl
  have hlast:(m.takes b).last=b:=by unfold Ln.takes;split <;> rfl
  have hmany:(m.takes b).many=m.many+1:=by unfold Ln.takes;split <;> rfl
  have hsend:(m.takes b).sends=m.sends:=by unfold Ln.takes;split <;> rfl
  refine ⟨?_,?_,?_,?_,?_,?_,?_,fun _=>hps⟩
  ·show (m.takes b).laid.plain=cf d.ws d.pl b
   rw [x1];exact hn
  ·show (m.takes b).laid.like=_
   rw [x2];exact hlk
  ·show (m.takes b).laid.last=(d.ws++[b]).getLastD 2
   rw [x3,hlast,bb]
  ·show (m.takes b).laid.many=(d.ws++[b]).length
   rw [x4,hmany,fs.many];simp
  ·show (m.takes b).laid.sends=d.sn
   rw [x5,hsend];exact fs.sends
  ·show t=if (d.take b).over then ((d.take b).ps:Int) else -1
   have:(d.take b).ps=d.ps:=rfl
   rw [this,hps];exact ht
  ·intro z
   show (m.takes b).laid.check=chk ((cf d.ws d.pl b).take (aU (cf d.ws d.pl b)))
   rw [← hn]
   refine hck ?_
   rw [hn];exact z
 have laidf:∀ x:Ln,x.laid.plain=x.plain∧x.laid.like=x.like∧x.laid.last=x.last∧x.laid.many=x.many∧x.laid.sends=x.sends:=fun x=>by
  unfold Ln.laid
  split
  ·exact ⟨rfl,rfl,rfl,rfl,rfl⟩
  ·split <;> exact ⟨rfl,rfl,rfl,rfl,rfl⟩
 have rdn:b∈aF d.ws d.pl→Rd (d.ws++[b]) (cf d.ws d.pl b):=fun z=>ok.rd.next hb z
 cases hd:due d.ws with
 | true=>
  have l5:m.like=5:=h5.mpr hd
  have hdl:=w9 hd
  have hw:d.ws≠[]:=by rintro z;rw [z] at hd;cases hd
  have hpl:d.pl≠[]:=fun z=>by
   have h1:=congrArg Prod.fst ok.rd.lp
   have h2:=BY hw
   rw [h1] at h2
   exact h2 z
  have hc:aF d.ws d.pl=[1 - d.ws.getLastD 0]:=by unfold aF;rw [hd];rfl
  have hlb:Bit (d.ws.getLastD 0):=by
   obtain ⟨w,c,e⟩:∃ w c,d.ws=w++[c]:=(bX d.ws).resolve_left hw
   rw [e,bb]
   exact ok.rd.bw c (by rw [e];simp)
  rw [hc,List.mem_singleton]
  have htk:m.takes b={m with like:=1,last:=b,many:=m.many+1}:=by unfold Ln.takes;rw [if_pos l5]
  have hck:aU d.pl≤d.pl.length→(m.takes b).check=chk (d.pl.take (aU d.pl)):=by rw [htk];exact fs.check
  have hpp:(m.takes b).plain=d.pl:=by rw [htk];exact fs.plain
  refine ⟨fun ⟨_,z⟩ y => ?_,fun z=>⟨fun _ => ?_,fun _=>w8 ok.rd.bp ok.rd.fit hpl hpp hck⟩,fun z => ?_⟩
  ·rw [hl2,hdl] at z
   rcases hlb with e | e <;> lia
  ·have:¬ b=d.ws.getLastD 0:=fun y=>z ⟨l5,by rw [hl2,hdl];exact y⟩
   rcases hb with e | e <;> rcases hlb with e' | e' <;> lia
  ·have hbn:¬ d.ws.getLast? = some b:=fun y=>by
    obtain ⟨w,c,e⟩:∃ w c,d.ws=w++[c]:=(bX d.ws).resolve_left hw
    rw [e] at y z
    simp at y
    rw [bb] at z
    lia
   refine common d.pl hpp (by unfold cf;rw [hd];rfl) ?_ (fun y => ?_) (fun x hx => ?_)
   ·rw [htk,du,if_neg hbn];rfl
   ·unfold Ln.laid
    rw [hpp]
    split
    ·exact hck y
    ·split
     ·rename_i e
      have ha:=gi ok.rd.bp
      show chk d.pl=_
      rw [List.take_of_length_le (by lia)]
     ·exact hck y
   ·subst hx
    obtain ⟨a1,a2⟩:=laidf (m.takes b)
    exact ⟨a1.trans hpp,a2⟩
 | false=>
  have l5:¬ m.like=5:=fun z=>by rw [h5.mp z] at hd;cases hd
  have hc:aF d.ws d.pl=bS d.pl:=by unfold aF;rw [hd];rfl
  have hend:¬ (16≤d.pl.length∧d.pl.length=aU d.pl+15):=fun z=>hch (by rw [hc];exact (gO ok.rd.bp).mpr z)
  have htk:m.takes b={m with like:=if b=m.last then m.like+1 else 1,plain:=m.plain++[b],last:=b,many:=m.many+1}:=by unfold Ln.takes;rw [if_neg l5]
  have hpp:(m.takes b).plain=d.pl++[b]:=by rw [htk];show m.plain++[b]=_;rw [fs.plain]
  have hck:aU d.pl≤d.pl.length→(m.takes b).check=chk (d.pl.take (aU d.pl)):=by rw [htk];exact fs.check
  have fi:=w6 ok.rd.bp hb ok.rd.fit hend hpp hck
  have pi:=jR ok.rd.bp hb ok.rd.fit hend
  rw [hc]
  refine ⟨fun z=>absurd z.1 l5,fun _=>fi.trans pi.symm,fun z => ?_⟩
  have hq:Bits (d.pl++[b]):=ok.rd.bp.append (Bits.cons hb Bits.nil)
  refine common (d.pl++[b]) hpp (by unfold cf;rw [hd];rfl) ?_ (fun y => ?_) (fun x hx => ?_)
  ·rw [htk,du]
   show (if b=m.last then m.like+1 else 1)=_
   rw [hl2,fs.like]
   by_cases e:d.ws.getLast? = some b
   ·rw [if_pos e,if_pos ((jv hb).mpr e).symm];simp
   ·rw [if_neg e,if_neg (fun y=>e ((jv hb).mp y.symm))];rfl
  ·have fq:=pi.mp z
   have ha:=gi hq
   have h16:=mh hq
   have g8:¬ ((d.pl++[b]).getD 0 0≠0∨Ln.bodyOf (d.pl++[b]) > 80):=fun z=>z.elim (fun z=>z fq.h0) (fun z=>by have:=fq.h8;unfold Ln.bodyOf at z;lia)
   unfold Ln.laid
   rw [hpp,if_neg g8]
   split
   ·rename_i e
    show chk (d.pl++[b])=_
    rw [List.take_of_length_le (by lia)]
   ·rename_i e
    have lq:(d.pl++[b]).length=d.pl.length+1:=by simp
    have hge:16≤d.pl.length:=by lia
    have ea:=mf (b:=b) hge
    rw [ea,List.take_append_of_le_length (by lia)]
    exact hck (by lia)
  ·subst hx
   obtain ⟨a1,a2⟩:=laidf (m.takes b)
   exact ⟨a1.trans hpp,a2⟩
theorem mj {d:Nd} {n:Ln} (h1:n.waits=d.qu) (h2:n.heard=d.tk) (h3:n.faults=(d.fc:Int)):Sim d.cryOut n.cries:=by
 refine ⟨rfl,h1,h2,?_,fun _ => ?_,fun z=>(by cases z),fun z=>(by cases z),fun z=>(by cases z)⟩
 ·show n.faults+1=((d.fc+1:Nat):Int)
  lia
 ·rfl
theorem vh {d:Nd} {n:Ln} {b:Int} (h:Sim d n) (ok:NdOk d) (hst:d.st = .frame) (hb:Bit b) (hp:∀ s,d.over=false→d.sn=some s→n.put=d.due s) (ho:d.over=false):Sim (d.hearStuffed b) (n.frameBit b):=by
 have fs:=h.fr hst
 have h5:=vf fs ok hb (fun s z=>hp s ho z)
 obtain ⟨g1,g2,g3,g4,g5,g6,g7⟩:=cY d b
 unfold Nd.hearStuffed Ln.frameBit
 rcases h5 with ⟨e1,e2,e3⟩ | ⟨m,e1,e2,e3,e4,e5,e6,e7⟩
 ·rw [e1,e2,e3,Bool.true_or,if_pos rfl]
  exact mj h.waits h.heard h.faults
 ·rw [e1,e3,Bool.false_or]
  dsimp only
  have ok':=ok.giveWay b
  have ho':(d.giveWay b).over=false:=by unfold Nd.over;rw [g1,g2];exact ho
  obtain ⟨t1,t2,t3⟩:=vg e2 ok' hb ho'
  rw [g1,g2] at t1 t2 t3
  have w1:(m.takes b).waits=m.waits∧(m.takes b).heard=m.heard∧(m.takes b).faults=m.faults∧(m.takes b).mode=m.mode:=by unfold Ln.takes;split <;> exact ⟨rfl,rfl,rfl,rfl⟩
  have w2:(m.takes b).laid.waits=m.waits∧(m.takes b).laid.heard=m.heard∧(m.takes b).laid.faults=m.faults∧(m.takes b).laid.mode=m.mode:=by
   unfold Ln.laid
   split
   ·exact w1
   ·split <;> exact w1
  have q1:m.waits=(d.giveWay b).qu:=by rw [e5,g3];exact h.waits
  have q2:m.heard=(d.giveWay b).tk:=by rw [e6,g5];exact h.heard
  have q3:m.faults=((d.giveWay b).fc:Int):=by rw [e7,g6];exact h.faults
  by_cases c1:m.like=5∧b=m.last
  ·rw [if_pos c1,decide_eq_false (t1 c1)]
   exact mj (w1.1.trans q1) (w1.2.1.trans q2) (w1.2.2.1.trans q3)
  ·rw [if_neg c1]
   have t2:=t2 c1
   by_cases c2:b∈aF d.ws d.pl
   ·rw [decide_eq_true c2,if_neg (show ¬ ((!true)=true) by decide),if_neg (by rw [t2.mpr c2];decide)]
    have rdn:Rd (d.ws++[b]) (cf d.ws d.pl b):=ok.rd.next hb c2
    have f0:=t3 c2 _ rfl
    have pl':(m.takes b).laid.plain=cf d.ws d.pl b:=by
     have:=f0.plain
     show (m.takes b).laid.plain=_
     have z:((d.giveWay b).take b).pl=cf d.ws d.pl b:=by show cf (d.giveWay b).ws (d.giveWay b).pl b=_;rw [g1,g2]
     rw [← z];exact this
    have lk':(m.takes b).laid.like=(BB.run (d.ws++[b]):Int):=by
     have:=f0.like
     have z:((d.giveWay b).take b).ws=d.ws++[b]:=by show (d.giveWay b).ws++[b]=_;rw [g1]
     rw [z] at this;exact this
    have hov:((d.giveWay b).take b).over=true↔(((m.takes b).laid.plain.length:Int)=Ln.bodyOf (m.takes b).laid.plain+15∧(m.takes b).laid.like < 5):=by
     rw [pl',lk']
     show decide (aF ((d.giveWay b).ws++[b]) (cf (d.giveWay b).ws (d.giveWay b).pl b)=[])=true↔_
     rw [g1,g2,decide_eq_true_iff,rdn.fin]
     have ha:=gi rdn.bp
     have h16:=mh rdn.bp
     have hr:=rdn.r5
     have hd5:=rdn.d5
     constructor
     ·rintro ⟨a1,a2,a3⟩
      have:¬ BB.run (d.ws++[b])=5:=fun z=>by rw [hd5.mpr z] at a1;cases a1
      exact ⟨by lia,by lia⟩
     ·rintro ⟨a1,a2⟩
      refine ⟨?_,by lia,by lia⟩
      cases z:due (d.ws++[b]) with
      | false=>rfl
      | true=>have:=hd5.mp z;lia
    by_cases c3:((m.takes b).laid.plain.length:Int)=Ln.bodyOf (m.takes b).laid.plain+15∧(m.takes b).laid.like < 5
    ·rw [if_pos c3]
     have f1:=t3 c2 0 (by rw [hov.mpr c3];rfl)
     exact ⟨w2.2.2.2.trans (e4.trans (h.mode.trans g4.symm)),w2.1.trans q1,w2.2.1.trans q2,w2.2.2.1.trans q3,fun z=>(by have z:(d.giveWay b).st = .cry:=z;rw [g4,hst] at z;cases z),fun z=>(by have z:(d.giveWay b).st = .dazed:=z;rw [g4,hst] at z;cases z),fun z=>(by have z:(d.giveWay b).st = .rest:=z;rw [g4,hst] at z;cases z),fun _=>f1⟩
    ·rw [if_neg c3]
     have no:((d.giveWay b).take b).over=false:=Bool.eq_false_iff.mpr fun z=>c3 (hov.mp z)
     have mt:(m.takes b).laid.tail = -1:=by
      have z1:(m.takes b).laid.tail=(m.takes b).tail:=by unfold Ln.laid;split;rfl;split <;> rfl
      have z2:(m.takes b).tail=m.tail:=by unfold Ln.takes;split <;> rfl
      rw [z1,z2,e2.tail,ho'];rfl
     have f1:=t3 c2 (-1) (by rw [no];rfl)
     have f2:FrSim ((d.giveWay b).take b) (m.takes b).laid:=⟨f1.plain,f1.like,f1.last,f1.many,f1.sends,mt.trans f1.tail,f1.check,f1.zero⟩
     exact ⟨w2.2.2.2.trans (e4.trans (h.mode.trans g4.symm)),w2.1.trans q1,w2.2.1.trans q2,w2.2.2.1.trans q3,fun z=>(by have z:(d.giveWay b).st = .cry:=z;rw [g4,hst] at z;cases z),fun z=>(by have z:(d.giveWay b).st = .dazed:=z;rw [g4,hst] at z;cases z),fun z=>(by have z:(d.giveWay b).st = .rest:=z;rw [g4,hst] at z;cases z),fun _=>f2⟩
   ·rw [decide_eq_false c2,if_pos (Bool.eq_false_iff.mpr fun z=>c2 (t2.mp z))]
    exact mj (w2.1.trans q1) (w2.2.1.trans q2) (w2.2.2.1.trans q3)
theorem xa {d:Nd} {n:Ln} {b:Int} (h:Sim d n) (hst:d.st = .frame) (hb:Bit b) (ho:d.over=true):Sim (d.hearBehind b) (n.tailBit b):=by
 have fs:=h.fr hst
 have ht:n.tail=(d.ps:Int):=by rw [fs.tail,ho];rfl
 have hs:=fs.sends
 unfold Nd.hearBehind Ln.tailBit
 have hw:d.wrong b=true↔((b=0∧n.tail≠1)∨(b=1∧n.tail=1∧n.sends≠none)):=by
  unfold Nd.wrong
  rw [hs]
  by_cases c1:d.ps=1
  ·rw [if_pos c1,Bool.and_eq_true,decide_eq_true_iff]
   have t1:n.tail=1:=by lia
   constructor
   ·rintro ⟨z1,z2⟩
    exact .inr ⟨z1,t1,fun z=>by rw [z] at z2;cases z2⟩
   ·rintro (⟨_,z⟩ | ⟨z1,_,z2⟩)
    ·exact absurd t1 z
    ·refine ⟨z1,?_⟩
     cases z:d.sn with
     | none=>exact absurd z z2
     | some _=>rfl
  ·rw [if_neg c1,decide_eq_true_iff]
   have t1:¬ n.tail=1:=by lia
   constructor
   ·intro z;exact .inl ⟨z,t1⟩
   ·rintro (⟨z,_⟩ | ⟨_,z,_⟩)
    ·exact z
    ·exact absurd z t1
 by_cases c1:(b=0∧n.tail≠1)∨(b=1∧n.tail=1∧n.sends≠none)
 ·rw [if_pos c1,hw.mpr c1,if_pos rfl]
  exact mj h.waits h.heard h.faults
 ·rw [if_neg c1,if_neg (fun z=>c1 (hw.mp z))]
  by_cases c2:n.tail=9
  ·rw [if_pos c2,if_pos (by lia)]
   unfold Nd.endFrame Ln.ends
   dsimp only
   rw [hs]
   cases hsn:d.sn with
   | none=>
    refine ⟨rfl,h.waits,?_,h.faults,fun z=>(by cases z),fun z=>(by cases z),fun _=>rfl,fun z=>(by cases z)⟩
    show n.heard++[(aL n.plain,cg n.plain)]=d.tk++[(aL d.pl,cg d.pl)]
    rw [h.heard,fs.plain]
   | some s=>
    refine ⟨rfl,?_,h.heard,h.faults,fun z=>(by cases z),fun z=>(by cases z),fun _=>rfl,fun z=>(by cases z)⟩
    show n.waits.eraseIdx ((n.waits.map (·.1)).idxOf (aL n.plain))=Nd.dropName (aL d.pl) d.qu
    rw [h.waits,fs.plain]
    rfl
  ·rw [if_neg c2,if_neg (by lia)]
   refine ⟨h.mode,h.waits,h.heard,h.faults,fun z=>(by have z:d.st = .cry:=z;rw [hst] at z;cases z),fun z=>(by have z:d.st = .dazed:=z;rw [hst] at z;cases z),fun z=>(by have z:d.st = .rest:=z;rw [hst] at z;cases z),fun _ => ?_⟩
   have ho':({d with ps:=d.ps+1}:Nd).over=true:=ho
   refine ⟨fs.plain,fs.like,fs.last,fs.many,fs.sends,?_,fs.check,fun z=>by rw [ho'] at z;cases z⟩
   rw [ho',if_pos rfl]
   show n.tail+1=((d.ps+1:Nat):Int)
   lia
theorem gj {d:Nd} {n:Ln} {b:Int} (h:Sim d n) (ok:NdOk d) (hst:d.st = .frame) (hb:Bit b) (hp:∀ s,d.over=false→d.sn=some s→n.put=d.due s):Sim (d.hearFrame b) (n.inFrame b):=by
 have fs:=h.fr hst
 have ht:=fs.tail
 unfold Nd.hearFrame Ln.inFrame
 cases ho:d.over with
 | true=>
  rw [ho] at ht
  have ht:n.tail=(d.ps:Int):=ht
  rw [if_pos rfl,if_neg (by lia)]
  exact xa h hst hb ho
 | false=>
  rw [ho] at ht
  have ht:n.tail = -1:=ht
  rw [if_neg (by decide),if_pos (by lia)]
  exact vh h ok hst hb hp ho
structure Low (d:Nd):Prop where
 cry:d.st = .cry→d.ps < 6
 dazed:d.st = .dazed→d.ps < 8
 rest:d.st = .rest→d.ps < 3
theorem iF {d:Nd} {n:Ln} {b:Int} {k:Nat} {s s':Md} (h:Sim d n) (hst:d.st=s) (h1:n.left=(k:Int) - (d.ps:Int)) (hz:¬ (s = .dazed∧b=0)) (hs':s' ≠ .frame) (ha:Ln.after s=(s',(match s' with | .cry=>6 | .dazed=>8 | .rest=>3 | _=>0)))
  (hk:s = .cry∧k=6∨s = .dazed∧k=8∨s = .rest∧k=3) (hf:s ≠ .frame):Sim (d.passOne k s') (n.counts b):=by
 have hm:n.mode=s:=h.mode.trans hst
 unfold Nd.passOne Ln.counts
 rw [if_neg (show ¬ (n.mode = .dazed∧b=0) by rw [hm];exact hz)]
 by_cases c:d.ps+1=k
 ·rw [if_pos c,if_pos (by lia)]
  rw [hm,ha]
  refine ⟨rfl,h.waits,h.heard,h.faults,fun z => ?_,fun z => ?_,fun z => ?_,fun z=>absurd z hs'⟩
  ·have z:s' = .cry:=z
   subst z;rfl
  ·have z:s' = .dazed:=z
   subst z;rfl
  ·have z:s' = .rest:=z
   subst z;rfl
 ·rw [if_neg c,if_neg (by lia)]
  refine ⟨h.mode,h.waits,h.heard,h.faults,fun z => ?_,fun z => ?_,fun z => ?_,fun z=>absurd (hst.symm.trans z) hf⟩
  all_goals
   have z2:=hst.symm.trans z
   rcases hk with ⟨e,rfl⟩ | ⟨e,rfl⟩ | ⟨e,rfl⟩ <;> rw [e] at z2 <;> cases z2
   show n.left - 1=_ - ((d.ps+1:Nat):Int)
   lia
theorem Sim.hears {d:Nd} {n:Ln} {b:Int} (h:Sim d n) (ok:NdOk d) (hp:n.put=d.put) (hb:Bit b):Sim (d.hear b) (n.hears b):=by
 have hm:=h.mode
 have entered:Sim (d.enter none) n.start:=by
  have:=jU d n none n.put
  exact ⟨rfl,h.waits,h.heard,h.faults,fun z=>(by cases z),fun z=>(by cases z),fun z=>(by cases z),fun _=>this⟩
 unfold Nd.hear Ln.hears
 cases hst:d.st with
 | frame=>
  rw [hst] at hm
  rw [hm,if_neg (by rintro ⟨z | z,_⟩ <;> cases z)]
  refine gj h ok hst hb fun s z1 z2 => ?_
  rw [hp]
  unfold Nd.put Nd.putFrame
  rw [hst,z1,z2]
  rfl
 | cry=>
  rw [hst] at hm
  rw [hm,if_neg (by rintro ⟨z | z,_⟩ <;> cases z)]
  exact iF (s := .cry) h hst (h.cry hst) (fun z=>by cases z.1) (by decide) rfl (.inl ⟨rfl,rfl⟩) (by decide)
 | dazed=>
  rw [hst] at hm
  rw [hm,if_neg (by rintro ⟨z | z,_⟩ <;> cases z)]
  show Sim (d.hearDazed b) (n.counts b)
  unfold Nd.hearDazed
  by_cases c:b=0
  ·rw [if_pos c]
   unfold Ln.counts
   rw [if_pos ⟨hm,c⟩]
   exact ⟨h.mode,h.waits,h.heard,h.faults,fun z=>(by have z:d.st = .cry:=z;rw [hst] at z;cases z),fun _=>rfl,fun z=>(by have z:d.st = .rest:=z;rw [hst] at z;cases z),fun z=>(by have z:d.st = .frame:=z;rw [hst] at z;cases z)⟩
  ·rw [if_neg c]
   exact iF (s := .dazed) h hst (h.dazed hst) (fun z=>c z.2) (by decide) rfl (.inr (.inl ⟨rfl,rfl⟩)) (by decide)
 | free=>
  rw [hst] at hm
  rw [hm]
  show Sim (d.hearBetween b) _
  unfold Nd.hearBetween
  by_cases c:b=0
  ·rw [if_pos c,if_pos ⟨.inl rfl,c⟩]
   exact gj entered ok.enter0 rfl hb fun s _ z=>by cases z
  ·rw [if_neg c,if_neg (by rw [hst];decide),if_neg (fun z=>c z.2)]
   exact h
 | rest=>
  rw [hst] at hm
  rw [hm]
  show Sim (d.hearBetween b) _
  unfold Nd.hearBetween
  by_cases c:b=0
  ·rw [if_pos c,if_pos ⟨.inr rfl,c⟩]
   exact gj entered ok.enter0 rfl hb fun s _ z=>by cases z
  ·rw [if_neg c,if_pos hst,if_neg (fun z=>c z.2)]
   exact iF (s := .rest) h hst (h.rest hst) (fun z=>by cases z.1) (by decide) rfl (.inr (.inr ⟨rfl,rfl⟩)) (by decide)
end BB
namespace BB
structure AllSim (ds:List Nd) (ns:List Ln):Prop where
 len:ds.length=ns.length
 at_:∀ (i:Nat) (d:Nd) (n:Ln),ds[i]? = some d→ns[i]? = some n→Sim d n
theorem AllSim.get {ds:List Nd} {ns:List Ln} (h:AllSim ds ns) {i:Nat} {n:Ln} (e:ns[i]? = some n):∃ d,ds[i]? = some d∧Sim d n:=by
 have hi:=(List.getElem?_eq_some_iff.mp e).1
 have hj:i < ds.length:=by rw [h.len];exact hi
 exact ⟨ds[i],List.getElem?_eq_getElem hj,h.at_ i _ n (List.getElem?_eq_getElem hj) e⟩
def di (ns:List Ln) (flip:Int):Int:=((if 0∈(ns.map Ln.puts).map (·.put) then 0 else 1)+flip) % 2
def gQ (ns:List Ln) (flip:Int):List Ln:=(ns.map Ln.puts).map (·.hears (di ns flip))
theorem AllSim.step {ds:List Nd} {ns:List Ln} {flip:Int} (h:AllSim ds ns) (ok:AllOk ds) (hf:Bit flip):di ns flip=bq ds flip∧AllSim (bn ds flip) (gQ ns flip):=by
 have hp:(ns.map Ln.puts).map (·.put)=(ds.map Nd.begin).map Nd.put:=by
  apply List.ext_getElem?
  intro i
  rw [List.map_map,List.map_map,List.getElem?_map,List.getElem?_map]
  cases e:ns[i]? with
  | none=>
   have:ds[i]? = none:=by
    rw [List.getElem?_eq_none_iff] at e ⊢
    rw [h.len];exact e
   rw [this];rfl
  | some n=>
   obtain ⟨d,hd,s⟩:=h.get e
   rw [hd]
   exact congrArg some s.puts.2
 have hbit:di ns flip=bq ds flip:=by
  unfold di bq iD
  rw [hp]
  rcases hf with z | z <;> rw [z] <;> split <;> rfl
 refine ⟨hbit,?_,fun i d n hd hn => ?_⟩
 ·unfold bn gQ
  simp only [List.length_map]
  exact h.len
 ·unfold bn at hd
  unfold gQ at hn
  rw [List.map_map,List.getElem?_map] at hd hn
  obtain ⟨d0,e1,rfl⟩:=Option.map_eq_some_iff.mp hd
  obtain ⟨n0,e2,rfl⟩:=Option.map_eq_some_iff.mp hn
  have s:=h.at_ i d0 n0 e1 e2
  have o:=ok d0 (List.mem_of_getElem? e1)
  show Sim (d0.begin.hear (bq ds flip)) (n0.puts.hears (di ns flip))
  rw [hbit]
  exact s.puts.1.hears o.begin s.puts.2 (dP _ _)
def gR:List Ln→List Int→List Ln
 | ns,[]=>ns
 | ns,f :: fs=>gR (gQ ns f) fs
def iG:List Ln→List Int→List Int
 | _,[]=>[]
 | ns,f :: fs=>di ns f :: iG (gQ ns f) fs
theorem AllSim.run {fs:List Int}:∀ {ds:List Nd} {ns:List Ln},AllSim ds ns→AllOk ds→Bits fs→iG ns fs=ci ds fs∧AllSim (dh ds fs) (gR ns fs):=by
 induction fs with
 | nil=>intro ds ns h _ _;exact ⟨rfl,h⟩
 | cons f fs ih=>
  intro ds ns h ok hb
  obtain ⟨a,b⟩:=h.step ok hb.head
  obtain ⟨c,e⟩:=ih b (ok.step f) hb.tail
  exact ⟨by show di ns f :: _=bq ds f :: _;rw [a,c],e⟩
theorem pV (ns:List Ln) (fs:List Int) (f:Int):gR ns (fs++[f])=gQ (gR ns fs) f:=by
 induction fs generalizing ns with
 | nil=>rfl
 | cons g fs ih=>exact ih (gQ ns g)
theorem nY (ns:List Ln) (fs:List Int) (f:Int):iG ns (fs++[f])=iG ns fs++[di (gR ns fs) f]:=by
 induction fs generalizing ns with
 | nil=>rfl
 | cons g fs ih=>exact congrArg _ (ih (gQ ns g))
def Ord (q:List Fr):Prop:=q.Pairwise fun a b=>a.1≤b.1
theorem lE {n:Int}:∀ {q:List Fr},Ord q→(q.filter fun f=>decide (f.1≤n)).length=Nd.spot n q
 | [],_=>rfl
 | f :: q,h=>by
  have ht:Ord q:=List.Pairwise.of_cons h
  unfold Nd.spot
  by_cases c:f.1≤n
  ·rw [if_pos c,List.filter_cons_of_pos (by simpa using c),List.length_cons,lE ht]
  ·rw [if_neg c,List.filter_cons_of_neg (by simpa using c)]
   have:q.filter (fun f=>decide (f.1≤n))=[]:=by
    rw [List.filter_eq_nil_iff]
    intro g hg
    have:=List.rel_of_pairwise_cons h hg
    simp only [decide_eq_true_eq]
    lia
   rw [this];rfl
theorem lF (n:Int):∀ {q:List Fr},Ord q→(∀ f∈q.take (Nd.spot n q),f.1≤n)∧(∀ f∈q.drop (Nd.spot n q),n≤f.1)
 | [],_=>⟨fun f hf=>by simp [Nd.spot] at hf,fun f hf=>by simp [Nd.spot] at hf⟩
 | g :: q,h=>by
  have ht:Ord q:=List.Pairwise.of_cons h
  unfold Nd.spot
  by_cases c:g.1≤n
  ·rw [if_pos c]
   obtain ⟨a,b⟩:=lF n ht
   refine ⟨fun f hf => ?_,fun f hf => ?_⟩
   ·rw [List.take_succ_cons,List.mem_cons] at hf
    rcases hf with rfl | hf
    ·exact c
    ·exact a f hf
   ·rw [List.drop_succ_cons] at hf
    exact b f hf
  ·rw [if_neg c]
   refine ⟨fun f hf=>by simp at hf,fun f hf => ?_⟩
   rw [List.drop_zero,List.mem_cons] at hf
   rcases hf with rfl | hf
   ·lia
   ·have:=List.rel_of_pairwise_cons h hf
    lia
theorem Ord.wait {d:Nd} {f:Fr} (h:Ord d.qu):Ord (d.letWait f).qu:=by
 obtain ⟨a,b⟩:=lF f.1 h
 have hs:=List.take_append_drop (Nd.spot f.1 d.qu) d.qu
 have h':Ord (d.qu.take (Nd.spot f.1 d.qu)++d.qu.drop (Nd.spot f.1 d.qu)):=by rw [hs];exact h
 obtain ⟨h1,h2,h3⟩:=List.pairwise_append.mp h'
 refine List.pairwise_append.mpr ⟨h1,List.pairwise_cons.mpr ⟨b,h2⟩,fun x hx y hy => ?_⟩
 rw [List.mem_cons] at hy
 rcases hy with rfl | hy
 ·exact a x hx
 ·exact h3 x hx y hy
theorem Ord.drop {n:Int} {q:List Fr} (h:Ord q):Ord (Nd.dropName n q):=List.Pairwise.sublist (List.eraseIdx_sublist _ _) h
theorem xb {d:Nd} {b:Int} (h:Ord d.qu):Ord (d.hear b).qu:=by
 have fr:∀ e:Nd,Ord e.qu→Ord (e.hearFrame b).qu:=fun e he=>by
  unfold Nd.hearFrame
  split
  ·unfold Nd.hearBehind
   split
   ·exact he
   ·split
    ·unfold Nd.endFrame
     split
     ·exact he
     ·exact he.drop
    ·exact he
  ·unfold Nd.hearStuffed
   obtain ⟨_,_,e3,_⟩:=cY e b
   split
   ·show Ord (e.giveWay b).qu;rw [e3];exact he
   ·show Ord (e.giveWay b).qu;rw [e3];exact he
 unfold Nd.hear
 split
 ·exact fr d h
 ·rw [(bT d 6 .dazed).1];exact h
 ·unfold Nd.hearDazed
  split
  ·exact h
  ·rw [(bT d 8 .rest).1];exact h
 all_goals
  unfold Nd.hearBetween
  split
  ·exact fr (d.enter none) h
  ·split
   ·rw [(bT d 3 .free).1];exact h
   ·exact h
def AllOrd (ds:List Nd):Prop:=∀ d∈ds,Ord d.qu
theorem AllOrd.step {ds:List Nd} (h:AllOrd ds) (flip:Int):AllOrd (bn ds flip):=by
 intro d hd
 unfold bn at hd
 rw [List.map_map] at hd
 obtain ⟨e,he,rfl⟩:=List.mem_map.mp hd
 refine xb ?_
 rw [(cZ e).1]
 exact h e he
theorem AllOrd.run {fs:List Int}:∀ {ds:List Nd},AllOrd ds→AllOrd (dh ds fs):=by
 induction fs with
 | nil=>intro ds h;exact h
 | cons f fs ih=>intro ds h;exact ih (h.step f)
theorem AllSim.wait {ds:List Nd} {ns:List Ln} {i:Nat} {d:Nd} {n:Ln} {f:Fr} (h:AllSim ds ns) (e1:ds[i]? = some d) (e2:ns[i]? = some n) (o:Ord d.qu) :
  AllSim (ds.set i (d.letWait f)) (ns.set i {n with waits:=n.waits.take (n.waits.filter fun g=>decide (g.1≤f.1)).length++[f]++n.waits.drop (n.waits.filter fun g=>decide (g.1≤f.1)).length}):=by
 have s:=h.at_ i d n e1 e2
 have hi:=(List.getElem?_eq_some_iff.mp e1).1
 have hj:=(List.getElem?_eq_some_iff.mp e2).1
 refine ⟨by simp only [List.length_set];exact h.len,fun j d' n' a b => ?_⟩
 by_cases c:i=j
 ·subst c
  rw [List.getElem?_set_self hi] at a
  rw [List.getElem?_set_self hj] at b
  cases a
  cases b
  refine ⟨s.mode,?_,s.heard,s.faults,s.cry,s.dazed,s.rest,fun z=>⟨(s.fr z).plain,(s.fr z).like,(s.fr z).last,(s.fr z).many,(s.fr z).sends,(s.fr z).tail,(s.fr z).check,(s.fr z).zero⟩⟩
  show n.waits.take _++[f]++n.waits.drop _=d.qu.take _++f :: d.qu.drop _
  rw [s.waits,lE o,List.append_assoc]
  rfl
 ·rw [List.getElem?_set_ne c] at a b
  exact h.at_ j d' n' a b
end BB
namespace BB
structure FbOk (n:Ln) (b:Int):Prop where
 le:n.plain.length≤300
 ok:∀ m,n.meets b=some m→(m.takes b).plain≠[]∧Bits (m.takes b).plain∧(m.takes b).plain.length≤400∧(¬ ((m.takes b).plain.getD 0 0≠0∨Ln.bodyOf (m.takes b).plain > 80)→Ln.bodyOf (m.takes b).plain < (m.takes b).plain.length→(((m.takes b).plain.length:Int) - Ln.bodyOf (m.takes b).plain - 1).toNat < (m.takes b).laid.check.length)
structure TbOk (n:Ln):Prop where
 bits:Bits n.plain
 le:n.plain.length≤400
 whole:n.plain.length=aU n.plain+15
 ws:n.waits.length≤900
 hs:n.heard.length≤4000
 nm:n.sends≠none→aL n.plain∈n.waits.map (·.1)
structure HearOk (n:Ln) (b:Int):Prop where
 fb:n.mode = .frame→n.tail < 0→FbOk n b
 tb:n.mode = .frame→¬ n.tail < 0→TbOk n
 st:n.mode = .free∨n.mode = .rest→b=0→FbOk n.start b
structure PutOk (n:Ln):Prop where
 ws:∀ f∈n.waits,f.2.length≤20
 many:∀ s,n.mode = .frame→n.tail < 0→n.sends=some s→n.many < s.length
 bit:Bit n.puts.put
theorem sH {n m:Ln} {b:Int} (h:n.meets b=some m):m.plain=n.plain∧m.like=n.like∧m.check=n.check:=by
 unfold Ln.meets at h
 split at h
 ·cases h;exact ⟨rfl,rfl,rfl⟩
 ·split at h
  ·cases h;exact ⟨rfl,rfl,rfl⟩
  ·split at h
   ·cases h
   ·cases h;exact ⟨rfl,rfl,rfl⟩
theorem FrSim.fbOk {d:Nd} {n:Ln} {b:Int} (fs:FrSim d n) (ok:NdOk d) (hb:Bit b) (ho:d.over=false):FbOk n b:=by
 have f:=ok.rd.fit
 have hl:=f.len
 have hbp:=ok.rd.bp
 have a0:=gi hbp
 have h16:=mh hbp
 have h8:=f.h8
 have h95:d.pl.length≤95:=by unfold aU at hl;lia
 refine ⟨by rw [fs.plain];lia,fun m hm => ?_⟩
 obtain ⟨m1,m2,m3⟩:=sH hm
 have h5:=fs.five ok
 cases hd:due d.ws with
 | true=>
  have l5:m.like=5:=m2.trans (h5.mpr hd)
  have hw:d.ws≠[]:=by rintro z;rw [z] at hd;cases hd
  have hpl:d.pl≠[]:=fun z=>by
   have h1:=congrArg Prod.fst ok.rd.lp
   have h2:=BY hw
   rw [h1] at h2
   exact h2 z
  have htk:m.takes b={m with like:=1,last:=b,many:=m.many+1}:=by unfold Ln.takes;rw [if_pos l5]
  have hp:(m.takes b).plain=d.pl:=by rw [htk];exact m1.trans fs.plain
  have hc:(m.takes b).check=n.check:=by rw [htk];exact m3
  rw [hp]
  refine ⟨hpl,hbp,by lia,fun g hlt => ?_⟩
  have e:(m.takes b).laid=m.takes b:=by
   unfold Ln.laid
   rw [hp,if_neg g,if_neg (by lia)]
  rw [e,hc,fs.check (by lia),b0]
  lia
 | false=>
  have l5:¬ m.like=5:=fun z=>by rw [h5.mp (m2.symm.trans z)] at hd;cases hd
  have hc0:aF d.ws d.pl=bS d.pl:=by unfold aF;rw [hd];rfl
  have hend:¬ (16≤d.pl.length∧d.pl.length=aU d.pl+15):=fun z=>lD ho (by rw [hc0];exact (gO hbp).mpr z)
  have htk:m.takes b={m with like:=if b=m.last then m.like+1 else 1,plain:=m.plain++[b],last:=b,many:=m.many+1}:=by unfold Ln.takes;rw [if_neg l5]
  have hp:(m.takes b).plain=d.pl++[b]:=by rw [htk];show m.plain++[b]=_;rw [m1,fs.plain]
  have hc:(m.takes b).check=n.check:=by rw [htk];exact m3
  have hq:Bits (d.pl++[b]):=hbp.append (Bits.cons hb Bits.nil)
  have lq:(d.pl++[b]).length=d.pl.length+1:=by simp
  rw [hp]
  refine ⟨by simp,hq,by lia,fun g hlt => ?_⟩
  have e:(m.takes b).laid=m.takes b:=by
   unfold Ln.laid
   rw [hp,if_neg g,if_neg (by lia)]
  have a1:=gi hq
  have h17:=mh hq
  have hge:16≤d.pl.length:=by lia
  have ea:=mf (b:=b) hge
  rw [e,hc,fs.check (by lia),b0]
  lia
theorem Sim.hearOk {d:Nd} {n:Ln} {b:Int} (h:Sim d n) (ok:NdOk d) (hb:Bit b) (hq:d.qu.length≤900) (ht:d.tk.length≤4000):HearOk n b:=by
 refine ⟨fun hm hn => ?_,fun hm hn => ?_,fun hm hz => ?_⟩
 ·have hst:=h.mode.symm.trans hm
  have fs:=h.fr hst
  refine fs.fbOk ok hb ?_
  cases ho:d.over with
  | false=>rfl
  | true=>
   have:=fs.tail
   rw [ho] at this
   have this:n.tail=(d.ps:Int):=this
   lia
 ·have hst:=h.mode.symm.trans hm
  have fs:=h.fr hst
  have ho:d.over=true:=by
   cases ho:d.over with
   | true=>rfl
   | false=>
    have:=fs.tail
    rw [ho] at this
    have this:n.tail = -1:=this
    lia
  obtain ⟨_,h16,hw⟩:=ok.rd.fin.mp (nX ho)
  have h8:=ok.rd.fit.h8
  refine ⟨by rw [fs.plain];exact ok.rd.bp,?_,by rw [fs.plain];exact hw,by rw [h.waits];exact hq,by rw [h.heard];exact ht,fun z => ?_⟩
  ·rw [fs.plain]
   unfold aU at hw
   lia
  ·rw [fs.plain,h.waits]
   rw [fs.sends] at z
   cases hsn:d.sn with
   | none=>exact absurd hsn z
   | some s=>
    obtain ⟨f,hf,rfl,hp⟩:=ok.sn s hst hsn
    obtain ⟨_,e2⟩:=ok.over_eq hf hp ho
    rw [e2,(ly (ok.qu f hf)).1]
    exact List.mem_map.mpr ⟨f,hf,rfl⟩
 ·exact (jU d n none n.put).fbOk ok.enter0 hb (iE d none)
theorem Sim.putOk {d:Nd} {n:Ln} (h:Sim d n) (ok:NdOk d):PutOk n:=by
 refine ⟨fun f hf => ?_,fun s hm hn hs => ?_,by rw [h.puts.2];exact ok.begin.put_bit⟩
 ·rw [h.waits] at hf
  have:=(ok.qu f hf).2.1
  lia
 ·have hst:=h.mode.symm.trans hm
  have fs:=h.fr hst
  rw [fs.sends] at hs
  rw [fs.many]
  refine ok.more hst hs ?_
  cases ho:d.over with
  | false=>rfl
  | true=>
   have:=fs.tail
   rw [ho] at this
   have this:n.tail=(d.ps:Int):=this
   lia
structure WireOk (ns:List Ln) (flip:Int):Prop where
 put:∀ n∈ns,PutOk n
 hear:∀ n∈ns,HearOk n.puts (di ns flip)
theorem AllSim.mem {ds:List Nd} {ns:List Ln} (h:AllSim ds ns) {n:Ln} (e:n∈ns):∃ d∈ds,Sim d n:=by
 obtain ⟨i,e⟩:=List.mem_iff_getElem?.mp e
 obtain ⟨d,hd,s⟩:=h.get e
 exact ⟨d,List.mem_of_getElem? hd,s⟩
theorem AllSim.wireOk {ds:List Nd} {ns:List Ln} {flip:Int} (h:AllSim ds ns) (ok:AllOk ds) (few:Few 900 4000 ds) (hf:Bit flip):WireOk ns flip:=by
 refine ⟨fun n hn => ?_,fun n hn => ?_⟩
 ·obtain ⟨d,hd,s⟩:=h.mem hn
  exact s.putOk (ok d hd)
 ·obtain ⟨d,hd,s⟩:=h.mem hn
  rw [(h.step ok hf).1]
  refine s.puts.1.hearOk (ok d hd).begin (dP _ _) ?_ ?_
  ·rw [(cZ d).1];exact (few d hd).1
  ·rw [(cZ d).2];exact (few d hd).2
def Ln.goes (n:Ln) (b:Int):Ln:=if n.mode = .frame then n.inFrame b else if n.mode = .free then n else n.counts b
structure GoOk (n:Ln) (b:Int):Prop where
 fb:n.mode = .frame→n.tail < 0→FbOk n b
 tb:n.mode = .frame→¬ n.tail < 0→TbOk n
theorem pW {n:Ln} {b:Int} (k:HearOk n b) (h:n.mode = .free∨n.mode = .rest) (hb:b=0):GoOk n.start b∧n.hears b=n.start.goes b:=by
 refine ⟨⟨fun _ _=>k.st h hb,fun _ z=>absurd (show (-1:Int) < 0 by decide) z⟩,?_⟩
 unfold Ln.hears
 rw [if_pos ⟨h,hb⟩]
 rfl
theorem rS {n:Ln} {b:Int} (k:HearOk n b) (h:¬ ((n.mode = .free∨n.mode = .rest)∧b=0)):GoOk n b∧n.hears b=n.goes b:=by
 refine ⟨⟨k.fb,k.tb⟩,?_⟩
 unfold Ln.hears Ln.goes
 rw [if_neg h]
 cases hm:n.mode <;> rfl
theorem sI {n:Ln} {b:Int} (h:n.mode = .frame):n.goes b=n.inFrame b:=if_pos h
theorem vi {n:Ln} {b:Int} (h:n.mode = .free):n.goes b=n:=by unfold Ln.goes;rw [if_neg (by rw [h];decide),if_pos h]
def Ln.less (n:Ln) (b:Int):Int:=if n.mode = .dazed∧b=0 then 8 else n.left - 1
theorem pX {n:Ln} {b:Int} (h1:¬ n.mode = .frame) (h2:¬ n.mode = .free):n.goes b=if n.less b=0 then {n with mode:=(Ln.after n.mode).1,left:=(Ln.after n.mode).2} else {n with left:=n.less b}:=by
 unfold Ln.goes Ln.counts Ln.less
 rw [if_neg h1,if_neg h2]
 by_cases c:n.mode = .dazed∧b=0
 ·rw [if_pos c,if_pos c];rfl
 ·rw [if_neg c,if_neg c]
def sJ (ns:List Ln) (k:Nat):Nat→List Int
 | 0=>[]
 | j+1=>sJ ns k j++(if j=k then [] else (ns.getD j Ln.new).waits.map (·.1))
theorem rT {ns:List Ln} {k:Nat} {x:Int}:∀ {j:Nat},x∈sJ ns k j↔∃ i,i < j∧i≠k∧x∈(ns.getD i Ln.new).waits.map (·.1)
 | 0=>⟨fun h=>(by cases h),fun ⟨i,h,_⟩=>absurd h (Nat.not_lt_zero _)⟩
 | j+1=>by
  unfold sJ
  rw [List.mem_append,rT]
  constructor
  ·rintro (⟨i,a,b⟩ | h)
   ·exact ⟨i,by lia,b⟩
   ·split at h
    ·cases h
    ·exact ⟨j,by lia,by assumption,h⟩
  ·rintro ⟨i,a,b,c⟩
   by_cases e:i=j
   ·subst e
    rw [if_neg b]
    exact .inr c
   ·exact .inl ⟨i,by lia,b,c⟩
theorem sK {ns:List Ln} {m:Nat} (h:∀ n∈ns,n.waits.length≤m) (i:Nat):(ns.getD i Ln.new).waits.length≤m:=by
 rw [List.getD_eq_getElem?_getD]
 cases e:ns[i]? with
 | none=>exact Nat.zero_le _
 | some n=>exact h n (List.mem_of_getElem? e)
theorem rV {ns:List Ln} {k m:Nat} (h:∀ n∈ns,n.waits.length≤m):∀ j,(sJ ns k j).length≤j * m
 | 0=>Nat.zero_le _
 | j+1=>by
  unfold sJ
  rw [List.length_append,Nat.succ_mul]
  have:=rV (k:=k) h j
  have:=sK h j
  split
  ·simp only [List.length_nil];lia
  ·rw [List.length_map];lia
def jV (ns:List Ln) (k:Nat) (name:Int):Bool:=decide (name∈sJ ns k ns.length)
def Ln.wait (n:Ln) (f:Fr):Ln:={n with waits:=n.waits.take (n.waits.filter fun g=>decide (g.1≤f.1)).length++[f]++n.waits.drop (n.waits.filter fun g=>decide (g.1≤f.1)).length}
def Tk8 (d:Nd):Prop:=∀ f∈d.tk,f.2.length≤8
theorem zB {d:Nd} {b:Int} (ok:NdOk d) (h:Tk8 d):Tk8 (d.hear b):=by
 have fr:∀ e:Nd,NdOk e→Tk8 e→Tk8 (e.hearFrame b):=fun e oe he=>by
  unfold Nd.hearFrame
  split
  ·rename_i ho
   unfold Nd.hearBehind
   split
   ·exact he
   ·split
    ·unfold Nd.endFrame
     split
     ·intro f hf
      have hf:f∈e.tk++[(aL e.pl,cg e.pl)]:=hf
      rcases List.mem_append.mp hf with z | z
      ·exact he f z
      ·rw [List.mem_singleton.mp z]
       exact (oe.rd.done (nX ho)).2.2.1
     ·exact he
    ·exact he
  ·unfold Nd.hearStuffed
   obtain ⟨_,_,_,_,e5,_⟩:=cY e b
   split
   ·intro f hf
    have hf:f∈(e.giveWay b).tk:=hf
    rw [e5] at hf;exact he f hf
   ·intro f hf
    have hf:f∈(e.giveWay b).tk:=hf
    rw [e5] at hf;exact he f hf
 have ps:∀ (k:Nat) (s:Md),Tk8 (d.passOne k s):=fun k s f hf=>by
  rw [(bT d k s).2] at hf;exact h f hf
 unfold Nd.hear
 split
 ·exact fr d ok h
 ·exact ps 6 .dazed
 ·unfold Nd.hearDazed
  split
  ·exact h
  ·exact ps 8 .rest
 all_goals
  unfold Nd.hearBetween
  split
  ·exact fr (d.enter none) ok.enter0 h
  ·split
   ·exact ps 3 .free
   ·exact h
def AllTk (ds:List Nd):Prop:=∀ d∈ds,Tk8 d
theorem AllTk.step {ds:List Nd} (h:AllTk ds) (ok:AllOk ds) (flip:Int):AllTk (bn ds flip):=by
 intro d hd
 unfold bn at hd
 rw [List.map_map] at hd
 obtain ⟨e,he,rfl⟩:=List.mem_map.mp hd
 refine zB (ok e he).begin fun f hf => ?_
 rw [(cZ e).2] at hf
 exact h e he f hf
theorem AllTk.run {fs:List Int}:∀ {ds:List Nd},AllTk ds→AllOk ds→AllTk (dh ds fs):=by
 induction fs with
 | nil=>intro ds h _;exact h
 | cons f fs ih=>intro ds h ok;exact ih (h.step ok f) (ok.step f)
structure Alike (ds:List Nd) (ls:List Ln) (q t:Nat):Prop where
 sim:AllSim ds ls
 ok:AllOk ds
 ord:AllOrd ds
 few:Few q t ds
 tk:AllTk ds
theorem Alike.run {ds:List Nd} {ls:List Ln} {q t:Nat} (h:Alike ds ls q t) {fl:List Int} (hb:Bits fl):Alike (dh ds fl) (gR ls fl) q (t+fl.length)∧iG ls fl=ci ds fl:=
 ⟨⟨(h.sim.run h.ok hb).2,h.ok.run fl,h.ord.run,h.few.run fl,h.tk.run h.ok⟩,(h.sim.run h.ok hb).1⟩
theorem fE {ds:List Nd} {k:Nat} {e d:Nd} (h:d∈ds.set k e):d∈ds∨d=e:=List.mem_or_eq_of_mem_set h
theorem Alike.wait {ds:List Nd} {ls:List Ln} {q t k:Nat} {d:Nd} {n:Ln} {f:Fr} (h:Alike ds ls q t) (e1:ds[k]? = some d) (e2:ls[k]? = some n) (g:iZ f.1 f.2):Alike (ds.set k (d.letWait f)) (ls.set k (n.wait f)) (q+1) t:=by
 have hd:=List.mem_of_getElem? e1
 refine ⟨h.sim.wait e1 e2 (h.ord d hd),fun x hx => ?_,fun x hx => ?_,fun x hx => ?_,fun x hx => ?_⟩
 ·rcases fE hx with z | rfl
  ·exact h.ok x z
  ·exact (h.ok d hd).letWait g
 ·rcases fE hx with z | rfl
  ·exact h.ord x z
  ·exact (h.ord d hd).wait
 ·rcases fE hx with z | rfl
  ·have:=h.few x z
   exact ⟨by lia,this.2⟩
  ·have:=h.few d hd
   refine ⟨?_,this.2⟩
   have sl:=pR f.1 d.qu
   show (d.qu.take _++f :: d.qu.drop _).length≤_
   rw [List.length_append,List.length_cons,List.length_take,List.length_drop]
   lia
 ·rcases fE hx with z | rfl
  ·exact h.tk x z
  ·exact h.tk d hd
theorem Alike.mono {ds:List Nd} {ls:List Ln} {q q' t t':Nat} (h:Alike ds ls q t) (a:q≤q') (b:t≤t'):Alike ds ls q' t':=⟨h.sim,h.ok,h.ord,h.few.mono a b,h.tk⟩
theorem Alike.start (m:Nat):Alike (List.replicate m Nd.new) (List.replicate m Ln.new) 0 0:=by
 have hr:∀ d∈List.replicate m Nd.new,d=Nd.new:=fun d hd=>List.eq_of_mem_replicate hd
 refine ⟨⟨by simp,fun i d n e1 e2 => ?_⟩,fun d hd => ?_,fun d hd => ?_,fun d hd => ?_,fun d hd => ?_⟩
 ·rw [List.eq_of_mem_replicate (List.mem_of_getElem? e1),List.eq_of_mem_replicate (List.mem_of_getElem? e2)]
  exact Sim.new
 ·rw [hr d hd];exact NdOk.new
 ·rw [hr d hd];exact List.Pairwise.nil
 ·rw [hr d hd];exact ⟨Nat.le_refl _,Nat.le_refl _⟩
 ·rw [hr d hd];intro f hf;cases hf
end BB
set_option maxHeartbeats 4000000
set_option maxRecDepth 100000
namespace BB
open PySem L2
def top (i:Nat):Stmt:=PySem.Challenge.pw_bitbus_k10_wire.main.body.getD i (.Pass ⟨0,0,0,0⟩)
structure Cs where
 E:Addr
 F:Addr
 N:Addr
 B:Addr
 R:Addr
 D:Addr
 U:Addr
structure Txt (K:PySem.W.Frag) (mg:Str→Option Value) (c:Cs):Prop where
 range:mg "range" = none
 len:mg "len" = none
 isI:mg "isinstance" = none
 all:mg "all" = none
 any:mg "any" = none
 int:mg "int" = none
 bool:mg "bool" = none
 list:mg "list" = none
 set:mg "set" = none
 min:mg "min" = none
 valueError:mg "ValueError" = none
 c_HIGHEST_NAME:∃ t,mg "HIGHEST_NAME" = some (.int 2047 t)
 c_HIGHEST_BYTE:∃ t,mg "HIGHEST_BYTE" = some (.int 255 t)
 c_MOST_BYTES:∃ t,mg "MOST_BYTES" = some (.int 8 t)
 c_NAME_BITS:∃ t,mg "NAME_BITS" = some (.int 11 t)
 c_COUNT_BITS:∃ t,mg "COUNT_BITS" = some (.int 4 t)
 c_BYTE_BITS:∃ t,mg "BYTE_BITS" = some (.int 8 t)
 c_CHECK_BITS:∃ t,mg "CHECK_BITS" = some (.int 15 t)
 c_CHECK_TURNS:∃ t,mg "CHECK_TURNS" = some (.int 17817 t)
 c_CHECK_HIGHEST:∃ t,mg "CHECK_HIGHEST" = some (.int 32767 t)
 c_MOST_LIKE_BITS:∃ t,mg "MOST_LIKE_BITS" = some (.int 5 t)
 c_NAME_AT:∃ t,mg "NAME_AT" = some (.int 1 t)
 c_COUNT_AT:∃ t,mg "COUNT_AT" = some (.int 12 t)
 c_ROW_AT:∃ t,mg "ROW_AT" = some (.int 16 t)
 c_FREE:∃ t,mg "FREE" = some (.str "free" t)
 c_FRAME:∃ t,mg "FRAME" = some (.str "frame" t)
 c_CRY:∃ t,mg "CRY" = some (.str "cry" t)
 c_DAZED:∃ t,mg "DAZED" = some (.str "dazed" t)
 c_REST:∃ t,mg "REST" = some (.str "rest" t)
 c_CRIED_BITS:∃ t,mg "CRIED_BITS" = some (.int 6 t)
 c_DAZED_ONES:∃ t,mg "DAZED_ONES" = some (.int 8 t)
 c_REST_ONES:∃ t,mg "REST_ONES" = some (.int 3 t)
 c_ANSWER_AT:∃ t,mg "ANSWER_AT" = some (.int 1 t)
 c_BITS_BEHIND:∃ t,mg "BITS_BEHIND" = some (.int 10 t)
 c_MOST_NODES:∃ t,mg "MOST_NODES" = some (.int 8 t)
 m_BusError:mg "BusError" = some (.ref c.E)
 m_BadFrame:mg "BadFrame" = some (.ref c.F)
 m_NoNode:mg "NoNode" = some (.ref c.N)
 m_BadBits:mg "BadBits" = some (.ref c.B)
 m_Reading:mg "Reading" = some (.ref c.R)
 m_Node:mg "Node" = some (.ref c.D)
 m_Bus:mg "Bus" = some (.ref c.U)
 d_in_bits:DefAt K mg "in_bits" (top 19)
 d_number_of:DefAt K mg "number_of" (top 20)
 d_check_of:DefAt K mg "check_of" (top 21)
 d_refuse_bad_frame:DefAt K mg "refuse_bad_frame" (top 22)
 d_bits_of:DefAt K mg "bits_of" (top 23)
 d_is_one_due:DefAt K mg "is_one_due" (top 24)
 d_stuffed:DefAt K mg "stuffed" (top 25)
 d_head_choices:DefAt K mg "head_choices" (top 26)
 d_check_place:DefAt K mg "check_place" (top 27)
 d_plain_choices:DefAt K mg "plain_choices" (top 28)
 d_choices_behind:DefAt K mg "choices_behind" (top 29)
 d_parts_of:DefAt K mg "parts_of" (top 30)
 d_Reading___init__:InitAt K c.R "Reading.__init__" (aj (top 31) 0)
 d_Reading_take:MethAt K c.R "take" "Reading.take" (aj (top 31) 1)
 d_Reading_is_over:MethAt K c.R "is_over" "Reading.is_over" (aj (top 31) 2)
 d_Reading_is_at_name:MethAt K c.R "is_at_name" "Reading.is_at_name" (aj (top 31) 3)
 d_Node___init__:InitAt K c.D "Node.__init__" (aj (top 43) 0)
 d_Node_has_waiting:MethAt K c.D "has_waiting" "Node.has_waiting" (aj (top 43) 1)
 d_Node_let_wait:MethAt K c.D "let_wait" "Node.let_wait" (aj (top 43) 2)
 d_Node_begin_if_free:MethAt K c.D "begin_if_free" "Node.begin_if_free" (aj (top 43) 3)
 d_Node_put:MethAt K c.D "put" "Node.put" (aj (top 43) 4)
 d_Node_put_in_frame:MethAt K c.D "put_in_frame" "Node.put_in_frame" (aj (top 43) 5)
 d_Node_hear:MethAt K c.D "hear" "Node.hear" (aj (top 43) 6)
 d_Node_hear_in_frame:MethAt K c.D "hear_in_frame" "Node.hear_in_frame" (aj (top 43) 7)
 d_Node_hear_stuffed:MethAt K c.D "hear_stuffed" "Node.hear_stuffed" (aj (top 43) 8)
 d_Node_hears_another:MethAt K c.D "hears_another" "Node.hears_another" (aj (top 43) 9)
 d_Node_hear_behind:MethAt K c.D "hear_behind" "Node.hear_behind" (aj (top 43) 10)
 d_Node_is_wrong_behind:MethAt K c.D "is_wrong_behind" "Node.is_wrong_behind" (aj (top 43) 11)
 d_Node_hear_dazed:MethAt K c.D "hear_dazed" "Node.hear_dazed" (aj (top 43) 12)
 d_Node_hear_between:MethAt K c.D "hear_between" "Node.hear_between" (aj (top 43) 13)
 d_Node_enter_frame:MethAt K c.D "enter_frame" "Node.enter_frame" (aj (top 43) 14)
 d_Node_end_frame:MethAt K c.D "end_frame" "Node.end_frame" (aj (top 43) 15)
 d_Node_drop_first:MethAt K c.D "drop_first" "Node.drop_first" (aj (top 43) 16)
 d_Node_cry_out:MethAt K c.D "cry_out" "Node.cry_out" (aj (top 43) 17)
 d_Node_pass_one:MethAt K c.D "pass_one" "Node.pass_one" (aj (top 43) 18)
 d_Node_turn_to:MethAt K c.D "turn_to" "Node.turn_to" (aj (top 43) 19)
 d_copies_of:DefAt K mg "copies_of" (top 46)
 d_Bus___init__:InitAt K c.U "Bus.__init__" (aj (top 47) 0)
 d_Bus_node_at:MethAt K c.U "node_at" "Bus.node_at" (aj (top 47) 1)
 d_Bus_time:MethAt K c.U "time" "Bus.time" (aj (top 47) 2)
 d_Bus_heard:MethAt K c.U "heard" "Bus.heard" (aj (top 47) 3)
 d_Bus_waits:MethAt K c.U "waits" "Bus.waits" (aj (top 47) 4)
 d_Bus_faults:MethAt K c.U "faults" "Bus.faults" (aj (top 47) 5)
 d_Bus_mode:MethAt K c.U "mode" "Bus.mode" (aj (top 47) 6)
 d_waits_elsewhere:DefAt K mg "waits_elsewhere" (top 48)
 d_send:DefAt K mg "send" (top 49)
 d_step:DefAt K mg "step" (top 50)
 d_run:DefAt K mg "run" (top 51)
 d__law_cell:DefAt K mg "_law_cell" (top 53)
 d__law_mix:DefAt K mg "_law_mix" (top 54)
 d__law_whole:DefAt K mg "_law_whole" (top 55)
 d__law_digits:DefAt K mg "_law_digits" (top 56)
 d__law_check:DefAt K mg "_law_check" (top 57)
 d__law_bits:DefAt K mg "_law_bits" (top 58)
 d__law_stuffed:DefAt K mg "_law_stuffed" (top 59)
 d__law_run:DefAt K mg "_law_run" (top 60)
 d__law_frame:DefAt K mg "_law_frame" (top 61)
 d__law_new:DefAt K mg "_law_new" (top 62)
 d__law_start:DefAt K mg "_law_start" (top 63)
 d__law_puts:DefAt K mg "_law_puts" (top 64)
 d__law_cries:DefAt K mg "_law_cries" (top 65)
 d__law_frame_bit:DefAt K mg "_law_frame_bit" (top 66)
 d__law_body:DefAt K mg "_law_body" (top 67)
 d__law_fits:DefAt K mg "_law_fits" (top 68)
 d__law_tail_bit:DefAt K mg "_law_tail_bit" (top 69)
 d__law_read:DefAt K mg "_law_read" (top 70)
 d__law_hears:DefAt K mg "_law_hears" (top 71)
 d__law_wire:DefAt K mg "_law_wire" (top 72)
 d__law_send:DefAt K mg "_law_send" (top 73)
 d__law_told:DefAt K mg "_law_told" (top 74)
 d__law_same:DefAt K mg "_law_same" (top 75)
 d_law:DefAt K mg "law" (top 76)
 k_Reading:Cls K c.R
 a_Reading_wire:NoAttr K c.R "wire"
 a_Reading_plain:NoAttr K c.R "plain"
 a_Reading_choices:NoAttr K c.R "choices"
 k_Node:Cls K c.D
 a_Node_state:NoAttr K c.D "state"
 a_Node_passed:NoAttr K c.D "passed"
 a_Node_reading:NoAttr K c.D "reading"
 a_Node_sending:NoAttr K c.D "sending"
 a_Node_queue:NoAttr K c.D "queue"
 a_Node_taken:NoAttr K c.D "taken"
 a_Node_fault_count:NoAttr K c.D "fault_count"
 k_Bus:Cls K c.U
 a_Bus_nodes:NoAttr K c.U "nodes"
 a_Bus_bits_past:NoAttr K c.U "bits_past"
 kib:PySem.W.kitOne K (.type "int") (.type "bool")=some false
 x_BadFrame:PySem.W.excIn K c.F [.type "ValueError",.type "Exception",.type "BaseException",.type "object"] "ValueError.__new__" = true
 r_BadFrame:PySem.W.mroIn K c.F (.ref c.E)=some true
 e_BadFrame:ExcC K c.F
 x_NoNode:PySem.W.excIn K c.N [.type "ValueError",.type "Exception",.type "BaseException",.type "object"] "ValueError.__new__" = true
 r_NoNode:PySem.W.mroIn K c.N (.ref c.E)=some true
 e_NoNode:ExcC K c.N
 i_BadFrame_BadFrame:PySem.W.kitOne K (.ref c.F) (.ref c.F)=some true
 i_BadFrame_NoNode:PySem.W.kitOne K (.ref c.F) (.ref c.N)=some false
 i_BadFrame_BadBits:PySem.W.kitOne K (.ref c.F) (.ref c.B)=some false
 i_BadFrame_V:PySem.W.kitOne K (.ref c.F) (.type "ValueError")=some true
 i_NoNode_BadFrame:PySem.W.kitOne K (.ref c.N) (.ref c.F)=some false
 i_NoNode_NoNode:PySem.W.kitOne K (.ref c.N) (.ref c.N)=some true
 i_NoNode_BadBits:PySem.W.kitOne K (.ref c.N) (.ref c.B)=some false
 i_NoNode_V:PySem.W.kitOne K (.ref c.N) (.type "ValueError")=some true
 i_F_BN:PySem.W.kitAny K (.ref c.F) [.ref c.B,.ref c.N]=some false
 t_BusError:PySem.W.typeIn K (.ref c.E)=some (.type "type")
 l_BusError:(PySem.W.clsIn K c.E).isSome=true
 b_BusError:PySem.W.mroIn K c.E (.type "BaseException")=some true
end BB
set_option maxHeartbeats 4000000
set_option maxRecDepth 100000
set_option linter.unusedVariables false
namespace BB
open PySem L2
local macro_rules | `(tactic| wtm_at "sA")=>`(tactic| first
 | ((with_reducible apply aE);(focus with_reducible assumption))
 | ((with_reducible apply aG);(focus wtm_at "hn"))
 | ((with_reducible apply Same.get);(focus with_reducible assumption)))
local macro_rules | `(tactic| wtm_at "sL")=>`(tactic| first
 | ((with_reducible apply SqL.new);(focus with_reducible assumption))
 | ((with_reducible apply Same.seq);(focus with_reducible assumption))
 | with_reducible apply At.sqL
 | with_reducible apply At.sqF)
local macro_rules | `(tactic| wtm_at "sT")=>`(tactic| first
 | with_reducible apply At.sqT)
local macro_rules | `(tactic| wtm_at "hA")=>`(tactic| first
 | with_reducible assumption
 | with_reducible exact ac
 | (wtm_at "sA";wtm_at "hA"))
local macro_rules | `(tactic| wtm_at "hL")=>`(tactic| first
 | with_reducible assumption
 | ((with_reducible apply At.sqL);wtm_at "hA")
 | ((with_reducible apply At.sqF);wtm_at "hA")
 | (wtm_at "sL";wtm_at "hL"))
local macro_rules | `(tactic| wtm_at "hT")=>`(tactic| first
 | with_reducible assumption
 | ((with_reducible apply At.sqT);wtm_at "hA")
 | (wtm_at "sT";wtm_at "hT"))
local macro_rules | `(tactic| wtm_at "hg")=>`(tactic| first
 | ((with_reducible apply DJ);wtm_at "hA")
 | ((with_reducible apply Bz);wtm_at "hL")
 | ((with_reducible apply BF);wtm_at "hT"))
local macro_rules | `(tactic| wtm_at "hn")=>`(tactic| first
 | with_reducible assumption
 | ((with_reducible refine Ne.symm ?_);with_reducible assumption)
 | ((with_reducible apply CI);(focus with_reducible assumption))
 | ((with_reducible apply Et);(focus with_reducible assumption))
 | ((with_reducible apply Eu);(focus with_reducible assumption))
 | ((with_reducible apply Ne.symm);(with_reducible apply CI);(focus with_reducible assumption))
 | ((with_reducible apply Ne.symm);(with_reducible apply Et);(focus with_reducible assumption))
 | ((with_reducible apply Ne.symm);(with_reducible apply Eu);(focus with_reducible assumption))
 | ((with_reducible apply Ne.symm);(with_reducible apply fne4);(focus with_reducible assumption))
 | ((with_reducible refine um (by with_reducible assumption) ?_);exact ⟨_,by wtm_at "hA"⟩)
 | ((with_reducible refine Ne.symm (um (by with_reducible assumption) ?_));exact ⟨_,by wtm_at "hA"⟩))
local macro_rules | `(tactic| wtm_at "ni")=>`(tactic| first
 | with_reducible assumption
 | exact List.not_mem_nil
 | ((with_reducible refine aM ?_);wtm_at "hn")
 | ((with_reducible refine nA ?_ ?_ ?_) <;> wtm_at "hn"))
local macro_rules | `(tactic| wtm_at "hs")=>`(tactic| first
 | with_reducible assumption
 | with_reducible exact Same.refl _
 | ((with_reducible refine Same.new ?a ?b);(case b=>with_reducible assumption);(case a=>wtm_at "hs"))
 | ((with_reducible refine Same.upF ?a ?b);(case b=>wtm_at "hf");(case a=>wtm_at "hs"))
 | ((with_reducible refine Same.trans ?_ (by with_reducible assumption));wtm_at "hs"))
local macro_rules | `(tactic| wtm_at "hf")=>`(tactic| first
 | with_reducible assumption
 | ((with_reducible apply BM);(focus with_reducible assumption))
 | ((with_reducible apply wJ);(focus with_reducible assumption))
 | ((with_reducible apply Es);(focus with_reducible assumption))
 | ((with_reducible apply E7);(focus with_reducible assumption))
 | ((with_reducible refine Same.fr (by with_reducible assumption) ?_);wtm_at "hf")
 | ((with_reducible refine Chg.fr (by with_reducible assumption) ?n ?m);(case n=>wtm_at "ni");(case m=>wtm_at "hf")))
local macro_rules | `(tactic| wtm_at "hc")=>`(tactic| first
 | with_reducible assumption
 | with_reducible exact Chg.refl _ _
 | ((with_reducible refine Chg.new ?a ?b);(case b=>with_reducible assumption);(case a=>wtm_at "hc"))
 | ((with_reducible refine Chg.upd ?a ?b);(case b=>simp);(case a=>wtm_at "hc"))
 | ((with_reducible refine Chg.trans ?_ (by with_reducible assumption));wtm_at "hc")
 | ((with_reducible refine Chg.trans ?_ (Same.chg (by with_reducible assumption)));wtm_at "hc"))
local macro_rules | `(tactic| wtm_at "ar")=>`(tactic| first
 | (show (0:Int) < _;decide)
 | (show (0:Int) < _;omega)
 | (show (0:Int)≤_;decide)
 | (show (0:Int)≤_;omega)
 | exact ⟨by decide,by decide⟩
 | exact ⟨by decide,by decide,by omega⟩
 | exact ⟨by omega,by omega⟩
 | exact .inl ⟨by decide,by decide⟩
 | exact .inr ⟨by decide,by decide⟩
 | exact .inl ⟨by omega,by omega⟩
 | exact .inr ⟨by omega,by omega⟩)
local macro_rules | `(tactic| wtm_at "w1")=>`(tactic| first
 | (with_reducible first
 | refine Df ?_
 | refine Dh ?_
 | refine Dj ?_
 | refine Dl ?_
 | refine Dn ?_
 | refine wu ?_
 | refine C1 ?_
 | refine C4 ?_
 | refine AY ?_
 | refine AZ ?_
 | refine yB ?_
 | refine Bf ?_
 | refine Bj ?_
 | refine Di ?_
 | refine Dk ?_
 | refine Dm ?_
 | refine Do ?_
 | refine A3 ?_
 | refine yx ?_
 | refine yC ?_
 | refine DA ?_
 | refine DB ?_
 | refine DE ?_
 | refine DF ?_
 | refine yy ?_
 | refine ww ?_
 | refine A6 ?_
 | refine A7 ?_
 | refine A9 ?_
 | refine Ba ?_
 | refine A0 ?_
 | refine yv ?_
 | refine yJ ?_
 | refine C6 ?_
 | refine C8 ?_
 | refine yu ?_
 | refine CZ ?_
 | refine C0 ?_)
 | ((with_reducible refine E6 ?_);refine C5 (by wtm_at "ar") ?_)
 | ((with_reducible refine BG ?_);refine yE (by wtm_at "hA") (by wtm_at "kf") (by wtm_at "kf") (by rfl) ?_)
 | ((with_reducible refine yX ?_);refine wC (by wtm_at "hA") (by rfl) ?_)
 | ((with_reducible refine yU ?_);refine wy (by wtm_at "hA") (by wtm_at "kf") (by wtm_at "kf") (by first | exact Nat.le_of_ble_eq_true rfl | simp [rdF,ndF,buF]) (by wtm_at "pf") ?_)
 | ((with_reducible refine yV ?_);refine yH (by wtm_at "hA") (by wtm_at "kf") (by wtm_at "kf") (by rfl) ?_)
 | ((with_reducible refine yW ?_);refine yI (by wtm_at "hA") (by first | exact Nat.le_of_ble_eq_true rfl | simp [rdF,ndF,buF]) (by wtm_at "pf") ?_)
 | ((with_reducible refine BI ?_);refine Bi (by wtm_at "hL") ?_)
 | ((with_reducible refine xG ?_);refine yK (by wtm_at "hL") ?_)
 | ((with_reducible refine xG ?_);refine wp_lenT (by wtm_at "hT") ?_)
 | ((with_reducible refine yY ?_);refine wD (by wtm_at "hL") ?_)
 | ((with_reducible refine BH ?_);refine Bn (by wtm_at "hT") (by rfl) ?_)
 | ((with_reducible refine BJ ?_);refine yM (by wtm_at "hL") ?_)
 | ((with_reducible refine za ?_);refine y9 (by wtm_at "hT") (by rfl) ?_)
 | ((with_reducible refine zo ?_);refine jt (by wtm_at "hA") (by wtm_at "dv") ?_)
 | ((with_reducible refine zr ?_);refine wV (by wtm_at "hA") (by exact Nat.le_of_ble_eq_true rfl) (by wtm_at "dp") ?_)
 | (with_reducible first
 | refine C3 ?_
 | refine E5 ?_
 | refine Bb ?_
 | refine C7 ?_
 | refine Bc ?_
 | refine yz ?_
 | refine Bd ?_
 | refine yA ?_
 | refine Be ?_
 | refine Bg ?_
 | refine Bh ?_
 | refine C9 ?_
 | refine yw ?_
 | refine yF ?_
 | refine yG ?_
 | refine yD ?_
 | refine yQ ?_
 | refine Dc ?_
 | refine ug ?_
 | refine yR ?_
 | refine DC ?_
 | refine DD ?_
 | refine DG ?_
 | refine yO ?_
 | refine yP ?_
 | refine wE ?_
 | refine wF ?_
 | refine Bm ?_
 | refine yL ?_
 | refine BL ?_
 | refine BO ?_
 | refine BP ?_
 | refine wK ?_
 | refine zb ?_
 | refine zc ?_
 | refine wL ?_
 | refine BQ ?_
 | refine ze ?_
 | refine zn ?_
 | refine zq ?_
 | refine wW ?_
 | refine zy ?_
 | refine tq ?_
 | refine xA ?_
 | refine DL ?_
 | refine DM ?_
 | refine Dp ?_
 | refine Dr ?_
 | refine Dt ?_
 | refine Dv ?_
 | refine Dx ?_
 | refine Bp ?_
 | refine Br ?_
 | refine Bt ?_
 | refine Dg ?_
 | refine Dq ?_
 | refine Ds ?_
 | refine Du ?_
 | refine Dw ?_
 | refine Dy ?_
 | refine Bq ?_
 | refine Bs ?_
 | refine Bu ?_))
local macro_rules | `(tactic| wtm_at "wp")=>`(tactic| repeat wtm_at "w1")
local macro_rules | `(tactic| wtm_at "sm")=>`(tactic| first
 | exact small (by decide)
 | exact bu (by decide)
 | (simp only [List.length_map,List.length_append,List.length_cons,List.length_nil,aO,b0,fA,List.length_take,List.length_drop,List.length_replicate] at *;first | exact small (by omega) | exact bu (by omega)))
local macro_rules | `(tactic| wtm_at "kf")=>`(tactic| first | assumption | exact Txt.k_Reading (by assumption) | exact Txt.a_Reading_wire (by assumption) | exact Txt.a_Reading_plain (by assumption) | exact Txt.a_Reading_choices (by assumption) | exact Txt.k_Node (by assumption) | exact Txt.a_Node_state (by assumption) | exact Txt.a_Node_passed (by assumption) | exact Txt.a_Node_reading (by assumption) | exact Txt.a_Node_sending (by assumption) | exact Txt.a_Node_queue (by assumption) | exact Txt.a_Node_taken (by assumption) | exact Txt.a_Node_fault_count (by assumption) | exact Txt.k_Bus (by assumption) | exact Txt.a_Bus_nodes (by assumption) | exact Txt.a_Bus_bits_past (by assumption))
local macro_rules | `(tactic| wtm_at "pf")=>`(tactic| first | exact put_wire | exact put_plain | exact pE | exact ui | exact su | exact pF | exact pG | exact put_queue | exact put_taken | exact jL | exact lS | rfl)
variable {P:Program} {w:World} {K:PySem.W.Frag} {mg:Str→Option Value} {base:Heap} {c:Cs}
theorem BZ (c:Nat):Builtin.bitAnd ((c:Int) * 2 ^ (1:Int).toNat) 32767=((c * 2 % 32768:Nat):Int):=by
 have:=PySem.W.kbt_mask ((c:Int) * 2 ^ (1:Int).toNat) 15
 have e:(2:Int) ^ 15 - 1=32767:=by decide
 rw [e] at this
 rw [this]
 have e2:(c:Int) * 2 ^ (1:Int).toNat=((c * 2:Nat):Int):=by
  show (c:Int) * 2 ^ 1=_
  omega
 rw [e2]
 have e3:(2:Int) ^ 15=32768:=by decide
 rw [e3]
 omega
theorem B0:(List.replicate (5:Int).toNat [V.int 0]).flatten=([0,0,0,0,0]:List Int).map V.int:=by rfl
theorem B1:(List.replicate (5:Int).toNat [V.int 1]).flatten=([1,1,1,1,1]:List Int).map V.int:=by rfl
theorem i5 {row:List Int} {i:Nat} {b:Int} (h:row[i]? = some b):bd (row.take (i+1))=bd (row.take i)++ar b 8:=by
 obtain ⟨hi,e⟩:=List.getElem?_eq_some_iff.mp h
 unfold bd
 rw [List.take_succ_eq_append_getElem hi,List.flatMap_append,e]
 simp
theorem EH (w:List Int):jF (w.map V.int) (some (-5)) none=(cb w).map V.int:=by
 unfold jF cb
 rw [HT.sIx_none,List.length_map]
 have e:HT.sIx w.length 0 (some (-5))=w.length - 5:=by
  unfold HT.sIx
  simp
  omega
 rw [e,← List.map_drop,List.take_of_length_le (by rw [List.length_map,List.length_drop];omega)]
abbrev vj:Stmt:=(top 19)
abbrev sL (K:PySem.W.Frag) (c:Cs):Sp:=sp2 fun a b H Q _=>∃ (n:Int) (k:Nat),a = .int n∧b = .int k∧k≤100∧MkL H Q (ar n k)
theorem sM:FnScope ["number", "many"] ["number", "many"] (ah vj):=aR
theorem fG (T:Txt K mg c):dm P w K mg base CX0 1 "in_bits" ["number", "many"] (sL K c):=by
 refine T.d_in_bits.ok sM (fun _ _ _ _ _ _ us hl=>match us,hl with | [_,_],_=>rfl) fj (fun f cdv A outer s H vs Q E hr h => ?_)
 obtain ⟨v0,v1,rfl,h⟩:=h
 refine ⟨_,(ad (aC (cP ["number", "many"] [0,1] (bH rfl T.range (aa (pv 1) ae)) (fun fp s H=>(ap xx (ap xw (pv 0) (ap dn (ap dn (pv 1) af) (pv 2))) af))))),?_⟩
 try dsimp only [br,Cx.nox,Cx.wish]
 refine ak (s2:=[some v0,some v1]) rfl ?_
 obtain ⟨n,k,rfl,rfl,hk,q⟩:=h
 wtm_at "wp"
 refine lT ?_
 wtm_at "wp"
 refine uj k (fun i => .int (n / 2 ^ (k - 1 - i) % 2)) (by omega) (by omega) (small (by omega)) (fun i H' R hi s1 hR => ?_) (fun D Hf s1 hD e=>q D Hf s1 hD ?_)
 ·show tOp _ _ _ [some (.int n),some (.int k),some (.int i)] _ _
  wtm_at "wp"
  have e1:((k:Int) - 1 - (i:Int)).toNat=k - 1 - i:=by omega
  rw [e1,PyProof.Rows.bitAnd_m1]
  exact hR H' (Same.refl _)
 ·rw [← lc,List.map_map]
  exact e
abbrev pY:Stmt:=(top 20)
abbrev nZ (K:PySem.W.Frag) (c:Cs):Sp:=sp1 fun v H Q _=>∃ (a:Addr) (bs:List Int),v = .ref a∧SqL K H a (bs.map V.int)∧Q (.int (bG bs)) H
theorem sc_number_of:FnScope ["bits", "number", "bit"] ["bits"] (ah pY):=aR
theorem eK (T:Txt K mg c):dm P w K mg base CX0 1 "number_of" ["bits"] (nZ K c):=by
 refine T.d_number_of.ok sc_number_of (fun _ _ _ _ _ _ us hl=>match us,hl with | [_],_=>rfl) gB (fun f cdv A outer s H vs Q E hr h => ?_)
 obtain ⟨v0,rfl,h⟩:=h
 refine ⟨_,(ag (aD (i:=1) sc_number_of.nd rfl (.inl rfl) af)
   (ag (bL PassesOwn.never rfl (aV (K:=K) (pv 0)) (bc (i:=2) sc_number_of.nd rfl (.inl rfl))
    (ad (aD (i:=1) sc_number_of.nd rfl (.inl rfl) (ap aY (ap cG (pv 1) af) (pv 2)))))
   (ad (aC (pv 1))))),?_⟩
 try dsimp only [br,Cx.nox,Cx.wish]
 refine ak (s2:=[some v0,none,none]) rfl ?_
 obtain ⟨a,bs,rfl,hS,q⟩:=h
 wtm_at "wp"
 refine cw ?_
 wtm_at "wp"
 refine bW (fun i σ H2=>∃ v:Option V,σ=[some (.ref a),some (.int (bG (bs.take i))),v]∧H2=H) hS ⟨none,rfl,rfl⟩ (fun i σ H2 _ ⟨_,_,e⟩=>e ▸ hS) ?_ ?_
 ·rintro i y σ H2 hi ⟨v,rfl,rfl⟩
  obtain ⟨b,hb,rfl⟩:=ce hi
  have hn:bG (bs.take (i+1))=bG (bs.take i) * 2+b:=eE (f:=fun n b=>n * 2+b) (a:=(0:Int)) hb
  wtm_at "wp"
  refine ⟨some (.int b),?_,rfl⟩
  rw [hn]
 ·rintro σ H2 ⟨v,rfl,rfl⟩
  rw [List.take_of_length_le (by rw [List.length_map];exact Nat.le_refl _)]
  wtm_at "wp"
  exact q
abbrev sN:Stmt:=(top 21)
abbrev pZ (K:PySem.W.Frag) (c:Cs):Sp:=sp1 fun v H Q _=>∃ (a:Addr) (bs:List Int),v = .ref a∧SqL K H a (bs.map V.int)∧Bits bs∧bs.length≤500∧MkL H Q (chk bs)
theorem sc_check_of:FnScope ["bits", "check", "bit", "fallen"] ["bits"] (ah sN):=aR
theorem jW (T:Txt K mg c):dm P w K mg base CX0 2 "check_of" ["bits"] (pZ K c):=by
 refine T.d_check_of.ok sc_check_of (fun _ _ _ _ _ _ us hl=>match us,hl with | [_],_=>rfl) gB (fun f cdv A outer s H vs Q E hr h => ?_)
 obtain ⟨v0,rfl,h⟩:=h
 refine ⟨_,(ag (aD (i:=1) sc_check_of.nd rfl (.inl rfl) af)
   (ag (bL PassesOwn.never rfl (aV (K:=K) (pv 0)) (bc (i:=2) sc_check_of.nd rfl (.inl rfl))
    (ag (aD (i:=3) sc_check_of.nd rfl (.inl rfl) (ap xw (pv 1) (ap dn (pgi T.c_CHECK_BITS) af)))
    (ag (aD (i:=1) sc_check_of.nd rfl (.inl rfl) (ap xx (ap Ay (pv 1) af) (pgi T.c_CHECK_HIGHEST)))
    (ad (aQ (ai io (pv 3) (pv 2) (ao _))
     (ad (aD (i:=1) sc_check_of.nd rfl (.inl rfl) (ap Az (pv 1) (pgi T.c_CHECK_TURNS))))
     az)))))
   (ad (aC (bV (fG T) hr ay (aa (pv 1) (aa (pgi T.c_CHECK_BITS) ae))))))),?_⟩
 try dsimp only [br,Cx.nox,Cx.wish]
 refine ak (s2:=[some v0,none,none,none]) rfl ?_
 obtain ⟨a,bs,rfl,hS,hb,hl,q⟩:=h
 wtm_at "wp"
 refine cw ?_
 wtm_at "wp"
 refine bW (fun i σ H2=>∃ (v u:Option V),σ=[some (.ref a),some (.int (((bs.take i).foldl gh 0:Nat):Int)),v,u]∧H2=H) hS
  ⟨none,none,rfl,rfl⟩ (fun i σ H2 _ ⟨_,_,_,e⟩=>e ▸ hS) ?_ ?_
 ·rintro i y σ H2 hi ⟨v,u,rfl,rfl⟩
  obtain ⟨b,hbi,rfl⟩:=ce hi
  have hc:(bs.take i).foldl gh 0 < 32768:=uT _ _ (by decide)
  have hn:=eE (f:=gh) (a:=0) hbi
  generalize (bs.take i).foldl gh 0=c at *
  have ef:(c:Int) / 2 ^ ((15:Int) - 1).toNat=((c / 16384:Nat):Int):=by
   show (c:Int) / 2 ^ 14=_
   omega
  have em:=BZ c
  wtm_at "wp"
  rw [ef,em]
  refine bP (fun hne => ?_) (fun he => ?_)
  ·have e1:gh c b=(c * 2 % 32768) ^^^ 17817:=by unfold gh;rw [if_neg hne]
   wtm_at "wp"
   refine ⟨some (.int b),some (.int ((c / 16384:Nat):Int)),?_,rfl⟩
   rw [hn,e1,show Builtin.bitXor ((c * 2 % 32768:Nat):Int) 17817=_ from sj (c * 2 % 32768) 17817]
  ·have e1:gh c b=c * 2 % 32768:=by unfold gh;rw [if_pos he]
   wtm_at "wp"
   refine ⟨some (.int b),some (.int ((c / 16384:Nat):Int)),?_,rfl⟩
   rw [hn,e1]
 ·rintro σ H2 ⟨v,u,rfl,rfl⟩
  wtm_at "wp"
  refine ⟨_,15,rfl,rfl,by decide,?_⟩
  rw [List.take_of_length_le (by rw [List.length_map];exact Nat.le_refl _),zA]
  exact q
abbrev gS:Stmt:=(top 22)
abbrev gk (K:PySem.W.Frag) (c:Cs):Sp:=sp2 fun u v H Q E=>∃ (a:Addr) (name:Int) (row:List Int),u = .int name∧v = .ref a∧SqL K H a (row.map V.int)∧name.natAbs.log2 < 1920∧(∀ b∈row,b.natAbs.log2 < 1920) ∧
 (iZ name row→Q .non H)∧(¬ iZ name row→E (.ref c.F) none H)
theorem sc_refuse_bad_frame:FnScope ["name", "row", "byte"] ["name", "row"] (ah gS):=aR
theorem dj (T:Txt K mg c):dm P w K mg base (CXe P w) 1 "refuse_bad_frame" ["name", "row"] (gk K c):=by
 refine T.d_refuse_bad_frame.okE sc_refuse_bad_frame (fun _ _ _ _ _ _ us hl=>match us,hl with | [_,_],_=>rfl) fj (fun f cdv A outer s H vs Q E hr h => ?_)
 obtain ⟨v0,v1,rfl,h⟩:=h
 refine ⟨_,(ag (aQ (PW.pt (dZ (ai gF (pv 0) af (ao _)) (cS (ai mR (pv 0) (pgi T.c_HIGHEST_NAME) (ao _)))))
    (ad (gJ (E:=E) (fun pins σ H s h' e vs I hx hE=>gI I hx hE) PySem.F.excBase_ValueError T.x_BadFrame rfl rfl T.m_BadFrame (aa (jK (xF (AU (pv 0) nw))) ae)))
    az)
   (ag (aQ (ai mR (aw (aq (K:=K)) rfl T.len PySem.boot_len (aa (pv 1) ae)) (pgi T.c_MOST_BYTES) (ao _))
    (ad (gJ (E:=E) (fun pins σ H s h' e vs I hx hE=>gI I hx hE) PySem.F.excBase_ValueError T.x_BadFrame rfl rfl T.m_BadFrame (aa (jK (xF (AU (pgi T.c_MOST_BYTES) (xF nw)))) ae)))
    az)
   (ad (bL PassesOwn.leaving rfl (aV (K:=K) (pv 1)) (bc (i:=2) sc_refuse_bad_frame.nd rfl (.inl rfl))
    (ad (aQ (PW.pt (dZ (ai gF (pv 2) af (ao _)) (cS (ai mR (pv 2) (pgi T.c_HIGHEST_BYTE) (ao _)))))
     (ad (gJ (E:=E) (fun pins σ H s h' e vs I hx hE=>gI I hx hE) PySem.F.excBase_ValueError T.x_BadFrame rfl rfl T.m_BadFrame (aa (jK (AU (pv 2) (xF nw))) ae)))
     az)))))),?_⟩
 try dsimp only [br,Cx.nox,Cx.wish]
 refine ak (s2:=[some v0,some v1,none]) rfl ?_
 obtain ⟨a,name,row,rfl,rfl,hS,hln,hlb,qg,qb⟩:=h
 have lr:(row.map V.int).length=row.length:=List.length_map _
 wtm_at "wp"
 refine ax (fun c1 => ?_) (fun n1 => ?_)
 ·wtm_at "wp"
  refine ⟨_,rfl,_,rfl,hln,fun y=>⟨(show 1≤100 by decide),qb fun g => ?_⟩⟩
  have:=g.1.1
  omega
 wtm_at "wp"
 refine ax (fun c2 => ?_) (fun n2 => ?_)
 ·refine ⟨_,rfl,_,rfl,hln,fun y=>⟨(show 1≤100 by decide),qb fun g => ?_⟩⟩
  have:=g.1.2
  omega
 wtm_at "wp"
 rw [lr]
 refine ax (fun c3 => ?_) (fun n3 => ?_)
 ·refine ⟨_,rfl,(show (8:Int).natAbs.log2 < 1920 by decide),fun y=>⟨(show 1≤100 by decide),qb fun g => ?_⟩⟩
  have:=g.2.1
  omega
 wtm_at "wp"
 refine cw ?_
 wtm_at "wp"
 refine bW (fun i σ H2=>∃ v:Option V,σ=[some (.int name),some (.ref a),v]∧H2=H∧∀ b∈row.take i,0≤b∧b≤255) hS
  ⟨none,rfl,rfl,fun b hb=>by simp at hb⟩ (fun i σ H2 _ ⟨_,_,e,_⟩=>e ▸ hS) ?_ ?_
 ·rintro i y σ H2 hi ⟨v,rfl,rfl,hall⟩
  obtain ⟨b,hb,rfl⟩:=ce hi
  have hmem:b∈row:=List.mem_of_getElem? hb
  wtm_at "wp"
  refine ax (fun c4 => ?_) (fun n4 => ?_)
  ·wtm_at "wp"
   refine ⟨_,rfl,_,rfl,hlb b hmem,fun y=>⟨(show 1≤100 by decide),qb fun g => ?_⟩⟩
   have:=(g.2.2 b hmem).1
   omega
  wtm_at "wp"
  refine ax (fun c5 => ?_) (fun n5 => ?_)
  ·refine ⟨_,rfl,_,rfl,hlb b hmem,fun y=>⟨(show 1≤100 by decide),qb fun g => ?_⟩⟩
   have:=(g.2.2 b hmem).2
   omega
  wtm_at "wp"
  refine ⟨_,rfl,rfl,fun z hc => ?_⟩
  obtain ⟨hi',e⟩:=List.getElem?_eq_some_iff.mp hb
  rw [List.take_succ_eq_append_getElem hi'] at hc
  rcases List.mem_append.mp hc with hc | hc
  ·exact hall z hc
  ·rw [List.mem_singleton.mp hc,e]
   omega
 ·rintro σ H2 ⟨v,rfl,rfl,hall⟩
  rw [lr,List.take_of_length_le (Nat.le_refl _)] at hall
  exact qg ⟨by omega,by omega,hall⟩
abbrev vk:Stmt:=(top 23)
abbrev sO (K:PySem.W.Frag) (c:Cs):Sp:=sp2 fun u v H Q E=>∃ (a:Addr) (name:Int) (row:List Int),u = .int name∧v = .ref a∧SqL K H a (row.map V.int)∧name.natAbs.log2 < 1920∧(∀ b∈row,b.natAbs.log2 < 1920) ∧
 (iZ name row→MkL H Q (aW name row))∧(¬ iZ name row→E (.ref c.F) none H)
theorem sc_bits_of:FnScope ["name", "row", "bits", "byte"] ["name", "row"] (ah vk):=aR
theorem sP (T:Txt K mg c):dm P w K mg base (CXe P w) 3 "bits_of" ["name", "row"] (sO K c):=by
 refine T.d_bits_of.okE sc_bits_of (fun _ _ _ _ _ _ us hl=>match us,hl with | [_,_],_=>rfl) fj (fun f cdv A outer s H vs Q E hr h => ?_)
 obtain ⟨v0,v1,rfl,h⟩:=h
 refine ⟨_,(ag (aH (bV (dj T) hr (pw (E:=E) (fun _ _ _ z=>z)) (aa (pv 0) (aa (pv 1) ae))))
   (ag (aD (i:=2) sc_bits_of.nd rfl (.inl rfl) (ap d9 (ap d9 (bj (aa af ae)) (bV (fG T) hr ay (aa (pv 0) (aa (pgi T.c_NAME_BITS) ae)))) (bV (fG T) hr ay (aa (aw (aq (K:=K)) rfl T.len PySem.boot_len (aa (pv 1) ae)) (aa (pgi T.c_COUNT_BITS) ae)))))
   (ag (bL PassesOwn.leaving rfl (aV (K:=K) (pv 1)) (bc (i:=3) sc_bits_of.nd rfl (.inl rfl))
    (ad (aH (cr (K:=K) PySem.F.plainAttrs_list PySem.F.slot_list_extend PySem.F.type_list_extend tY (pv 2) (aa (bV (fG T) hr ay (aa (pv 3) (aa (pgi T.c_BYTE_BITS) ae))) ae)))))
   (ad (aC (ap d9 (pv 2) (bV (jW T) hr ay (aa (pv 2) ae)))))))),?_⟩
 try dsimp only [br,Cx.nox,Cx.wish]
 refine ak (s2:=[some v0,some v1,none,none]) rfl ?_
 obtain ⟨a,name,row,rfl,rfl,hS,hln,hlb,qg,qb⟩:=h
 have lr:(row.map V.int).length=row.length:=List.length_map _
 wtm_at "wp"
 refine ⟨a,name,row,rfl,rfl,hS,hln,hlb,fun g => ?_,qb⟩
 have qg':=qg g
 have r8:=g.2.1
 wtm_at "wp"
 refine ⟨small (show 1≤1000 by decide),fun p1 hp1 => ?_⟩
 have s1:Same H (upd H p1 (.lst [.int 0])):=au hp1 _
 wtm_at "wp"
 refine ⟨name,11,rfl,rfl,by decide,fun p2 H2 s2 hp2 e2 => ?_⟩
 refine fW (by wtm_at "hg") (by wtm_at "hg") (by wtm_at "sm") (fun p3 hp3 => ?_)
 have s3:Same H (upd H2 p3 (.lst ([V.int 0]++(ar name 11).map V.int))):=Same.new (s1.trans s2) hp3
 wtm_at "wp"
 rw [lr]
 refine ⟨(row.length:Int),4,rfl,rfl,by decide,fun p4 H4 s4 hp4 e4 => ?_⟩
 refine fW (by wtm_at "hg") (by wtm_at "hg") (by wtm_at "sm") (fun b hb => ?_)
 have s34:=s3.trans s4
 have hbH:H b=none:=s34.free hb
 have s5:=cz (o := .lst (([V.int 0]++(ar name 11).map V.int)++(ar (row.length:Int) 4).map V.int)) s34 hbH
 have e5:([V.int 0]++(ar name 11).map V.int)++(ar (row.length:Int) 4).map V.int=([0]++ar name 11++ar (row.length:Int) 4++bd (row.take 0)).map V.int:=by
  show _=([0]++ar name 11++ar (row.length:Int) 4++[]).map V.int
  rw [List.append_nil,List.map_append,List.map_append]
  rfl
 wtm_at "wp"
 refine cw ?_
 wtm_at "wp"
 refine bW (xs:=row.map V.int)
  (fun i σ H6=>∃ v:Option V,σ=[some (.int name),some (.ref a),some (.ref b),v]∧Same H H6∧At H6 b (.lst (([0]++ar name 11++ar (row.length:Int) 4++bd (row.take i)).map V.int))) (s5.seq hS)
  ⟨none,rfl,s5,by rw [← e5];exact ac⟩ (fun i σ H6 _ ⟨_,_,s6,_⟩=>s6.seq hS) ?_ ?_
 ·rintro i y σ H6 hi ⟨v,rfl,s6,eb⟩
  obtain ⟨z,hz,rfl⟩:=ce hi
  have hil:i < row.length:=(List.getElem?_eq_some_iff.mp hz).1
  wtm_at "wp"
  refine ⟨z,8,rfl,rfl,by decide,fun p7 H7 s7 hp7 e7 => ?_⟩
  refine ⟨b,p7,_,_,rfl,rfl,s7.get eb,e7,?_,?_⟩
  ·rw [List.length_map,List.length_map,aO]
   have:([0]++ar name 11++ar (row.length:Int) 4++bd (row.take i)).length≤16+8 * row.length:=by
    simp only [List.length_append,aO,dN,List.length_take,List.length_singleton]
    omega
   exact small (by omega)
  ·refine ⟨some (.int z),rfl,cz (s6.trans s7) hbH,?_⟩
   rw [← List.map_append,i5 hz]
   simp only [List.append_assoc]
   exact ac
 ·rintro σ H6 ⟨v,rfl,s6,eb⟩
  rw [lr,List.take_of_length_le (Nat.le_refl _)] at eb
  have eb':At H6 b (.lst ((body name row).map V.int)):=eb
  have bl:=fA name row
  wtm_at "wp"
  refine ⟨b,body name row,rfl,At.sqL eb',jQ name row,by rw [bl];omega,fun p8 H8 s8 hp8 e8 => ?_⟩
  refine ⟨b,p8,_,_,rfl,rfl,s8.get eb',e8,?_,fun t ht => ?_⟩
  ·rw [List.length_map,List.length_map,bl,b0]
   exact small (by omega)
  ·have s68:=s6.trans s8
   have htH:H t=none:=s68.free ht
   refine qg' t _ (cz s68 htH) htH ?_
   rw [← List.map_append]
   exact ac
abbrev n6:Stmt:=(top 24)
abbrev mn (K:PySem.W.Frag) (c:Cs):Sp:=sp1 fun v H Q _=>∃ (a:Addr) (bs:List Int),v = .ref a∧SqL K H a (bs.map V.int)∧bs.length≤900∧E4 H Q (due bs)
theorem mq:FnScope ["wire"] ["wire"] (ah n6):=aR
theorem cX (T:Txt K mg c):dm P w K mg base CX0 1 "is_one_due" ["wire"] (mn K c):=by
 refine T.d_is_one_due.ok mq (fun _ _ _ _ _ _ us hl=>match us,hl with | [_],_=>rfl) gB (fun f cdv A outer s H vs Q E hr h => ?_)
 obtain ⟨v0,rfl,h⟩:=h
 refine ⟨_,(ad (aC (bM (wI (K:=K) hr) (bt (bv (K:=K)) (pv 0) (bo (lI gE (pgi T.c_MOST_LIKE_BITS))) cO) (cH (aa (ap nh (bj (aa af ae)) (pgi T.c_MOST_LIKE_BITS)) (aa (ap nh (bj (aa af ae)) (pgi T.c_MOST_LIKE_BITS)) ae))) rfl))),?_⟩
 try dsimp only [br,Cx.nox,Cx.wish]
 refine ak (s2:=[some v0]) rfl ?_
 obtain ⟨a,bs,rfl,hS,hl,q⟩:=h
 wtm_at "wp"
 refine cK hS (EH bs) (fun p hp => ?_)
 have s0:=au hp (.lst ((cb bs).map V.int))
 wtm_at "wp"
 refine ⟨small (show 1≤1000 by decide),fun p1 hp1 => ?_⟩
 wtm_at "wp"
 refine kZ ac (by decide) (by decide) (small (show 1 * 5≤1000 by decide)) (fun p2 hp2 => ?_)
 rw [B0] at *
 wtm_at "wp"
 refine ⟨small (show 1≤1000 by decide),fun p3 hp3 => ?_⟩
 wtm_at "wp"
 refine kZ ac (by decide) (by decide) (small (show 1 * 5≤1000 by decide)) (fun p4 hp4 => ?_)
 rw [B1] at *
 wtm_at "wp"
 refine ⟨small (show 2≤1000 by decide),fun t ht => ?_⟩
 refine ⟨t,p2,p4,_,_,rfl,At.sqT ac,by wtm_at "hn",rC (xs:=[0,0,0,0,0]) (ys:=cb bs) (by wtm_at "hg") (by wtm_at "hg"),rC (xs:=[1,1,1,1,1]) (ys:=cb bs) (by wtm_at "hg") (by wtm_at "hg"),?_⟩
 have ed:(decide (([0,0,0,0,0]:List Int)=cb bs) || decide (([1,1,1,1,1]:List Int)=cb bs))=due bs:=by
  unfold due
  rw [Bool.eq_iff_iff]
  simp only [Bool.or_eq_true,decide_eq_true_eq,beq_iff_eq]
  constructor
  ·rintro (z | z)
   ·exact .inl z.symm
   ·exact .inr z.symm
  ·rintro (z | z)
   ·exact .inl z.symm
   ·exact .inr z.symm
 rw [ed]
 exact q _ (by wtm_at "hs")
abbrev vm:Stmt:=(top 25)
abbrev sQ (K:PySem.W.Frag) (c:Cs):Sp:=sp1 fun v H Q _=>∃ (a:Addr) (bs:List Int),v = .ref a∧SqL K H a (bs.map V.int)∧Bits bs∧bs.length≤400∧MkL H Q (aT bs)
theorem sc_stuffed:FnScope ["bits", "wire", "bit"] ["bits"] (ah vm):=aR
theorem sR (T:Txt K mg c):dm P w K mg base CX0 2 "stuffed" ["bits"] (sQ K c):=by
 refine T.d_stuffed.ok sc_stuffed (fun _ _ _ _ _ _ us hl=>match us,hl with | [_],_=>rfl) gB (fun f cdv A outer s H vs Q E hr h => ?_)
 obtain ⟨v0,rfl,h⟩:=h
 refine ⟨_,(ag (aD (i:=1) sc_stuffed.nd rfl (.inl rfl) (bj ae))
   (ag (bL PassesOwn.never rfl (aV (K:=K) (pv 0)) (bc (i:=2) sc_stuffed.nd rfl (.inl rfl))
    (ag (aH (cr (K:=K) PySem.F.plainAttrs_list PySem.F.slot_list_append PySem.F.type_list_append bN (pv 1) (aa (pv 2) ae)))
    (ad (aQ (cC (bV (cX T) hr ay (aa (pv 1) ae)))
     (ad (aH (cr (K:=K) PySem.F.plainAttrs_list PySem.F.slot_list_append PySem.F.type_list_append bN (pv 1) (aa (ap dn af (pv 2)) ae))))
     az))))
   (ad (aC (pv 1))))),?_⟩
 try dsimp only [br,Cx.nox,Cx.wish]
 refine ak (s2:=[some v0,none,none]) rfl ?_
 obtain ⟨a,bs,rfl,hS,hb,hl,q⟩:=h
 wtm_at "wp"
 refine ⟨small (show 0≤1000 by decide),fun r hr0 => ?_⟩
 have s1:=au hr0 (.lst [])
 wtm_at "wp"
 refine cw ?_
 wtm_at "wp"
 refine bW (xs:=bs.map V.int) (fun i σ H2=>∃ v:Option V,σ=[some (.ref a),some (.ref r),v]∧Same H H2∧At H2 r (.lst ((aT (bs.take i)).map V.int))) (s1.seq hS)
  ⟨none,rfl,s1,ac⟩ (fun i σ H2 _ ⟨_,_,s2,_⟩=>s2.seq hS) ?_ ?_
 ·rintro i y σ H2 hi ⟨v,rfl,s2,er⟩
  obtain ⟨b,hbi,rfl⟩:=ce hi
  have hil:i < bs.length:=(List.getElem?_eq_some_iff.mp hbi).1
  have hlen:(aT (bs.take i)).length≤800:=by
   have:=jP (bs.take i)
   rw [List.length_take] at this
   omega
  have hst:aT (bs.take (i+1))=aN (aT (bs.take i)) b:=eE (f:=aN) (a:=([]:List Int)) hbi
  wtm_at "wp"
  refine bO er (bu (by rw [List.length_map];omega)) ?_
  have er2:At (upd H2 r (.lst ((aT (bs.take i)).map V.int++[.int b]))) r (.lst ((aT (bs.take i)++[b]).map V.int)):=by rw [List.map_append];exact ac
  have s3:=cz (o := .lst ((aT (bs.take i)).map V.int++[.int b])) s2 hr0
  wtm_at "wp"
  refine ⟨r,aT (bs.take i)++[b],rfl,At.sqL er2,by rw [List.length_append,List.length_singleton];omega,fun H4 s4 => ?_⟩
  have er4:=s4.get er2
  have s24:=s3.trans s4
  wtm_at "wp"
  refine El (fun c => ?_) (fun c => ?_)
  ·wtm_at "wp"
   refine bO er4 (bu (by rw [List.length_map,List.length_append,List.length_singleton];omega)) ?_
   refine ⟨some (.int b),rfl,cz s24 hr0,?_⟩
   rw [hst]
   unfold aN
   rw [if_pos c,List.map_append (l₁:=aT (bs.take i)++[b])]
   exact ac
  ·refine ⟨some (.int b),rfl,s24,?_⟩
   rw [hst]
   unfold aN
   rw [if_neg c]
   exact er4
 ·rintro σ H2 ⟨v,rfl,s2,er⟩
  rw [List.length_map,List.take_of_length_le (Nat.le_refl _)] at er
  wtm_at "wp"
  exact q r H2 s2 hr0 er
theorem xO {p:List Int} (h:Bits p):cnt p≤15:=by
 unfold cnt
 rcases ba h 12 with a | a <;> rcases ba h 13 with b | b <;> rcases ba h 14 with c | c <;> rcases ba h 15 with d | d <;> omega
theorem sS (p:List Int) (a b:Nat):(p.take b).drop a=(p.drop a).take (b - a):=List.drop_take
theorem B2 (p:List Int) (a b:Nat):jF (p.map V.int) (some (a:Int)) (some (b:Int))=((p.drop a).take (b - a)).map V.int:=by
 rw [yS,← List.map_take,← List.map_drop,sS]
theorem B3 (p:List Int) (b:Nat):jF (p.map V.int) none (some (b:Int))=(p.take b).map V.int:=by rw [rA,List.map_take]
theorem jX {l:List Int} (h:l≠[]):atI (l.map V.int) (-1)=some (.int (l.getLastD 0)):=by
 rcases bX l with rfl | ⟨m,b,rfl⟩
 ·exact absurd rfl h
 ·rw [List.map_append,bb]
  exact vT _ _
theorem Ca {w:List Int} (h:due w=true):w≠[]:=by
 rintro rfl
 exact absurd h (by decide)
abbrev kE:Stmt:=(top 26)
abbrev jY (K:PySem.W.Frag) (c:Cs):Sp:=sp1 fun v H Q _=>∃ (a:Addr) (p:List Int),v = .ref a∧SqL K H a (p.map V.int)∧p.length < 16∧MkT H Q (dB p)
theorem jZ:FnScope ["plain"] ["plain"] (ah kE):=aR
theorem j0 (T:Txt K mg c):dm P w K mg base CX0 1 "head_choices" ["plain"] (jY K c):=by
 refine T.d_head_choices.ok jZ (fun _ _ _ _ _ _ us hl=>match us,hl with | [_],_=>rfl) gB (fun f cdv A outer s H vs Q E hr h => ?_)
 obtain ⟨v0,rfl,h⟩:=h
 refine ⟨_,(ag (aQ (ai bg (aw (aq (K:=K)) rfl T.len PySem.boot_len (aa (pv 0) ae)) af (ao _))
    (ad (aC (cH (aa af ae))))
    az)
   (ag (aQ (PW.pt (bZ (ai mR (aw (aq (K:=K)) rfl T.len PySem.boot_len (aa (pv 0) ae)) (pgi T.c_COUNT_AT) (ao _)) (bK (ai bg (bh (aK (K:=K)) (pv 0) (pgi T.c_COUNT_AT) (fun _ _=>rfl)) af (ao _)))))
    (ad (aC (cH (aa af ae))))
    az)
   (ad (aC (cH (aa af (aa af ae))))))),?_⟩
 try dsimp only [br,Cx.nox,Cx.wish]
 refine ak (s2:=[some v0]) rfl ?_
 obtain ⟨a,p,rfl,hS,hl,q⟩:=h
 wtm_at "wp"
 rw [List.length_map]
 refine ax (fun c1 => ?_) (fun c1 => ?_)
 ·wtm_at "wp"
  refine ⟨small (show 1≤1000 by decide),fun t ht => ?_⟩
  wtm_at "wp"
  refine q t _ (by wtm_at "hs") ht ?_
  rw [show dB p=[0] by unfold dB;rw [if_pos (by omega)]]
  exact ac
 wtm_at "wp"
 rw [List.length_map]
 have n1:¬ p.length=0:=by omega
 refine ax (fun c2 => ?_) (fun c2 => ?_)
 ·wtm_at "wp"
  refine bf hS (show atI (p.map V.int) ((12:Nat):Int)=_ from cx (by omega)) ?_
  wtm_at "wp"
  refine ax (fun c3 => ?_) (fun c3 => ?_)
  ·wtm_at "wp"
   refine ⟨small (show 1≤1000 by decide),fun t ht => ?_⟩
   wtm_at "wp"
   refine q t _ (by wtm_at "hs") ht ?_
   rw [show dB p=[0] by unfold dB;rw [if_neg n1,if_pos ⟨by omega,c3⟩]]
   exact ac
  ·wtm_at "wp"
   refine ⟨small (show 2≤1000 by decide),fun t ht => ?_⟩
   wtm_at "wp"
   refine q t _ (by wtm_at "hs") ht ?_
   rw [show dB p=[0,1] by unfold dB;rw [if_neg n1,if_neg (fun z=>c3 z.2)]]
   exact ac
 ·wtm_at "wp"
  refine ⟨small (show 2≤1000 by decide),fun t ht => ?_⟩
  wtm_at "wp"
  refine q t _ (by wtm_at "hs") ht ?_
  rw [show dB p=[0,1] by unfold dB;rw [if_neg n1,if_neg (fun z=>c2 (by omega))]]
  exact ac
abbrev mr:Stmt:=(top 27)
abbrev kF (K:PySem.W.Frag) (c:Cs):Sp:=sp1 fun v H Q _=>∃ (a:Addr) (p:List Int),v = .ref a∧SqL K H a (p.map V.int)∧16≤p.length∧E3 H Q (16+8 * cnt p)
theorem kG:FnScope ["plain"] ["plain"] (ah mr):=aR
theorem f6 (T:Txt K mg c):dm P w K mg base CX0 2 "check_place" ["plain"] (kF K c):=by
 refine T.d_check_place.ok kG (fun _ _ _ _ _ _ us hl=>match us,hl with | [_],_=>rfl) gB (fun f cdv A outer s H vs Q E hr h => ?_)
 obtain ⟨v0,rfl,h⟩:=h
 refine ⟨_,(ad (aC (ap aY (pgi T.c_ROW_AT) (ap cG (pgi T.c_BYTE_BITS) (bV (eK T) hr ay (aa (bt (bv (K:=K)) (pv 0) (bo (pgi T.c_COUNT_AT)) (bo (pgi T.c_ROW_AT))) ae)))))),?_⟩
 try dsimp only [br,Cx.nox,Cx.wish]
 refine ak (s2:=[some v0]) rfl ?_
 obtain ⟨a,p,rfl,hS,hl,q⟩:=h
 wtm_at "wp"
 refine cK hS (B2 p 12 16) (fun t ht => ?_)
 wtm_at "wp"
 refine ⟨t,(p.drop 12).take 4,rfl,At.sqL ac,?_⟩
 rw [BW hl]
 wtm_at "wp"
 exact q _ (by wtm_at "hs")
abbrev j1:Stmt:=(top 28)
abbrev jc (K:PySem.W.Frag) (c:Cs):Sp:=sp1 fun v H Q _=>∃ (a:Addr) (p:List Int),v = .ref a∧SqL K H a (p.map V.int)∧Bits p∧(16≤p.length→p.length≤aU p+15)∧p.length≤200∧MkT H Q (bS p)
theorem sc_plain_choices:FnScope ["plain", "check_at"] ["plain"] (ah j1):=aR
theorem jd (T:Txt K mg c):dm P w K mg base CX0 3 "plain_choices" ["plain"] (jc K c):=by
 refine T.d_plain_choices.ok sc_plain_choices (fun _ _ _ _ _ _ us hl=>match us,hl with | [_],_=>rfl) gB (fun f cdv A outer s H vs Q E hr h => ?_)
 obtain ⟨v0,rfl,h⟩:=h
 refine ⟨_,(ag (aQ (ai gF (aw (aq (K:=K)) rfl T.len PySem.boot_len (aa (pv 0) ae)) (pgi T.c_ROW_AT) (ao _))
    (ad (aC (bV (j0 T) hr ay (aa (pv 0) ae))))
    az)
   (ag (aD (i:=1) sc_plain_choices.nd rfl (.inl rfl) (bV (f6 T) hr ay (aa (pv 0) ae)))
   (ag (aQ (ai gF (aw (aq (K:=K)) rfl T.len PySem.boot_len (aa (pv 0) ae)) (pv 1) (ao _))
    (ad (aC (cH (aa af (aa af ae)))))
    az)
   (ag (aQ (ai bg (aw (aq (K:=K)) rfl T.len PySem.boot_len (aa (pv 0) ae)) (ap aY (pv 1) (pgi T.c_CHECK_BITS)) (ao _))
    (ad (aC (cH ae)))
    az)
   (ad (aC (cH (aa (bh (aK (K:=K)) (bV (jW T) hr ay (aa (bt (bv (K:=K)) (pv 0) cO (bo (pv 1))) ae)) (ap dn (aw (aq (K:=K)) rfl T.len PySem.boot_len (aa (pv 0) ae)) (pv 1)) (fun _ _=>rfl)) ae)))))))),?_⟩
 try dsimp only [br,Cx.nox,Cx.wish]
 refine ak (s2:=[some v0,none]) rfl ?_
 obtain ⟨a,p,rfl,hS,hb,hk,hl,q⟩:=h
 have c0:=i4 hb
 have c15:=xO hb
 have ek:((aU p:Nat):Int)=16+8 * cnt p:=by unfold aU;omega
 wtm_at "wp"
 rw [List.length_map]
 refine ax (fun c1 => ?_) (fun c1 => ?_)
 ·wtm_at "wp"
  refine ⟨a,p,rfl,hS,by omega,?_⟩
  rw [show bS p=dB p by unfold bS;rw [if_pos (by omega)]] at q
  exact q
 have n1:¬ p.length < 16:=by omega
 have hk':=hk (by omega)
 wtm_at "wp"
 refine ⟨a,p,rfl,hS,by omega,fun H1 s1 => ?_⟩
 rw [← ek]
 wtm_at "wp"
 rw [List.length_map]
 refine ax (fun c2 => ?_) (fun c2 => ?_)
 ·wtm_at "wp"
  refine ⟨small (show 2≤1000 by decide),fun t ht => ?_⟩
  wtm_at "wp"
  refine q t _ (by wtm_at "hs") (by wtm_at "hf") ?_
  rw [show bS p=[0,1] by unfold bS;rw [if_neg n1,if_pos (by omega)]]
  exact ac
 have n2:¬ p.length < aU p:=by omega
 wtm_at "wp"
 rw [List.length_map]
 refine ax (fun c3 => ?_) (fun c3 => ?_)
 ·wtm_at "wp"
  refine ⟨small (show 0≤1000 by decide),fun t ht => ?_⟩
  wtm_at "wp"
  refine q t _ (by wtm_at "hs") (by wtm_at "hf") ?_
  rw [show bS p=[] by unfold bS;rw [if_neg n1,if_neg n2,if_pos (by omega)]]
  exact ac
 ·wtm_at "wp"
  refine cK (by wtm_at "hg") (B3 p (aU p)) (fun t ht => ?_)
  wtm_at "wp"
  refine ⟨t,p.take (aU p),rfl,At.sqL ac,hb.take _,by rw [List.length_take];omega,fun r H2 s2 hr2 e2 => ?_⟩
  wtm_at "wp"
  rw [List.length_map]
  have hlt:p.length - aU p < (chk (p.take (aU p))).length:=by rw [b0];omega
  refine bf (by wtm_at "hg") (show atI _ ((p.length:Int) - (aU p:Int))=_ by rw [show (p.length:Int) - (aU p:Int)=((p.length - aU p:Nat):Int) by omega];exact cx hlt) ?_
  wtm_at "wp"
  refine ⟨small (show 1≤1000 by decide),fun u hu => ?_⟩
  wtm_at "wp"
  have s12:Same H H2:=s1.trans ((au ht _).trans s2)
  refine q u _ (Same.new s12 hu) (s12.fr hu) ?_
  rw [show bS p=[(chk (p.take (aU p))).getD (p.length - aU p) 0] by unfold bS;rw [if_neg n1,if_neg n2,if_neg (by omega)]]
  exact ac
abbrev je:Stmt:=(top 29)
abbrev iH (K:PySem.W.Frag) (c:Cs):Sp:=sp2 fun u v H Q _=>∃ (a b:Addr) (ws p:List Int),u = .ref a∧v = .ref b∧SqL K H a (ws.map V.int)∧SqL K H b (p.map V.int)∧Bits p∧(16≤p.length→p.length≤aU p+15)∧p.length≤200∧ws.length≤900∧MkT H Q (aF ws p)
theorem iI:FnScope ["wire", "plain"] ["wire", "plain"] (ah je):=aR
theorem dC (T:Txt K mg c):dm P w K mg base CX0 4 "choices_behind" ["wire", "plain"] (iH K c):=by
 refine T.d_choices_behind.ok iI (fun _ _ _ _ _ _ us hl=>match us,hl with | [_,_],_=>rfl) fj (fun f cdv A outer s H vs Q E hr h => ?_)
 obtain ⟨v0,v1,rfl,h⟩:=h
 refine ⟨_,(ag (aQ (cC (bV (cX T) hr ay (aa (pv 0) ae)))
    (ad (aC (cH (aa (ap dn af (bh (aK (K:=K)) (pv 0) (lI gE af) (fun _ _=>rfl))) ae))))
    az)
   (ad (aC (bV (jd T) hr ay (aa (pv 1) ae))))),?_⟩
 try dsimp only [br,Cx.nox,Cx.wish]
 refine ak (s2:=[some v0,some v1]) rfl ?_
 obtain ⟨a,b,ws,p,rfl,rfl,hA,hB,hb,hk,hl,hw,q⟩:=h
 wtm_at "wp"
 refine ⟨a,ws,rfl,hA,hw,fun H1 s1 => ?_⟩
 wtm_at "wp"
 refine El (fun c1 => ?_) (fun c1 => ?_)
 ·wtm_at "wp"
  refine bf (by wtm_at "hg") (jX (Ca c1)) ?_
  wtm_at "wp"
  refine ⟨small (show 1≤1000 by decide),fun t ht => ?_⟩
  wtm_at "wp"
  refine q t _ (by wtm_at "hs") (by wtm_at "hf") ?_
  rw [show aF ws p=[1 - ws.getLastD 0] by unfold aF;rw [if_pos c1]]
  exact ac
 ·wtm_at "wp"
  refine ⟨b,p,rfl,by wtm_at "hg",hb,hk,hl,fun t H2 s2 ht e2 => ?_⟩
  refine q t _ (s1.trans s2) (by wtm_at "hf") ?_
  rw [show aF ws p=bS p by unfold aF;rw [if_neg c1]]
  exact e2
abbrev sT:Stmt:=(top 30)
abbrev qd (K:PySem.W.Frag) (c:Cs):Sp:=sp1 fun v H Q _=>∃ (a:Addr) (p:List Int),v = .ref a∧SqL K H a (p.map V.int)∧16≤p.length∧Bits p∧(∀ t r o H',Same H H'→aS H t→aS H r→At H' t (.tup [.int (aL p),.ref r])→At H' r (.frz o (.lst ((cg p).map V.int)))→Q (.ref t) H')
theorem sc_parts_of:FnScope ["plain", "name", "row"] ["plain"] (ah sT):=aR
theorem qe (T:Txt K mg c):dm P w K mg base CX0 3 "parts_of" ["plain"] (qd K c):=by
 refine T.d_parts_of.ok sc_parts_of (fun _ _ _ _ _ _ us hl=>match us,hl with | [_],_=>rfl) gB (fun f cdv A outer s H vs Q E hr h => ?_)
 obtain ⟨v0,rfl,h⟩:=h
 refine ⟨_,(ag (aD (i:=1) sc_parts_of.nd rfl (by first | exact Or.inl rfl | exact Or.inr rfl) (bV (eK T) hr ay (aa (bt (bv (K:=K)) (pv 0) (bo (pgi T.c_NAME_AT)) (bo (pgi T.c_COUNT_AT))) ae)))
   (ag (pI (i:=2) (fv:=["plain"]) (js:=[0]) sc_parts_of.nd rfl (by first | exact Or.inl rfl | exact Or.inr rfl) (uo rfl T.range (aa (pgi T.c_ROW_AT) (aa (bV (f6 T) hr ay (aa (pv 0) ae)) (aa (pgi T.c_BYTE_BITS) ae))))  (fun fp s H=>(bV (eK T) hr ay (aa (bt (bv (K:=K)) (pv 0) (bo (pv 1)) (bo (ap aY (pv 1) (pgi T.c_BYTE_BITS)))) ae))))
   (ad (aC (cH (aa (pv 1) (aa (dY (pv 2)) ae))))))),?_⟩
 try dsimp only [br,Cx.nox,Cx.wish]
 refine ak (s2:=[some v0,none,none]) rfl ?_
 obtain ⟨a,p,rfl,hS,hl,hb,q⟩:=h
 have c0:=i4 hb
 have c15:=xO hb
 wtm_at "wp"
 refine cK hS (B2 p 1 12) (fun t ht => ?_)
 wtm_at "wp"
 refine ⟨t,(p.drop 1).take 11,rfl,At.sqL ac,?_⟩
 wtm_at "wp"
 refine wH ?_
 wtm_at "wp"
 refine ⟨a,p,rfl,by wtm_at "hg",hl,fun H1 s1 => ?_⟩
 wtm_at "wp"
 have s01:Same H H1:=(au ht _).trans s1
 refine uq (cnt p).toNat (fun j => .int (bG ((p.drop (16+8 * j)).take 8))) (by decide) (by omega) (by omega) (fun k H' R hk s2 hR => ?_) (fun D Hf s2 hD e => ?_)
 ·show iq _ _ _ _ [some (.ref a),some (.int (16+(k:Nat) * 8))] _ _
  wtm_at "wp"
  refine cK (s2.seq (s01.seq hS)) (show jF (p.map V.int) _ _=((p.drop (16+8 * k)).take 8).map V.int by
   rw [show (16:Int)+(k:Nat) * 8=((16+8 * k:Nat):Int) by omega,show ((16+8 * k:Nat):Int)+8=((16+8 * k+8:Nat):Int) by omega,B2]
   congr 2
   omega) (fun u hu => ?_)
  wtm_at "wp"
  exact ⟨u,_,rfl,At.sqL ac,hR _ (au hu _)⟩
 have eD:At Hf D (.lst ((cg p).map V.int)):=by
  unfold cg
  rw [List.map_map]
  exact e
 have s02:Same H Hf:=s01.trans s2
 have hDH:aS H D:=s01.fr hD
 wtm_at "wp"
 refine bQ eD (fun o => ?_)
 wtm_at "wp"
 refine ⟨small (show 2≤1000 by decide),fun u hu => ?_⟩
 wtm_at "wp"
 have s3:Same H (upd Hf D (.frz o (.lst ((cg p).map V.int)))):=s02.upF hDH
 exact q u D o _ (s3.new hu) (s3.fr hu) hDH ac (aE hu ac)
structure RdAt (c:Cs) (H:Hp) (r w p:Addr) (ws ps:List Int):Prop where
 ob:∃ dx ch,At H r (.ins c.R dx (rdF (.ref w) (.ref p) (.ref ch)))∧At H ch (.tup ((aF ws ps).map V.int))
 wr:At H w (.lst (ws.map V.int))
 pl:At H p (.lst (ps.map V.int))
 ne:w≠p
theorem Chg.made {x dx:Addr} {H H':Hp} {o o':HO} (hx:aS H x) (hd:aS H dx) (h:Chg [x] (upd (upd H dx o) x o') H'):Same H H':=fun b u e=>by
 refine h b u (aM (aB e hx)) ?_
 exact aG (aB e hx) (aG (aB e hd) e)
theorem Rd.plen {w p:List Int} (r:Rd w p):p.length≤95:=by
 have h1:=r.fit.len
 have h2:=r.fit.h8
 unfold aU at h1
 omega
theorem Rd.wlen {w p:List Int} (r:Rd w p):w.length≤190:=by
 have h1:=r.plen
 have h2:=jP p
 rw [r.st] at h2
 split at h2
 ·rw [List.length_append] at h2
  omega
 ·omega
theorem vn {K:PySem.W.Frag} {H:Hp} {a b:Addr} {xs:List V} (ha:SqT K H a xs) (hb:SqT K H b []):RcK K H 8 (.ref a) (.ref b) (xs.isEmpty):=fun X e=>by
 subst e
 have:=t8 (X:=X) (H:=H) (n:=7) (e:=fun _=>true) ha hb (fun j x y _ h=>by simp at h)
 have e:((List.range (min xs.length ([]:List V).length)).all (fun _=>true) && xs.length == ([]:List V).length)=xs.isEmpty:=by
  cases xs <;> simp
 rw [e] at this
 exact this
theorem vo (l:List Int):(l.map V.int).isEmpty=decide (l=[]):=by cases l <;> simp
abbrev gT:Stmt:=(aj (top 31) 0)
abbrev gm (K:PySem.W.Frag) (c:Cs):Sp:=sp1 fun v H Q _=>∃ x dx,v = .ref x∧At H x (.ins c.R dx [])∧(∀ H' w p,Chg [x] H H'→aS H w→aS H p→RdAt c H' x w p [] []→Q .non H')
theorem gn:FnScope ["self"] ["self"] (ah gT):=aR
theorem dk (T:Txt K mg c):Ac P w K mg base CX0 5 c.R ["self"] (gm K c):=by
 refine T.d_Reading___init__.ok gn (fun _ _ _ _ _ _ us hl=>match us,hl with | [_],_=>rfl) gB (fun f cdv A outer s H vs Q E hr h => ?_)
 obtain ⟨v0,rfl,h⟩:=h
 refine ⟨_,(ag (bF (K:=K) (pv 0) (bj ae))
   (ag (bF (K:=K) (pv 0) (bj ae))
   (ad (bF (K:=K) (pv 0) (bV (dC T) hr ay (aa (bj ae) (aa (bj ae) ae))))))),?_⟩
 try dsimp only [br,Cx.nox,Cx.wish]
 refine ak (s2:=[some v0]) rfl ?_
 obtain ⟨x,dx,rfl,ex,q⟩:=h
 wtm_at "wp"
 refine ⟨small (show 0≤1000 by decide),fun w hw => ?_⟩
 have nxw:x≠w:=by wtm_at "hn"
 wtm_at "wp"
 refine ⟨small (show 0≤1000 by decide),fun p hp => ?_⟩
 have nxp:x≠p:=aJ hp ac
 have nwp:w≠p:=aJ hp (by wtm_at "hg")
 wtm_at "wp"
 refine ⟨small (show 0≤1000 by decide),fun y1 hy1 => ?_⟩
 have nx1:x≠y1:=aJ hy1 ac
 have np1:p≠y1:=aJ hy1 (by wtm_at "hg")
 have nw1:w≠y1:=aJ hy1 (by wtm_at "hg")
 wtm_at "wp"
 refine ⟨small (show 0≤1000 by decide),fun y2 hy2 => ?_⟩
 have nx2:x≠y2:=aJ hy2 (by wtm_at "hg")
 have np2:p≠y2:=aJ hy2 (by wtm_at "hg")
 have nw2:w≠y2:=aJ hy2 (by wtm_at "hg")
 wtm_at "wp"
 refine ⟨y1,y2,[],[],rfl,rfl,by show SqL K _ _ [];wtm_at "hg",by show SqL K _ _ [];wtm_at "hg",Bits.nil,fun z=>by simp at z,by decide,by decide,fun ch H1 s1 hc ec => ?_⟩
 have nxc:x≠ch:=aJ hc (by wtm_at "hg")
 wtm_at "wp"
 have hpH:aS H p:=by wtm_at "hf"
 refine q _ w p ?_ hw hpH ⟨⟨dx,ch,ac,by wtm_at "hg"⟩,by show At _ w (.lst []);wtm_at "hg",by show At _ p (.lst []);wtm_at "hg",nwp⟩
 wtm_at "hc"
abbrev kH:Stmt:=(aj (top 31) 1)
abbrev j2 (K:PySem.W.Frag) (c:Cs):Sp:=sp2 fun u v H Q _=>∃ (r w p:Addr) (ws ps:List Int) (b:Int),u = .ref r∧v = .int b∧RdAt c H r w p ws ps∧Rd ws ps∧Bit b∧b∈aF ws ps∧(∀ H',Chg [r,w,p] H H'→RdAt c H' r w p (ws++[b]) (cf ws ps b)→Q .non H')
theorem j3:FnScope ["self", "bit"] ["self", "bit"] (ah kH):=aR
theorem j4 (T:Txt K mg c):fX P w K mg base CX0 5 c.R "take" ["self", "bit"] (j2 K c):=by
 refine T.d_Reading_take.ok j3 (fun _ _ _ _ _ _ us hl=>match us,hl with | [_,_],_=>rfl) fj (fun f cdv A outer s H vs Q E hr h => ?_)
 obtain ⟨v0,v1,rfl,h⟩:=h
 refine ⟨_,(ag (aQ (iU (cC (bV (cX T) hr ay (aa (av (K:=K) (pv 0)) ae))))
    (ad (aH (cr (K:=K) PySem.F.plainAttrs_list PySem.F.slot_list_append PySem.F.type_list_append bN (av (K:=K) (pv 0)) (aa (pv 1) ae))))
    az)
   (ag (aH (cr (K:=K) PySem.F.plainAttrs_list PySem.F.slot_list_append PySem.F.type_list_append bN (av (K:=K) (pv 0)) (aa (pv 1) ae)))
   (ad (bF (K:=K) (pv 0) (bV (dC T) hr ay (aa (av (K:=K) (pv 0)) (aa (av (K:=K) (pv 0)) ae))))))),?_⟩
 try dsimp only [br,Cx.nox,Cx.wish]
 refine ak (s2:=[some v0,some v1]) rfl ?_
 obtain ⟨r,w,p,ws,ps,b,rfl,rfl,⟨⟨dx,ch,er,ec⟩,ew,ep,nwp⟩,rd,hb,hc,q⟩:=h
 have nrw:r≠w:=er.ne ew (by intro z;cases z)
 have nrp:r≠p:=er.ne ep (by intro z;cases z)
 have ncw:ch≠w:=ec.ne ew (by intro z;cases z)
 have ncp:ch≠p:=ec.ne ep (by intro z;cases z)
 have ncr:ch≠r:=ec.ne er (by intro z;cases z)
 have rn:=rd.next hb hc
 have l1:=rd.wlen
 have l2:=rd.plen
 have l3:=rn.wlen
 have l4:=rn.plen
 have l5:=rn.fit.len
 have fin:∀ H1 H2,Chg [r,w,p] H H1→At H1 r (.ins c.R dx (rdF (.ref w) (.ref p) (.ref ch)))→At H1 w (.lst (ws.map V.int++[.int b]))→At H1 p (.lst ((cf ws ps b).map V.int)) →
   ∀ c2,Same H1 H2→aS H1 c2→At H2 c2 (.tup ((aF (ws++[b]) (cf ws ps b)).map V.int))→Q .non (upd H2 r (.ins c.R dx (rdF (.ref w) (.ref p) (.ref c2)))):=fun H1 H2 k1 e1 e2 e3 c2 s2 f2 e4=>by
  have nc2:c2≠r:=Ne.symm (aJ f2 e1)
  refine q _ ((k1.trans s2.chg).upd (by simp)) ⟨⟨dx,c2,ac,by wtm_at "hg"⟩,?_,by wtm_at "hg",nwp⟩
  rw [List.map_append]
  exact aG (Ne.symm nrw) (s2.get e2)
 wtm_at "wp"
 refine ⟨w,ws,rfl,by wtm_at "hg",by omega,fun H1 s1 => ?_⟩
 wtm_at "wp"
 cases hd:due ws with
 | true=>
  have en:cf ws ps b=ps:=by unfold cf;rw [if_pos hd]
  rw [en] at fin
  wtm_at "wp"
  refine bO (s1.get ew) (bu (by rw [List.length_map];omega)) ?_
  wtm_at "wp"
  refine ⟨w,p,ws++[b],ps,rfl,rfl,?_,by wtm_at "hg",rd.bp,fun _=>rd.fit.len,by omega,by omega,fun c2 H2 s2 f2 e2 => ?_⟩
  ·rw [List.map_append];exact At.sqL ac
  wtm_at "wp"
  exact fin _ _ ((Same.chg s1).upd (by simp)) (by wtm_at "hg") ac (by wtm_at "hg") c2 s2 f2 e2
 | false=>
  have en:cf ws ps b=ps++[b]:=by unfold cf;rw [if_neg (by rw [hd];decide)]
  rw [en] at fin l4 l5
  wtm_at "wp"
  refine bO (s1.get ep) (bu (by rw [List.length_map];omega)) ?_
  wtm_at "wp"
  refine bO (aG nwp (s1.get ew)) (bu (by rw [List.length_map];omega)) ?_
  wtm_at "wp"
  refine ⟨w,p,ws++[b],ps++[b],rfl,rfl,?_,?_,?_,?_,by omega,by rw [List.length_append,List.length_singleton];omega,fun c2 H2 s2 f2 e2 => ?_⟩
  ·rw [List.map_append];exact At.sqL ac
  ·rw [List.map_append];exact At.sqL (aG (Ne.symm nwp) ac)
  ·rw [← en];exact rn.bp
  ·intro _
   rw [← en]
   rw [← en] at l5
   exact rn.fit.len
  wtm_at "wp"
  refine fin _ _ (((Same.chg s1).upd (by simp)).upd (by simp)) (by wtm_at "hg") ac ?_ c2 s2 f2 e2
  rw [List.map_append];exact aG (Ne.symm nwp) ac
abbrev iJ:Stmt:=(aj (top 31) 2)
abbrev gU (K:PySem.W.Frag) (c:Cs):Sp:=sp1 fun u H Q _=>∃ (r w p:Addr) (ws ps:List Int),u = .ref r∧RdAt c H r w p ws ps∧(∀ H',Same H H'→Q (.bl (decide (aF ws ps=[]))) H')
theorem gW:FnScope ["self"] ["self"] (ah iJ):=aR
theorem dy (T:Txt K mg c):fX P w K mg base CX0 1 c.R "is_over" ["self"] (gU K c):=by
 refine T.d_Reading_is_over.ok gW (fun _ _ _ _ _ _ us hl=>match us,hl with | [_],_=>rfl) gB (fun f cdv A outer s H vs Q E hr h => ?_)
 obtain ⟨v0,rfl,h⟩:=h
 refine ⟨_,(ad (aC (bM (y3 (K:=K) hr) (av (K:=K) (pv 0)) (cH ae) (ao _)))),?_⟩
 try dsimp only [br,Cx.nox,Cx.wish]
 refine ak (s2:=[some v0]) rfl ?_
 obtain ⟨r,w,p,ws,ps,rfl,⟨⟨dx,ch,er,ec⟩,ew,ep,nwp⟩,q⟩:=h
 wtm_at "wp"
 refine ⟨small (show 0≤1000 by decide),fun t ht => ?_⟩
 refine ⟨_,vn (xs:=(aF ws ps).map V.int) (by wtm_at "hg") (by wtm_at "hg"),?_⟩
 rw [vo]
 wtm_at "wp"
 exact q _ (au ht _)
abbrev fJ:Stmt:=(aj (top 31) 3)
abbrev eL (K:PySem.W.Frag) (c:Cs):Sp:=sp1 fun u H Q _=>∃ (r w p:Addr) (ws ps:List Int),u = .ref r∧RdAt c H r w p ws ps∧Rd ws ps∧(∀ H',Same H H'→Q (.bl (!due ws && decide (1≤ps.length) && decide (ps.length < 12))) H')
theorem eM:FnScope ["self"] ["self"] (ah fJ):=aR
theorem eN (T:Txt K mg c):fX P w K mg base CX0 2 c.R "is_at_name" ["self"] (eL K c):=by
 refine T.d_Reading_is_at_name.ok eM (fun _ _ _ _ _ _ us hl=>match us,hl with | [_],_=>rfl) gB (fun f cdv A outer s H vs Q E hr h => ?_)
 obtain ⟨v0,rfl,h⟩:=h
 refine ⟨_,(ag (aQ (cC (bV (cX T) hr ay (aa (av (K:=K) (pv 0)) ae)))
    (ad (aC ij))
    az)
   (ad (aC (jA (bM AA (aw (aq (K:=K)) rfl T.len PySem.boot_len (aa (av (K:=K) (pv 0)) ae)) (pgi T.c_NAME_AT) (ao _)) (jz (bM gF (aw (aq (K:=K)) rfl T.len PySem.boot_len (aa (av (K:=K) (pv 0)) ae)) (pgi T.c_COUNT_AT) (ao _))))))),?_⟩
 try dsimp only [br,Cx.nox,Cx.wish]
 refine ak (s2:=[some v0]) rfl ?_
 obtain ⟨r,w,p,ws,ps,rfl,⟨⟨dx,ch,er,ec⟩,ew,ep,nwp⟩,rd,q⟩:=h
 have l1:=rd.wlen
 wtm_at "wp"
 refine ⟨w,ws,rfl,by wtm_at "hg",by omega,fun H1 s1 => ?_⟩
 wtm_at "wp"
 cases hd:due ws with
 | true=>
  rw [hd] at q
  wtm_at "wp"
  exact q _ s1
 | false=>
  rw [hd] at q
  wtm_at "wp"
  rw [List.length_map]
  refine ax (fun c1 => ?_) (fun c1 => ?_)
  ·wtm_at "wp"
   rw [List.length_map]
   have:=q _ s1
   rw [show decide (1≤ps.length)=true from decide_eq_true (by omega)] at this
   rw [show decide ((ps.length:Int) < 12)=decide (ps.length < 12) from decide_eq_decide.mpr ⟨fun z=>by omega,fun z=>by omega⟩]
   exact this
  ·have:=q _ s1
   rw [show decide (1≤ps.length)=false from decide_eq_false (by omega)] at this
   exact this
def Md.str:Md→Str
 | .free => "free"
 | .frame => "frame"
 | .cry => "cry"
 | .dazed => "dazed"
 | .rest => "rest"
theorem md_inj {a b:Md}:(a.str=b.str)↔a=b:=by
 cases a <;> cases b <;> simp [Md.str] <;> decide
def Im:HO→Prop
 | .tup _=>True
 | .frz _ _=>True
 | _=>False
structure Kp (S:List Addr) (H H':Hp):Prop where
 ot:∀ b o,b∉S→H b=some o→H' b=some o
 im:∀ b o,Im o→H b=some o→H' b=some o
theorem Kp.refl (S:List Addr) (H:Hp):Kp S H H:=⟨fun _ _ _ h=>h,fun _ _ _ h=>h⟩
theorem Kp.trans {S:List Addr} {H H1 H2:Hp} (a:Kp S H H1) (b:Kp S H1 H2):Kp S H H2:=⟨fun x o n h=>b.ot x o n (a.ot x o n h),fun x o n h=>b.im x o n (a.im x o n h)⟩
theorem Kp.mono {S S':List Addr} {H H':Hp} (a:Kp S H H') (h:∀ x∈S,x∈S'):Kp S' H H':=⟨fun x o n e=>a.ot x o (fun z=>n (h x z)) e,a.im⟩
theorem Same.kp {S:List Addr} {H H':Hp} (s:Same H H'):Kp S H H':=⟨fun x o _ h=>s x o h,fun x o _ h=>s x o h⟩
theorem Kp.upd {S:List Addr} {H H':Hp} {p:Addr} {o x:HO} (s:Kp S H H') (hp:p∈S) (e:At H' p x) (hx:¬ Im x):Kp S H (upd H' p o):=by
 refine ⟨fun b u n h=>aG (fun z=>n (z ▸ hp)) (s.ot b u n h),fun b u i h => ?_⟩
 have h':=s.im b u i h
 refine aG (fun z => ?_) h'
 subst z
 rw [e] at h'
 cases h'
 exact hx i
theorem Kp.new {S:List Addr} {H H':Hp} {p:Addr} {o:HO} (s:Kp S H H') (hp:aS H' p):Kp S H (L2.upd H' p o):=⟨fun b u n h=>aE hp (s.ot b u n h),fun b u i h=>aE hp (s.im b u i h)⟩
theorem Kp.get {S:List Addr} {H H':Hp} {a:Addr} {o:HO} (s:Kp S H H') (n:a∉S) (h:At H a o):At H' a o:=s.ot a o n h
theorem Kp.tup {S:List Addr} {H H':Hp} {a:Addr} {xs:List V} (s:Kp S H H') (h:At H a (.tup xs)):At H' a (.tup xs):=s.im a _ trivial h
theorem Kp.frz {S:List Addr} {H H':Hp} {a:Addr} {o:Obj} {u:HO} (s:Kp S H H') (h:At H a (.frz o u)):At H' a (.frz o u):=s.im a _ trivial h
theorem Kp.fr {S:List Addr} {H H':Hp} {p:Addr} (s:Kp S H H') (n:p∉S) (h:aS H' p):aS H p:=by
 cases q:H p with
 | none=>exact q
 | some o=>
  have:=s.ot p o n q
  rw [h] at this
  cases this
theorem Chg.kp {n:Addr} {H H':Hp} {x:HO} {S:List Addr} (s:Chg [n] H H') (hn:n∈S) (e:At H n x) (hx:¬ Im x):Kp S H H':=
 ⟨fun b o h q=>s b o (aM fun z=>h (z ▸ hn)) q,fun b o i q=>s b o (aM fun z=>by subst z;rw [e] at q;cases q;exact hx i) q⟩
def FrAt (H:Hp) (v:V) (f:Fr):Prop:=∃ t r o,v = .ref t∧At H t (.tup [.int f.1,.ref r])∧At H r (.frz o (.lst (f.2.map V.int)))
def Frs (H:Hp):List V→List Fr→Prop:=Paired (FrAt H)
theorem FrAt.kp {S:List Addr} {H H':Hp} {v:V} {f:Fr} (h:FrAt H v f) (s:Kp S H H'):FrAt H' v f:=by
 obtain ⟨t,r,o,e,a,b⟩:=h
 exact ⟨t,r,o,e,s.tup a,s.frz b⟩
theorem Frs.kp {S:List Addr} {H H':Hp} {vs:List V} {fs:List Fr} (h:Frs H vs fs) (s:Kp S H H'):Frs H' vs fs:=Paired.mapP h fun _ _ z=>z.kp s
theorem Frs.len {H:Hp} {vs:List V} {fs:List Fr} (h:Frs H vs fs):vs.length=fs.length:=Paired.length h
theorem j5 {α β:Type} {R:α→β→Prop}:∀ {a b:List α} {c d:List β},Paired R a c→Paired R b d→Paired R (a++b) (c++d)
 | _,_,_,_,.nil,h=>h
 | _,_,_,_,.cons r t,h => .cons r (j5 t h)
theorem qh {α β:Type} {R:α→β→Prop}:∀ {a:List α} {c:List β} (k:Nat),Paired R a c→Paired R (a.take k) (c.take k)
 | _,_,0,_ => .nil
 | _,_,_+1,.nil => .nil
 | _,_,k+1,.cons r t => .cons r (qh k t)
theorem qi {α β:Type} {R:α→β→Prop}:∀ {a:List α} {c:List β} (k:Nat),Paired R a c→Paired R (a.drop k) (c.drop k)
 | _,_,0,h=>h
 | _,_,_+1,.nil => .nil
 | _,_,k+1,.cons _ t=>qi k t
theorem mv {α β:Type} {R:α→β→Prop}:∀ {a:List α} {c:List β} (k:Nat),Paired R a c→Paired R (a.eraseIdx k) (c.eraseIdx k)
 | _,_,_,.nil => .nil
 | _,_,0,.cons _ t=>t
 | _,_,k+1,.cons r t => .cons r (mv k t)
theorem eO {α β:Type} {R:α→β→Prop}:∀ {a:List α} {c:List β} {k:Nat} {x:α},Paired R a c→a[k]? = some x→∃ y,c[k]? = some y∧R x y
 | _,_,_,_,.nil,h=>by simp at h
 | _,_,0,_,.cons r _,h=>by
  simp at h
  subst h
  exact ⟨_,rfl,r⟩
 | _,_,k+1,_,.cons _ t,h=>by
  obtain ⟨y,h1,h2⟩:=eO (k:=k) t (by simpa using h)
  exact ⟨y,by simpa using h1,h2⟩
theorem vp {α β:Type} {R:α→β→Prop}:∀ {a:List α} {c:List β} {k:Nat} {y:β},Paired R a c→c[k]? = some y→∃ x,a[k]? = some x∧R x y
 | _,_,_,_,.nil,h=>by simp at h
 | _,_,0,_,.cons r _,h=>by
  simp at h
  subst h
  exact ⟨_,rfl,r⟩
 | _,_,k+1,_,.cons _ t,h=>by
  obtain ⟨y,h1,h2⟩:=vp (k:=k) t (by simpa using h)
  exact ⟨y,by simpa using h1,h2⟩
structure NA where
 r:Addr
 w:Addr
 p:Addr
 q:Addr
 t:Addr
def fpN (n:Addr) (A:NA):List Addr:=[n,A.r,A.w,A.p,A.q,A.t]
def SnAt (H:Hp) (v:V):Option (List Int)→Prop
 | none=>v = .non
 | some s=>∃ a o,v = .ref a∧At H a (.frz o (.lst (s.map V.int)))
theorem SnAt.kp {S:List Addr} {H H':Hp} {v:V} {sn:Option (List Int)} (h:SnAt H v sn) (s:Kp S H H'):SnAt H' v sn:=by
 cases sn with
 | none=>exact h
 | some l=>
  obtain ⟨a,o,e,b⟩:=h
  exact ⟨a,o,e,s.frz b⟩
structure NdAt (c:Cs) (H:Hp) (n:Addr) (A:NA) (d:Nd):Prop where
 ob:∃ dx sv,At H n (.ins c.D dx (ndF (.str d.st.str) (.int (d.ps:Nat)) (.ref A.r) sv (.ref A.q) (.ref A.t) (.int (d.fc:Nat))))∧SnAt H sv d.sn
 rd:RdAt c H A.r A.w A.p d.ws d.pl
 qu:∃ vs,At H A.q (.lst vs)∧Frs H vs d.qu
 tk:∃ vs,At H A.t (.lst vs)∧Frs H vs d.tk
 nd:(fpN n A).Nodup
theorem RdAt.kp {c:Cs} {S:List Addr} {H H':Hp} {r w p:Addr} {ws ps:List Int} (h:RdAt c H r w p ws ps) (s:Kp S H H') (hr:r∉S) (hw:w∉S) (hp:p∉S):RdAt c H' r w p ws ps:=by
 obtain ⟨⟨dx,ch,a,b⟩,d,e,f⟩:=h
 exact ⟨⟨dx,ch,s.get hr a,s.tup b⟩,s.get hw d,s.get hp e,f⟩
theorem NdAt.kp {c:Cs} {S:List Addr} {H H':Hp} {n:Addr} {A:NA} {d:Nd} (h:NdAt c H n A d) (s:Kp S H H') (hd:∀ x∈fpN n A,x∉S):NdAt c H' n A d:=by
 obtain ⟨⟨dx,sv,a,b⟩,r,⟨q,e,f⟩,⟨t,i,j⟩,k⟩:=h
 have m:∀ x∈fpN n A,x∉S:=hd
 simp only [fpN,List.mem_cons,List.not_mem_nil,or_false,forall_eq_or_imp,forall_eq] at m
 obtain ⟨m1,m2,m3,m4,m5,m6⟩:=m
 exact ⟨⟨dx,sv,s.get m1 a,b.kp s⟩,r.kp s m2 m3 m4,⟨q,s.get m5 e,f.kp s⟩,⟨t,s.get m6 i,j.kp s⟩,k⟩
theorem NdAt.same {c:Cs} {H H':Hp} {n:Addr} {A:NA} {d:Nd} (h:NdAt c H n A d) (s:Same H H'):NdAt c H' n A d:=h.kp (S:=[]) (Same.kp s) (fun _ _ z=>by cases z)
theorem NdAt.re {c:Cs} {H H':Hp} {n:Addr} {A:NA} {d:Nd} (h:NdAt c H n A d) (s:Chg [n] H H') {d':Nd} {dx:Addr} {sv:V} (e:At H' n (.ins c.D dx (ndF (.str d'.st.str) (.int (d'.ps:Nat)) (.ref A.r) sv (.ref A.q) (.ref A.t) (.int (d'.fc:Nat)))))
  (es:SnAt H' sv d'.sn) (e1:d'.ws=d.ws) (e2:d'.pl=d.pl) (e3:d'.qu=d.qu) (e4:d'.tk=d.tk):NdAt c H' n A d':=by
 obtain ⟨⟨dx0,sv0,a,b⟩,r,⟨q,f,g⟩,⟨t,i,j⟩,k⟩:=h
 have kk:Kp [n] H H':=Chg.kp s (by simp) a (fun z=>z)
 have nd:=k
 simp only [fpN,List.nodup_cons,List.mem_cons,List.not_mem_nil,or_false,not_or] at nd
 obtain ⟨⟨n1,n2,n3,n4,n5⟩,_⟩:=nd
 refine ⟨⟨dx,sv,e,es⟩,?_,⟨q,kk.get (aM (Ne.symm n4)) f,by rw [e3];exact g.kp kk⟩,⟨t,kk.get (aM (Ne.symm n5)) i,by rw [e4];exact j.kp kk⟩,k⟩
 rw [e1,e2]
 exact r.kp kk (aM (Ne.symm n1)) (aM (Ne.symm n2)) (aM (Ne.symm n3))
def Post (c:Cs) (H:Hp) (n:Addr) (A:NA) (d':Nd) (Q:VK):Prop:=∀ H' A',Kp (fpN n A) H H'→NdAt c H' n A' d'→(∀ x∈fpN n A',x∈fpN n A∨aS H x)→Q .non H'
theorem cj {n:Int} (h0 : -1≤n) (h1:n≤1000000):n.natAbs.log2 < 1920:=by
 have h:n.natAbs < 2 ^ 20:=by
  have:(2:Nat) ^ 20=1048576:=by decide
  omega
 have:n.natAbs.log2 < 20:=by
  rcases Nat.eq_zero_or_pos n.natAbs with z | z
  ·rw [z];decide
  ·exact (Nat.log2_lt (by omega)).mpr h
 omega
theorem iK {n:Nat} (h:n≤5000):n < sizeLine:=Nat.lt_of_le_of_lt h (by decide +kernel)
def zC (H:Hp):V→V
 | .ref t=>match H t with
  | some (.tup (x :: _))=>x
  | _ => .non
 | _ => .non
theorem j6 {H:Hp} {v:V} {f:Fr} (h:FrAt H v f):zC H v = .int f.1:=by
 obtain ⟨t,r,o,rfl,a,b⟩:=h
 have a':H t=some (.tup [.int f.1,.ref r]):=a
 simp only [zC,a']
theorem j7 {H:Hp}:∀ {vs:List V} {fs:List Fr},Frs H vs fs→vs.map (zC H)=(fs.map (·.1)).map V.int
 | _,_,.nil=>rfl
 | _,_,.cons r t=>by
  rw [List.map_cons,List.map_cons,List.map_cons,j6 r]
  exact congrArg _ (j7 t)
theorem vq {n:Int}:∀ {q:List Fr} {k:Nat},k≤q.length→(∀ i f,i < k→q[i]? = some f→f.1≤n)→k≤Nd.spot n q
 | _,0,_,_=>Nat.zero_le _
 | [],k+1,h,_=>by simp at h
 | f :: q,k+1,h,a=>by
  unfold Nd.spot
  rw [if_pos (a 0 f (by omega) rfl)]
  have:=vq (q:=q) (k:=k) (by simpa using h) (fun i g hi hg=>a (i+1) g (by omega) (by simpa using hg))
  omega
theorem qj {n:Int}:∀ {q:List Fr} {k:Nat} {f:Fr},k < Nd.spot n q→q[k]? = some f→f.1≤n
 | [],_,_,h,_=>by simp [Nd.spot] at h
 | g :: q,k,f,h,e=>by
  unfold Nd.spot at h
  split at h
  ·rename_i hg
   cases k with
   | zero=>simp at e;subst e;exact hg
   | succ k=>exact qj (q:=q) (k:=k) (by omega) (by simpa using e)
  ·omega
abbrev kI:Stmt:=(aj (top 43) 19)
abbrev j8 (K:PySem.W.Frag) (c:Cs):Sp:=sp2 fun u v H Q _=>∃ (n dx:Addr) (st ps rd sn qu tk fc:V) (s:Str),u = .ref n∧v = .str s∧At H n (.ins c.D dx (ndF st ps rd sn qu tk fc))∧(∀ H',Chg [n] H H'→At H' n (.ins c.D dx (ndF (.str s) (.int 0) rd sn qu tk fc))→Q .non H')
theorem j9:FnScope ["self", "state"] ["self", "state"] (ah kI):=aR
theorem cm (T:Txt K mg c):fX P w K mg base CX0 1 c.D "turn_to" ["self", "state"] (j8 K c):=by
 refine T.d_Node_turn_to.ok j9 (fun _ _ _ _ _ _ us hl=>match us,hl with | [_,_],_=>rfl) fj (fun f cdv A outer s H vs Q E hr h => ?_)
 obtain ⟨v0,v1,rfl,h⟩:=h
 refine ⟨_,(ag (bF (K:=K) (pv 0) (pv 1))
   (ad (bF (K:=K) (pv 0) af))),?_⟩
 try dsimp only [br,Cx.nox,Cx.wish]
 refine ak (s2:=[some v0,some v1]) rfl ?_
 obtain ⟨n,dx,st,ps,rd,sn,qu,tk,fc,s,rfl,rfl,e,q⟩:=h
 wtm_at "wp"
 exact q _ (by wtm_at "hc") ac
abbrev ka:Stmt:=(aj (top 43) 18)
abbrev jf (K:PySem.W.Frag) (c:Cs):Sp:=sp3 fun u v w H Q _=>∃ (n dx:Addr) (st rd sn qu tk fc:V) (p m:Nat) (s:Str),u = .ref n∧v = .int (m:Nat)∧w = .str s∧At H n (.ins c.D dx (ndF st (.int (p:Nat)) rd sn qu tk fc)) ∧
 (∀ H',Chg [n] H H'→(p+1=m→At H' n (.ins c.D dx (ndF (.str s) (.int 0) rd sn qu tk fc)))→(¬ p+1=m→At H' n (.ins c.D dx (ndF st (.int ((p+1:Nat):Int)) rd sn qu tk fc)))→Q .non H')
theorem jg:FnScope ["self", "many", "state"] ["self", "many", "state"] (ah ka):=aR
theorem cQ (T:Txt K mg c):fX P w K mg base CX0 2 c.D "pass_one" ["self", "many", "state"] (jf K c):=by
 refine T.d_Node_pass_one.ok jg (fun _ _ _ _ _ _ us hl=>match us,hl with | [_,_,_],_=>rfl) CG (fun f cdv A outer s H vs Q E hr h => ?_)
 obtain ⟨v0,v1,v2,rfl,h⟩:=h
 refine ⟨_,(ag (fm (K:=K) (pv 0) af q9)
   (ad (aQ (ai bg (av (K:=K) (pv 0)) (pv 1) (ao _))
    (ad (aH (d7 T.k_Node (cm T) hr ay (pv 0) (aa (pv 2) ae))))
    az))),?_⟩
 try dsimp only [br,Cx.nox,Cx.wish]
 refine ak (s2:=[some v0,some v1,some v2]) rfl ?_
 obtain ⟨n,dx,st,rd,sn,qu,tk,fc,p,m,s,rfl,rfl,rfl,e,q⟩:=h
 wtm_at "wp"
 refine ax (fun c1 => ?_) (fun c1 => ?_)
 ·wtm_at "wp"
  refine ⟨n,dx,_,_,_,_,_,_,_,s,rfl,rfl,ac,fun H1 k1 e1 => ?_⟩
  exact q _ (((Chg.refl [n] H).upd (by simp)).trans k1) (fun _=>e1) (fun z=>absurd (by omega) z)
 ·wtm_at "wp"
  refine q _ (by wtm_at "hc") (fun z=>absurd (by omega) c1) (fun _ => ?_)
  rw [show ((p+1:Nat):Int)=(p:Int)+1 by omega]
  exact ac
abbrev kJ:Stmt:=(aj (top 43) 17)
abbrev eP (K:PySem.W.Frag) (c:Cs):Sp:=sp1 fun u H Q _=>∃ (n dx:Addr) (st ps rd sn qu tk:V) (f:Nat),u = .ref n∧At H n (.ins c.D dx (ndF st ps rd sn qu tk (.int (f:Nat))))∧(∀ H',Chg [n] H H'→At H' n (.ins c.D dx (ndF (.str Md.cry.str) (.int 0) rd sn qu tk (.int ((f+1:Nat):Int))))→Q .non H')
theorem kc:FnScope ["self"] ["self"] (ah kJ):=aR
theorem eQ (T:Txt K mg c):fX P w K mg base CX0 2 c.D "cry_out" ["self"] (eP K c):=by
 refine T.d_Node_cry_out.ok kc (fun _ _ _ _ _ _ us hl=>match us,hl with | [_],_=>rfl) gB (fun f cdv A outer s H vs Q E hr h => ?_)
 obtain ⟨v0,rfl,h⟩:=h
 refine ⟨_,(ag (fm (K:=K) (pv 0) af q9)
   (ad (aH (d7 T.k_Node (cm T) hr ay (pv 0) (aa (pgs T.c_CRY) ae))))),?_⟩
 try dsimp only [br,Cx.nox,Cx.wish]
 refine ak (s2:=[some v0]) rfl ?_
 obtain ⟨n,dx,st,ps,rd,sn,qu,tk,f,rfl,e,q⟩:=h
 wtm_at "wp"
 refine ⟨n,dx,_,_,_,_,_,_,_,_,rfl,rfl,ac,fun H1 k1 e1 => ?_⟩
 refine q _ (((Chg.refl [n] H).upd (by simp)).trans k1) ?_
 rw [show ((f+1:Nat):Int)=(f:Int)+1 by omega]
 exact e1
abbrev gX:Stmt:=(aj (top 43) 1)
abbrev gp (K:PySem.W.Frag) (c:Cs):Sp:=sp2 fun u v H Q _=>∃ (n:Addr) (A:NA) (d:Nd) (name:Int),u = .ref n∧v = .int name∧NdAt c H n A d∧d.qu.length≤900∧(∀ H',Same H H'→Q (.bl (decide (name∈d.qu.map (·.1)))) H')
theorem gq:FnScope ["self", "name"] ["self", "name"] (ah gX):=aR
theorem gr (T:Txt K mg c):fX P w K mg base CX0 1 c.D "has_waiting" ["self", "name"] (gp K c):=by
 refine T.d_Node_has_waiting.ok gq (fun _ _ _ _ _ _ us hl=>match us,hl with | [_,_],_=>rfl) fj (fun f cdv A outer s H vs Q E hr h => ?_)
 obtain ⟨v0,v1,rfl,h⟩:=h
 refine ⟨_,(ad (aC (bM (ix (K:=K)) (pv 1) (cP [] [] (aV (K:=K) (av (K:=K) (pv 0))) (fun fp s H=>(bh (bR (K:=K)) (pv 0) af (fun _ _=>rfl)))) (by with_unfolding_all rfl)))),?_⟩
 try dsimp only [br,Cx.nox,Cx.wish]
 refine ak (s2:=[some v0,some v1]) rfl ?_
 obtain ⟨n,A,d,name,rfl,rfl,⟨⟨dx,sv,eo,es⟩,ro,⟨qs,eq,fq⟩,⟨ts,et,ft⟩,nd⟩,hl,q⟩:=h
 have ql:=fq.len
 wtm_at "wp"
 refine b9 ?_
 wtm_at "wp"
 refine db (zC H) (At.sqL eq) (small (by omega)) (fun i x H' R hx s1 hR => ?_) (fun D Hf s1 fD eD => ?_)
 ·obtain ⟨f,hf,t,r,o,rfl,a,b⟩:=eO fq hx
  show tOp _ _ _ [some (.ref t)] _ _
  wtm_at "wp"
  have:=hR H' (Same.refl _)
  rw [j6 ⟨t,r,o,rfl,a,b⟩] at this
  exact this
 rw [j7 fq] at eD
 have eD':At Hf D (.lst ((d.qu.map (·.1)).map V.int)):=eD
 refine xH (l:=d.qu.map (·.1)) (.inl (At.sqL eD')) ?_
 wtm_at "wp"
 exact q _ s1
abbrev kd:Stmt:=(aj (top 43) 2)
abbrev jh (K:PySem.W.Frag) (c:Cs):Sp:=sp3 fun u v w H Q _=>∃ (n a:Addr) (A:NA) (d:Nd) (name:Int) (row:List Int),u = .ref n∧v = .int name∧w = .ref a∧NdAt c H n A d∧SqL K H a (row.map V.int)∧d.qu.length≤900∧Post c H n A (d.letWait (name,row)) Q
theorem sc_Node_let_wait:FnScope ["self", "name", "row", "at"] ["self", "name", "row"] (ah kd):=aR
theorem ji (T:Txt K mg c):fX P w K mg base CX0 1 c.D "let_wait" ["self", "name", "row"] (jh K c):=by
 refine T.d_Node_let_wait.ok sc_Node_let_wait (fun _ _ _ _ _ _ us hl=>match us,hl with | [_,_,_],_=>rfl) CG (fun f cdv A outer s H vs Q E hr h => ?_)
 obtain ⟨v0,v1,v2,rfl,h⟩:=h
 refine ⟨_,(ag (aD (i:=3) sc_Node_let_wait.nd rfl (.inl rfl) af)
   (aZ (qU PassesOwn.never (PW.pt (bZ (ai gF (pv 3) (aw (aq (K:=K)) rfl T.len PySem.boot_len (aa (av (K:=K) (pv 0)) ae)) (ao _)) (bK (ai jB (bh (bR (K:=K)) (bh (aK (K:=K)) (av (K:=K) (pv 0)) (pv 3) (fun _ _=>rfl)) af (fun _ _=>rfl)) (pv 1) (ao _)))))
    (ad (Av (i:=3) sc_Node_let_wait.nd rfl (.inl rfl) af Aw)))
   (ad (aH (cr (K:=K) PySem.F.plainAttrs_list PySem.F.slot_list_insert PySem.F.type_list_insert uB (av (K:=K) (pv 0)) (aa (pv 3) (aa (cH (aa (pv 1) (aa (dY (cJ (de (K:=K)) rfl T.list PyProof.Rows.boot_list (aa (pv 2) ae))) ae))) ae))))))),?_⟩
 try dsimp only [br,Cx.nox,Cx.wish]
 refine ak (s2:=[some v0,some v1,some v2,none]) rfl ?_
 obtain ⟨n,a,A,d,name,row,rfl,rfl,rfl,⟨⟨dx,sv,eo,es⟩,ro,⟨qs,eq,fq⟩,⟨ts,et,ft⟩,nd⟩,hS,hl,q⟩:=h
 have ql:=fq.len
 have sl:=pR name d.qu
 wtm_at "wp"
 refine bz (fun σ H2=>H2=H∧σ=[some (.ref n),some (.int name),some (.ref a),some (.int (Nd.spot name d.qu:Nat))]) ?_ ?_
 ·refine qW (fun σ H2=>H2=H∧∃ k:Nat,σ=[some (.ref n),some (.int name),some (.ref a),some (.int (k:Int))]∧k≤Nd.spot name d.qu) (fun σ _=>match σ with | [_,_,_,some (.int k)]=>d.qu.length - k.toNat | _=>0) ⟨rfl,0,rfl,Nat.zero_le _⟩ ?_ ?_
  ·rintro σ H2 ⟨rfl,k,rfl,hk⟩
   wtm_at "wp"
   rw [ql]
   refine ax (fun c1 => ?_) (fun c1 => ?_)
   ·have hkl:k < d.qu.length:=by omega
    obtain ⟨x,hx,t,r,o,rfl,et1,er1⟩:=vp fq (List.getElem?_eq_getElem hkl)
    wtm_at "wp"
    refine bf (At.sqL eq) (dE hx) ?_
    wtm_at "wp"
    refine ax (fun c2 => ?_) (fun c2 => ?_)
    ·wtm_at "wp"
     refine ⟨⟨rfl,k+1,by rw [show ((k+1:Nat):Int)=(k:Int)+1 by omega],vq (by omega) (fun i f hi hf => ?_)⟩,?_⟩
     ·rcases Nat.lt_or_ge i k with z | z
      ·exact qj (by omega) hf
      ·have:i=k:=by omega
       subst this
       rw [List.getElem?_eq_getElem hkl] at hf
       cases hf
       exact c2
     ·show d.qu.length - ((k:Int)+1).toNat < d.qu.length - (k:Int).toNat
      omega
    ·wtm_at "wp"
     have:Nd.spot name d.qu=k:=by
      rcases Nat.lt_or_ge k (Nd.spot name d.qu) with z | z
      ·exact absurd (qj z (List.getElem?_eq_getElem hkl)) c2
      ·omega
     rw [this]
     exact ⟨rfl,rfl⟩
   ·wtm_at "wp"
    have:Nd.spot name d.qu=k:=by omega
    rw [this]
    exact ⟨rfl,rfl⟩
  ·intro σ H2 R R' hRR h
   exact xJ (lX (kx uv eF (y4 ux (pJ (xI eF) uu)))) (lX (kx uv (kx BN (kx uw (xI eF) eF) DN) eF)) σ H2 R R' hRR h
 ·rintro σ H2 ⟨rfl,rfl⟩
  wtm_at "wp"
  intro b hb
  refine bQ ac (fun ob => ?_)
  wtm_at "wp"
  refine ⟨small (show 2≤1000 by decide),fun t ht => ?_⟩
  wtm_at "wp"
  have e1:At (upd (upd (upd H2 b (.lst (row.map V.int))) b (.frz ob (.lst (row.map V.int)))) t (.tup [.int name,.ref b])) A.q (.lst qs):=aE ht (aG (aJ hb eq) (aE hb eq))
  refine uC e1 (by omega) (by omega) ?_
  have nd':=nd
  simp only [fpN,List.nodup_cons,List.mem_cons,List.not_mem_nil,or_false,not_or] at nd'
  obtain ⟨⟨n1,n2,n3,n4,n5⟩,⟨m1,m2,m3,m4⟩,⟨o1,o2,o3⟩,⟨p1,p2⟩,q1,_⟩:=nd'
  have k1:Kp (fpN n A) H2 (upd (upd (upd H2 b (.lst (row.map V.int))) b (.frz ob (.lst (row.map V.int)))) t (.tup [.int name,.ref b])):=by
   refine Kp.new ?_ ht
   exact ⟨fun x u hx h=>aG (aB h hb) (aE hb h),fun x u hx h=>aG (aB h hb) (aE hb h)⟩
  have k2:=k1.upd (o := .lst (qs.take (Nd.spot name d.qu) ++ .ref t :: qs.drop (Nd.spot name d.qu))) (p:=A.q) (by simp [fpN]) e1 (fun z=>z)
  have k3:Kp [A.q] H2 (upd (upd (upd (upd H2 b (.lst (row.map V.int))) b (.frz ob (.lst (row.map V.int)))) t (.tup [.int name,.ref b])) A.q (.lst (qs.take (Nd.spot name d.qu) ++ .ref t :: qs.drop (Nd.spot name d.qu)))):=by
   refine Kp.upd (Kp.new ?_ ht) (by simp) e1 (fun z=>z)
   exact ⟨fun x u hx h=>aG (aB h hb) (aE hb h),fun x u hx h=>aG (aB h hb) (aE hb h)⟩
  refine q _ A k2 ⟨⟨dx,sv,k3.get (aM n4) eo,es.kp k3⟩,ro.kp k3 (aM m3) (aM o2) (aM p1),⟨_,ac,?_⟩,⟨ts,k3.get (aM (Ne.symm q1)) et,ft.kp k3⟩,nd⟩ (fun x hx => .inl hx)
  refine j5 (qh _ (fq.kp k3)) (.cons ⟨t,b,ob,rfl,?_,?_⟩ (qi _ (fq.kp k3)))
  ·exact aG (Ne.symm (aJ ht (aG (aJ hb eq) (aE hb eq)))) ac
  ·exact aG (Ne.symm (aJ hb eq)) (aE ht ac)
theorem xc {α:Type} (x:α) (l:List α):atI (x :: l) 0=some x:=dE (j:=0) rfl
theorem vt {n:Addr} {A:NA} (h:(fpN n A).Nodup):(n≠A.r∧n≠A.w∧n≠A.p∧n≠A.q∧n≠A.t)∧(A.r≠A.w∧A.r≠A.p∧A.r≠A.q∧A.r≠A.t)∧(A.w≠A.p∧A.w≠A.q∧A.w≠A.t)∧(A.p≠A.q∧A.p≠A.t)∧A.q≠A.t:=by
 simp only [fpN,List.nodup_cons,List.mem_cons,List.not_mem_nil,or_false,not_or] at h
 obtain ⟨a,b,d,e,f,_⟩:=h
 exact ⟨a,b,d,e,f⟩
theorem NdAt.own {c:Cs} {H H':Hp} {n:Addr} {A:NA} {d d':Nd} {Q:VK} (h:NdAt c H n A d) (q:Post c H n A d' Q) (s:Chg [n] H H') {dx:Addr} {sv:V} (e:At H' n (.ins c.D dx (ndF (.str d'.st.str) (.int (d'.ps:Nat)) (.ref A.r) sv (.ref A.q) (.ref A.t) (.int (d'.fc:Nat)))))
  (es:SnAt H sv d'.sn) (e1:d'.ws=d.ws) (e2:d'.pl=d.pl) (e3:d'.qu=d.qu) (e4:d'.tk=d.tk):Q .non H':=by
 obtain ⟨⟨dx0,sv0,eo,_⟩,_⟩:=id h
 have kk:Kp (fpN n A) H H':=Chg.kp s (by simp [fpN]) eo (fun z=>z)
 exact q H' A kk (h.re s e (es.kp kk) e1 e2 e3 e4) (fun x hx => .inl hx)
abbrev gY:Stmt:=(aj (top 43) 14)
abbrev gs (K:PySem.W.Frag) (c:Cs):Sp:=sp2 fun u v H Q _=>∃ (n:Addr) (A:NA) (d:Nd) (sn:Option (List Int)),u = .ref n∧NdAt c H n A d∧SnAt H v sn∧Post c H n A (d.enter sn) Q
theorem gu:FnScope ["self", "sending"] ["self", "sending"] (ah gY):=aR
theorem dl (T:Txt K mg c):fX P w K mg base CX0 7 c.D "enter_frame" ["self", "sending"] (gs K c):=by
 refine T.d_Node_enter_frame.ok gu (fun _ _ _ _ _ _ us hl=>match us,hl with | [_,_],_=>rfl) fj (fun f cdv A outer s H vs Q E hr h => ?_)
 obtain ⟨v0,v1,rfl,h⟩:=h
 refine ⟨_,(ag (aH (d7 T.k_Node (cm T) hr ay (pv 0) (aa (pgs T.c_FRAME) ae)))
   (ag (bF (K:=K) (pv 0) (uh (dk T) hr T.m_Reading ay))
   (ad (bF (K:=K) (pv 0) (pv 1))))),?_⟩
 try dsimp only [br,Cx.nox,Cx.wish]
 refine ak (s2:=[some v0,some v1]) rfl ?_
 obtain ⟨n,A,d,sn,rfl,h,hsn,q⟩:=h
 obtain ⟨⟨dx,sv,eo,es⟩,ro,⟨qs,eq,fq⟩,⟨ts,et,ft⟩,nd⟩:=id h
 obtain ⟨⟨n1,n2,n3,n4,n5⟩,_⟩:=vt nd
 wtm_at "wp"
 refine ⟨n,dx,_,_,_,_,_,_,_,_,rfl,rfl,eo,fun H1 k1 e1 => ?_⟩
 have kp1:Kp (fpN n A) H H1:=Chg.kp k1 (by simp [fpN]) eo (fun z=>z)
 have km1:Kp [n] H H1:=Chg.kp k1 (by simp) eo (fun z=>z)
 wtm_at "wp"
 intro x dx2 hx hdx ndx
 wtm_at "wp"
 refine ⟨x,dx2,rfl,ac,fun H2 w p k2 fw fp ro2=>⟨rfl,?_⟩⟩
 have s2:Same H1 H2:=Chg.made hx hdx k2
 have e2:=s2.get e1
 have fw1:aS H1 w:=wJ fw
 have fp1:aS H1 p:=wJ fp
 have nxn:x≠n:=Ne.symm (aJ hx e1)
 have nwn:w≠n:=Ne.symm (aJ fw1 e1)
 have npn:p≠n:=Ne.symm (aJ fp1 e1)
 wtm_at "wp"
 have e3:At (upd (upd H2 n (.ins c.D dx (ndF (.str Md.frame.str) (.int 0) (.ref x) sv (.ref A.q) (.ref A.t) (.int (d.fc:Nat))))) n (.ins c.D dx (ndF (.str Md.frame.str) (.int 0) (.ref x) v1 (.ref A.q) (.ref A.t) (.int (d.fc:Nat))))) n (.ins c.D dx (ndF (.str Md.frame.str) (.int 0) (.ref x) v1 (.ref A.q) (.ref A.t) (.int (d.fc:Nat)))):=ac
 have c3:Chg [n] H2 (upd (upd H2 n (.ins c.D dx (ndF (.str Md.frame.str) (.int 0) (.ref x) sv (.ref A.q) (.ref A.t) (.int (d.fc:Nat))))) n (.ins c.D dx (ndF (.str Md.frame.str) (.int 0) (.ref x) v1 (.ref A.q) (.ref A.t) (.int (d.fc:Nat))))):=((Chg.refl [n] H2).upd (by simp)).upd (by simp)
 have k3:=Chg.kp (S:=fpN n A) c3 (by simp [fpN]) e2 (fun z=>z)
 have m3:=Chg.kp (S:=[n]) c3 (by simp) e2 (fun z=>z)
 have kk:Kp (fpN n A) H _:=(kp1.trans (Same.kp s2)).trans k3
 have mm:Kp [n] H _:=(km1.trans (Same.kp s2)).trans m3
 have eqH:At H1 A.q (.lst qs):=km1.get (aM (Ne.symm n4)) eq
 have etH:At H1 A.t (.lst ts):=km1.get (aM (Ne.symm n5)) et
 have fxH:aS H x:=km1.fr (aM nxn) hx
 have fwH:aS H w:=km1.fr (aM nwn) fw1
 have fpH:aS H p:=km1.fr (aM npn) fp1
 have nxw:x≠w:=by
  obtain ⟨⟨_,_,er,_⟩,ew,_,_⟩:=ro2
  exact er.ne ew (by intro z;cases z)
 have nxp:x≠p:=by
  obtain ⟨⟨_,_,er,_⟩,_,ep,_⟩:=ro2
  exact er.ne ep (by intro z;cases z)
 refine q _ ⟨x,w,p,A.q,A.t⟩ kk ⟨⟨dx,v1,e3,hsn.kp kk⟩,ro2.kp m3 (aM nxn) (aM nwn) (aM npn),⟨qs,mm.get (aM (Ne.symm n4)) eq,fq.kp kk⟩,⟨ts,mm.get (aM (Ne.symm n5)) et,ft.kp kk⟩,?_⟩ ?_
 ·have a1:x≠A.q:=Ne.symm (aJ hx eqH)
  have a2:x≠A.t:=Ne.symm (aJ hx etH)
  have a3:w≠A.q:=Ne.symm (aJ fw1 eqH)
  have a4:w≠A.t:=Ne.symm (aJ fw1 etH)
  have a5:p≠A.q:=Ne.symm (aJ fp1 eqH)
  have a6:p≠A.t:=Ne.symm (aJ fp1 etH)
  have a7:=(vt nd).2.2.2.2
  have a8:=ro2.ne
  simp only [fpN,List.nodup_cons,List.mem_cons,List.not_mem_nil,or_false,not_or,List.nodup_nil,not_false_eq_true,and_true]
  exact ⟨⟨Ne.symm nxn,Ne.symm nwn,Ne.symm npn,n4,n5⟩,⟨nxw,nxp,a1,a2⟩,⟨a8,a3,a4⟩,⟨a5,a6⟩,a7⟩
 ·intro y hy
  simp only [fpN,List.mem_cons,List.not_mem_nil,or_false] at hy
  rcases hy with rfl | rfl | rfl | rfl | rfl | rfl
  ·exact .inl (by simp [fpN])
  ·exact .inr fxH
  ·exact .inr fwH
  ·exact .inr fpH
  ·exact .inl (by simp [fpN])
  ·exact .inl (by simp [fpN])
abbrev fK:Stmt:=(aj (top 43) 3)
abbrev eS (K:PySem.W.Frag) (c:Cs):Sp:=sp1 fun u H Q _=>∃ (n:Addr) (A:NA) (d:Nd),u = .ref n∧NdAt c H n A d∧NdOk d∧Post c H n A d.begin Q
theorem sc_Node_begin_if_free:FnScope ["self", "first"] ["self"] (ah fK):=aR
theorem eT (T:Txt K mg c):fX P w K mg base CX0 8 c.D "begin_if_free" ["self"] (eS K c):=by
 refine T.d_Node_begin_if_free.ok sc_Node_begin_if_free (fun _ _ _ _ _ _ us hl=>match us,hl with | [_],_=>rfl) gB (fun f cdv A outer s H vs Q E hr h => ?_)
 obtain ⟨v0,rfl,h⟩:=h
 refine ⟨_,(ad (aQ (PW.pt (bZ (ai bg (av (K:=K) (pv 0)) (pgs T.c_FREE) (ao _)) (bK (ai mR (aw (aq (K:=K)) rfl T.len PySem.boot_len (aa (av (K:=K) (pv 0)) ae)) af (ao _)))))
    (ag (aD (i:=1) sc_Node_begin_if_free.nd rfl (.inl rfl) (bh (aK (K:=K)) (av (K:=K) (pv 0)) af (fun _ _=>rfl)))
    (ad (aH (d7 T.k_Node (dl T) hr ay (pv 0) (aa (dY (bV (sR T) hr ay (aa (bV (sP T) hr nE (aa (bh (bR (K:=K)) (pv 1) af (fun _ _=>rfl)) (aa (bh (bR (K:=K)) (pv 1) af (fun _ _=>rfl)) ae))) ae))) ae)))))
    az)),?_⟩
 try dsimp only [br,Cx.nox,Cx.wish]
 refine ak (s2:=[some v0,none]) rfl ?_
 obtain ⟨n,A,d,rfl,h,ok,q⟩:=h
 obtain ⟨⟨dx,sv,eo,es⟩,ro,⟨qs,eq,fq⟩,⟨ts,et,ft⟩,nd⟩:=id h
 have ql:=fq.len
 have same:d.begin=d→Q .non H:=fun e=>by
  rw [e] at q
  exact q H A (Kp.refl _ _) h (fun x hx => .inl hx)
 wtm_at "wp"
 refine ax (fun c1 => ?_) (fun c1 => ?_)
 ·have st:d.st = .free:=md_inj.mp c1
  wtm_at "wp"
  rw [ql]
  refine ax (fun c2 => ?_) (fun c2 => ?_)
  ·cases hqu:d.qu with
   | nil=>rw [hqu] at c2;simp at c2
   | cons f fs=>
    rw [hqu] at fq
    cases fq with
    | cons r1 rest=>
     obtain ⟨t,r,o,rfl,et1,er1⟩:=r1
     have g:=ok.qu f (by rw [hqu];exact List.mem_cons_self)
     have gl:=dA f.1 f.2
     wtm_at "wp"
     refine bf (At.sqL eq) (xc _ _) ?_
     wtm_at "wp"
     refine ⟨r,f.1,f.2,rfl,rfl,At.sqF er1,cj (by have:=g.1;omega) (by have:=g.1;omega),fun b hb=>cj (by have:=g.2.2 b hb;omega) (by have:=g.2.2 b hb;omega),fun _ => ?_,fun z=>absurd g z⟩
     intro b1 H1 s1 fb1 eb1
     wtm_at "wp"
     refine ⟨b1,aW f.1 f.2,rfl,At.sqL eb1,dO _ _,by have:=g.2.1;omega,fun b2 H2 s2 fb2 eb2 => ?_⟩
     have s12:=s1.trans s2
     refine bQ eb2 (fun ob => ?_)
     have fb2H:aS H b2:=s1.fr fb2
     have s3:Same H (upd H2 b2 (.frz ob (.lst ((aT (aW f.1 f.2)).map V.int)))):=s12.upF fb2H
     wtm_at "wp"
     refine ⟨n,A,d,some (bI f),rfl,h.same s3,⟨b2,ob,rfl,ac⟩,fun H4 A' k4 h4 f4 => ?_⟩
     have eb:d.begin=d.enter (some (bI f)):=by unfold Nd.begin;rw [if_pos st,hqu]
     rw [eb] at q
     refine q H4 A' ((Same.kp s3).trans k4) h4 (fun x hx => ?_)
     rcases f4 x hx with z | z
     ·exact .inl z
     ·exact .inr (s3.fr z)
  ·have hqu:d.qu=[]:=List.length_eq_zero_iff.mp (by omega)
   wtm_at "wp"
   exact same (by unfold Nd.begin;rw [if_pos st,hqu])
 ·wtm_at "wp"
  exact same (by unfold Nd.begin;rw [if_neg (fun z=>c1 (md_inj.mpr z))])
abbrev gv:Stmt:=(aj (top 43) 5)
abbrev fL (K:PySem.W.Frag) (c:Cs):Sp:=sp1 fun u H Q _=>∃ (n:Addr) (A:NA) (d:Nd),u = .ref n∧NdAt c H n A d∧NdOk d∧d.st = .frame∧(∀ H',Same H H'→Q (.int d.putFrame) H')
theorem fM:FnScope ["self"] ["self"] (ah gv):=aR
theorem fN (T:Txt K mg c):fX P w K mg base CX0 2 c.D "put_in_frame" ["self"] (fL K c):=by
 refine T.d_Node_put_in_frame.ok fM (fun _ _ _ _ _ _ us hl=>match us,hl with | [_],_=>rfl) gB (fun f cdv A outer s H vs Q E hr h => ?_)
 obtain ⟨v0,rfl,h⟩:=h
 refine ⟨_,(ag (aQ (cC (ku T.k_Reading (dy T) hr ay (av (K:=K) (pv 0))))
    (ad (aC (jr (PW.pt (bZ (ai bg (av (K:=K) (pv 0)) (pgi T.c_ANSWER_AT) (ao _)) (bK (ai iw (av (K:=K) (pv 0)) cc (ao _))))) af af)))
    az)
   (ad (aC (jr (ai iw (av (K:=K) (pv 0)) cc (ao _)) af (bh (aK (K:=K)) (av (K:=K) (pv 0)) (aw (aq (K:=K)) rfl T.len PySem.boot_len (aa (av (K:=K) (av (K:=K) (pv 0))) ae)) (fun _ _=>rfl)))))),?_⟩
 try dsimp only [br,Cx.nox,Cx.wish]
 refine ak (s2:=[some v0]) rfl ?_
 obtain ⟨n,A,d,rfl,h,ok,st,q⟩:=h
 obtain ⟨⟨dx,sv,eo,es⟩,⟨⟨rx,ch,er,ec⟩,ew,ep,nwp⟩,⟨qs,eq,fq⟩,⟨ts,et,ft⟩,nd⟩:=id h
 wtm_at "wp"
 refine ⟨A.r,A.w,A.p,d.ws,d.pl,rfl,⟨⟨rx,ch,er,ec⟩,ew,ep,nwp⟩,fun H1 s1 => ?_⟩
 wtm_at "wp"
 cases hov:d.over with
 | true=>
  rw [show decide (aF d.ws d.pl=[])=true from hov]
  have ep1:∀ P:Prop,d.putFrame=(if d.ps=1∧d.sn=none then 0 else 1):=fun _=>by unfold Nd.putFrame;rw [hov,if_pos rfl]
  have ep1:=ep1 True
  wtm_at "wp"
  refine ax (fun c1 => ?_) (fun c1 => ?_)
  ·wtm_at "wp"
   cases hsn:d.sn with
   | none=>
    rw [hsn] at es
    cases es
    wtm_at "wp"
    have:=q _ s1
    rw [ep1,if_pos ⟨by omega,hsn⟩] at this
    exact this
   | some l=>
    rw [hsn] at es
    obtain ⟨a,o,rfl,ea⟩:=es
    wtm_at "wp"
    have:=q _ s1
    rw [ep1,if_neg (fun z=>by rw [hsn] at z;cases z.2)] at this
    exact this
  ·wtm_at "wp"
   have:=q _ s1
   rw [ep1,if_neg (fun z=>c1 (by omega))] at this
   exact this
 | false=>
  rw [show decide (aF d.ws d.pl=[])=false from hov]
  wtm_at "wp"
  cases hsn:d.sn with
  | none=>
   rw [hsn] at es
   cases es
   wtm_at "wp"
   have:=q _ s1
   unfold Nd.putFrame at this
   rw [hov,if_neg (by decide),hsn] at this
   exact this
  | some l=>
   have more:=ok.more st hsn hov
   rw [hsn] at es
   obtain ⟨a,o,rfl,ea⟩:=es
   wtm_at "wp"
   rw [List.length_map]
   refine bf (by wtm_at "hg") (cx more) ?_
   wtm_at "wp"
   have:=q _ s1
   unfold Nd.putFrame at this
   rw [hov,if_neg (by decide),hsn] at this
   exact this
abbrev sU:Stmt:=(aj (top 43) 4)
abbrev qk (K:PySem.W.Frag) (c:Cs):Sp:=sp1 fun u H Q _=>∃ (n:Addr) (A:NA) (d:Nd),u = .ref n∧NdAt c H n A d∧NdOk d∧(∀ H',Same H H'→Q (.int d.put) H')
theorem qm:FnScope ["self"] ["self"] (ah sU):=aR
theorem qp (T:Txt K mg c):fX P w K mg base CX0 3 c.D "put" ["self"] (qk K c):=by
 refine T.d_Node_put.ok qm (fun _ _ _ _ _ _ us hl=>match us,hl with | [_],_=>rfl) gB (fun f cdv A outer s H vs Q E hr h => ?_)
 obtain ⟨v0,rfl,h⟩:=h
 refine ⟨_,(ag (aQ (ai bg (av (K:=K) (pv 0)) (pgs T.c_CRY) (ao _))
    (ad (aC af))
    az)
   (ag (aQ (ai bg (av (K:=K) (pv 0)) (pgs T.c_FRAME) (ao _))
    (ad (aC (ku T.k_Node (fN T) hr ay (pv 0))))
    az)
   (ad (aC af)))),?_⟩
 try dsimp only [br,Cx.nox,Cx.wish]
 refine ak (s2:=[some v0]) rfl ?_
 obtain ⟨n,A,d,rfl,h,ok,q⟩:=h
 obtain ⟨⟨dx,sv,eo,es⟩,ro,⟨qs,eq,fq⟩,⟨ts,et,ft⟩,nd⟩:=id h
 wtm_at "wp"
 refine ax (fun c1 => ?_) (fun c1 => ?_)
 ·have st:d.st = .cry:=md_inj.mp c1
  wtm_at "wp"
  have:=q H (Same.refl _)
  unfold Nd.put at this
  rw [st] at this
  exact this
 wtm_at "wp"
 refine ax (fun c2 => ?_) (fun c2 => ?_)
 ·have st:d.st = .frame:=md_inj.mp c2
  wtm_at "wp"
  refine ⟨n,A,d,rfl,h,ok,st,fun H1 s1 => ?_⟩
  have:=q H1 s1
  unfold Nd.put at this
  rw [st] at this
  exact this
 ·wtm_at "wp"
  have:=q H (Same.refl _)
  have e:d.put=1:=by
   unfold Nd.put
   cases hst:d.st with
   | cry=>exact absurd (md_inj.mpr hst) c1
   | frame=>exact absurd (md_inj.mpr hst) c2
   | _=>rfl
  rw [e] at this
  exact this
theorem Post.kp {c:Cs} {H H1:Hp} {n:Addr} {A:NA} {d:Nd} {Q:VK} (q:Post c H n A d Q) (k:Kp (fpN n A) H H1):Post c H1 n A d Q:=fun H' A' k' h' f'=>by
 refine q H' A' (k.trans k') h' (fun x hx => ?_)
 by_cases z:x∈fpN n A
 ·exact .inl z
 ·rcases f' x hx with y | y
  ·exact .inl y
  ·exact .inr (k.fr z y)
theorem NdAt.took {c:Cs} {H H':Hp} {n:Addr} {A:NA} {d:Nd} (h:NdAt c H n A d) (s:Chg [A.r,A.w,A.p] H H') {ws pl:List Int} (r':RdAt c H' A.r A.w A.p ws pl):NdAt c H' n A {d with ws:=ws,pl:=pl}∧Kp (fpN n A) H H':=by
 obtain ⟨⟨dx,sv,eo,es⟩,⟨⟨rx,ch,er,ec⟩,ew,ep,nwp⟩,⟨qs,eq,fq⟩,⟨ts,et,ft⟩,nd⟩:=h
 obtain ⟨⟨n1,n2,n3,n4,n5⟩,⟨m1,m2,m3,m4⟩,⟨o1,o2,o3⟩,⟨p1,p2⟩,q1⟩:=vt nd
 have im:∀ b o,Im o→H b=some o→b∉[A.r,A.w,A.p]:=fun b o i e=>by
  refine nA (fun z => ?_) (fun z => ?_) (fun z => ?_) <;> subst z
  ·rw [er] at e;cases e;exact i
  ·rw [ew] at e;cases e;exact i
  ·rw [ep] at e;cases e;exact i
 have kk:Kp (fpN n A) H H':=⟨fun b o hb e=>s b o (fun z=>hb (by simp [fpN] at z ⊢;rcases z with z | z | z <;> simp [z])) e,fun b o i e=>s b o (im b o i e) e⟩
 have ks:Kp [A.r,A.w,A.p] H H':=⟨fun b o hb e=>s b o hb e,fun b o i e=>s b o (im b o i e) e⟩
 exact ⟨⟨⟨dx,sv,ks.get (nA n1 n2 n3) eo,es.kp ks⟩,r',⟨qs,ks.get (nA (Ne.symm m3) (Ne.symm o2) (Ne.symm p1)) eq,fq.kp ks⟩,⟨ts,ks.get (nA (Ne.symm m4) (Ne.symm o3) (Ne.symm p2)) et,ft.kp ks⟩,nd⟩,kk⟩
abbrev fO:Stmt:=(aj (top 43) 9)
abbrev eU (K:PySem.W.Frag) (c:Cs):Sp:=sp2 fun u v H Q _=>∃ (n:Addr) (A:NA) (d:Nd) (b:Int),u = .ref n∧v = .int b∧NdAt c H n A d∧(∀ s,d.sn=some s→d.ws.length < s.length)∧Q (.bl (d.hears b)) H
theorem eV:FnScope ["self", "bit"] ["self", "bit"] (ah fO):=aR
theorem cL (T:Txt K mg c):fX P w K mg base CX0 1 c.D "hears_another" ["self", "bit"] (eU K c):=by
 refine T.d_Node_hears_another.ok eV (fun _ _ _ _ _ _ us hl=>match us,hl with | [_,_],_=>rfl) fj (fun f cdv A outer s H vs Q E hr h => ?_)
 obtain ⟨v0,v1,rfl,h⟩:=h
 refine ⟨_,(ad (aC (jA (bM gK (av (K:=K) (pv 0)) cc (ao _)) (jz (bM io (pv 1) (bh (aK (K:=K)) (av (K:=K) (pv 0)) (aw (aq (K:=K)) rfl T.len PySem.boot_len (aa (av (K:=K) (av (K:=K) (pv 0))) ae)) (fun _ _=>rfl)) (ao _)))))),?_⟩
 try dsimp only [br,Cx.nox,Cx.wish]
 refine ak (s2:=[some v0,some v1]) rfl ?_
 obtain ⟨n,A,d,b,rfl,rfl,h,hm,q⟩:=h
 obtain ⟨⟨dx,sv,eo,es⟩,⟨⟨rx,ch,er,ec⟩,ew,ep,nwp⟩,⟨qs,eq,fq⟩,⟨ts,et,ft⟩,nd⟩:=id h
 wtm_at "wp"
 unfold Nd.hears at q
 cases hsn:d.sn with
 | none=>
  rw [hsn] at es q
  cases es
  wtm_at "wp"
  exact q
 | some l=>
  have more:=hm l hsn
  rw [hsn] at es q
  obtain ⟨a,o,rfl,ea⟩:=es
  wtm_at "wp"
  rw [List.length_map]
  refine bf (by wtm_at "hg") (cx more) ?_
  wtm_at "wp"
  exact q
abbrev gw:Stmt:=(aj (top 43) 8)
abbrev fP (K:PySem.W.Frag) (c:Cs):Sp:=sp2 fun u v H Q _=>∃ (n:Addr) (A:NA) (d:Nd) (b:Int),u = .ref n∧v = .int b∧NdAt c H n A d∧NdOk d∧d.st = .frame∧d.over=false∧Bit b∧Post c H n A (d.hearStuffed b) Q
theorem fQ:FnScope ["self", "bit"] ["self", "bit"] (ah gw):=aR
theorem fR (T:Txt K mg c):fX P w K mg base CX0 6 c.D "hear_stuffed" ["self", "bit"] (fP K c):=by
 refine T.d_Node_hear_stuffed.ok fQ (fun _ _ _ _ _ _ us hl=>match us,hl with | [_,_],_=>rfl) fj (fun f cdv A outer s H vs Q E hr h => ?_)
 obtain ⟨v0,v1,rfl,h⟩:=h
 refine ⟨_,(aZ (aQ (PW.pt (bZ (cC (d7 T.k_Node (cL T) hr ay (pv 0) (aa (pv 1) ae))) (bZ (ai bg (pv 1) af (ao _)) (bK (cC (ku T.k_Reading (eN T) hr ay (av (K:=K) (pv 0))))))))
    (ad (bF (K:=K) (pv 0) cc))
    az)
   (ad (aQ (PW.pt (dZ (cC (d7 T.k_Node (cL T) hr ay (pv 0) (aa (pv 1) ae))) (cS (ai (lU (K:=K)) (pv 1) (av (K:=K) (av (K:=K) (pv 0))) (by with_unfolding_all rfl)))))
    (ad (aH (ku T.k_Node (eQ T) hr ay (pv 0))))
    (ad (aH (d7 T.k_Reading (j4 T) hr ay (av (K:=K) (pv 0)) (aa (pv 1) ae))))))),?_⟩
 try dsimp only [br,Cx.nox,Cx.wish]
 refine ak (s2:=[some v0,some v1]) rfl ?_
 obtain ⟨n,A,d,b,rfl,rfl,h,ok,st,ov,hb,q⟩:=h
 refine bz (fun σ H1=>σ=[some (.ref n),some (.int b)]∧Kp (fpN n A) H H1∧NdAt c H1 n A (d.giveWay b)) ?_ ?_
 ·obtain ⟨⟨dx,sv,eo,es⟩,⟨⟨rx,ch,er,ec⟩,ew,ep,nwp⟩,⟨qs,eq,fq⟩,⟨ts,et,ft⟩,nd⟩:=id h
  have no:∀ H1,Same H H1→d.giveWay b=d→[some (V.ref n),some (.int b)]=[some (V.ref n),some (.int b)]∧Kp (fpN n A) H H1∧NdAt c H1 n A (d.giveWay b):=fun H1 s1 e=>⟨rfl,Same.kp s1,by rw [e];exact h.same s1⟩
  wtm_at "wp"
  refine ⟨n,A,d,b,rfl,rfl,h,fun s hs=>ok.more st hs ov,?_⟩
  wtm_at "wp"
  cases hh:d.hears b with
  | false=>
   wtm_at "wp"
   exact no H (Same.refl _) (by unfold Nd.giveWay;rw [hh];rfl)
  | true=>
   wtm_at "wp"
   refine ax (fun c1 => ?_) (fun c1 => ?_)
   ·wtm_at "wp"
    refine ⟨A.r,A.w,A.p,d.ws,d.pl,rfl,⟨⟨rx,ch,er,ec⟩,ew,ep,nwp⟩,ok.rd,fun H1 s1 => ?_⟩
    wtm_at "wp"
    cases ha:d.atName with
    | true=>
     rw [show (!BB.due d.ws && decide (1≤d.pl.length) && decide (d.pl.length < 12))=true from ha]
     have eg:d.giveWay b={d with sn:=none}:=by unfold Nd.giveWay;rw [hh,ha,decide_eq_true c1];rfl
     wtm_at "wp"
     refine ⟨rfl,?_,?_⟩
     ·exact (Same.kp s1).upd (by simp [fpN]) (s1.get eo) (fun z=>z)
     ·rw [eg]
      exact (h.same s1).re ((Chg.refl [n] H1).upd (by simp)) ac rfl rfl rfl rfl rfl
    | false=>
     rw [show (!BB.due d.ws && decide (1≤d.pl.length) && decide (d.pl.length < 12))=false from ha]
     wtm_at "wp"
     exact no H1 s1 (by unfold Nd.giveWay;rw [ha,Bool.and_false];rfl)
   ·wtm_at "wp"
    exact no H (Same.refl _) (by unfold Nd.giveWay;rw [decide_eq_false c1,Bool.and_false,Bool.false_and];rfl)
 rintro σ H1 ⟨rfl,k1,h1⟩
 obtain ⟨e1,e2,e3,e4,e5,e6,e7⟩:=cY d b
 have ok1:=ok.giveWay b
 have ov1:(d.giveWay b).over=false:=by unfold Nd.over;rw [e1,e2];exact ov
 have st1:(d.giveWay b).st = .frame:=by rw [e4];exact st
 have q1:=q.kp k1
 unfold Nd.hearStuffed at q1
 rw [← e1,← e2] at q1
 have hch:(d.giveWay b).ws=d.ws:=e1
 generalize d.giveWay b=d1 at *
 obtain ⟨⟨dx,sv,eo,es⟩,⟨⟨rx,ch,er,ec⟩,ew,ep,nwp⟩,⟨qs,eq,fq⟩,⟨ts,et,ft⟩,nd⟩:=id h1
 have cry:Post c H1 n A d1.cryOut Q→∀ N:St→Hp→Prop,(∀ H',Q .non H'→N [some (.ref n),some (.int b)] H')→tE (mT c.D "cry_out" (eP K c) [] E0 (iT 0) mO) {nx:=N,rt:=Q} [some (.ref n),some (.int b)] H1:=fun qc N hN=>by
  wtm_at "wp"
  refine ⟨n,dx,_,_,_,_,_,_,_,rfl,eo,fun H2 k2 e2 => ?_⟩
  wtm_at "wp"
  exact hN _ (h1.own qc k2 e2 es rfl rfl rfl rfl)
 wtm_at "wp"
 refine ⟨n,A,d1,b,rfl,rfl,h1,fun s hs=>ok1.more st1 hs ov1,?_⟩
 wtm_at "wp"
 cases hh:d1.hears b with
 | true=>
  rw [hh] at q1
  refine tq (tq ?_)
  exact cry q1 _ (fun H' z=>z)
 | false=>
  rw [hh] at q1
  refine xA ?_
  wtm_at "wp"
  refine ut (l:=aF d1.ws d1.pl) (.inr (by wtm_at "hg")) ?_
  wtm_at "wp"
  refine bP (fun c1 => ?_) (fun c1 => ?_)
  ·rw [decide_eq_false c1] at q1
   exact cry q1 _ (fun H' z=>z)
  ·rw [decide_eq_true c1] at q1
   wtm_at "wp"
   refine ⟨A.r,A.w,A.p,d1.ws,d1.pl,b,rfl,rfl,⟨⟨rx,ch,er,ec⟩,ew,ep,nwp⟩,ok1.rd,hb,c1,fun H2 k2 r2 => ?_⟩
   obtain ⟨a1,a2⟩:=h1.took k2 r2
   exact q1 H2 A a2 a1 (fun x hx => .inl hx)
abbrev d6:Stmt:=(aj (top 43) 11)
abbrev dQ (K:PySem.W.Frag) (c:Cs):Sp:=sp2 fun u v H Q _=>∃ (n:Addr) (A:NA) (d:Nd) (b:Int),u = .ref n∧v = .int b∧NdAt c H n A d∧Q (.bl (d.wrong b)) H
theorem dR:FnScope ["self", "bit"] ["self", "bit"] (ah d6):=aR
theorem dS (T:Txt K mg c):fX P w K mg base CX0 1 c.D "is_wrong_behind" ["self", "bit"] (dQ K c):=by
 refine T.d_Node_is_wrong_behind.ok dR (fun _ _ _ _ _ _ us hl=>match us,hl with | [_,_],_=>rfl) fj (fun f cdv A outer s H vs Q E hr h => ?_)
 obtain ⟨v0,v1,rfl,h⟩:=h
 refine ⟨_,(ag (aQ (ai bg (av (K:=K) (pv 0)) (pgi T.c_ANSWER_AT) (ao _))
    (ad (aC (jA (bM bg (pv 1) af (ao _)) (jz (bM gK (av (K:=K) (pv 0)) cc (ao _))))))
    az)
   (ad (aC (bM bg (pv 1) af (ao _))))),?_⟩
 try dsimp only [br,Cx.nox,Cx.wish]
 refine ak (s2:=[some v0,some v1]) rfl ?_
 obtain ⟨n,A,d,b,rfl,rfl,h,q⟩:=h
 obtain ⟨⟨dx,sv,eo,es⟩,ro,⟨qs,eq,fq⟩,⟨ts,et,ft⟩,nd⟩:=id h
 wtm_at "wp"
 unfold Nd.wrong at q
 refine ax (fun c1 => ?_) (fun c1 => ?_)
 ·rw [if_pos (by omega)] at q
  wtm_at "wp"
  refine ax (fun c2 => ?_) (fun c2 => ?_)
  ·rw [decide_eq_true c2,Bool.true_and] at q
   wtm_at "wp"
   cases hsn:d.sn with
   | none=>
    rw [hsn] at es q
    cases es
    wtm_at "wp"
    exact q
   | some l=>
    rw [hsn] at es q
    obtain ⟨a,o,rfl,ea⟩:=es
    wtm_at "wp"
    exact q
  ·rw [decide_eq_false c2,Bool.false_and] at q
   exact q
 ·rw [if_neg (by omega)] at q
  wtm_at "wp"
  exact q
abbrev iL:Stmt:=(aj (top 43) 16)
abbrev gZ (K:PySem.W.Frag) (c:Cs):Sp:=sp2 fun u v H Q _=>∃ (n:Addr) (A:NA) (d:Nd) (name:Int),u = .ref n∧v = .int name∧NdAt c H n A d∧name∈d.qu.map (·.1)∧d.qu.length≤900∧Post c H n A {d with qu:=Nd.dropName name d.qu} Q
theorem sc_Node_drop_first:FnScope ["self", "name", "names"] ["self", "name"] (ah iL):=aR
theorem g9 (T:Txt K mg c):fX P w K mg base CX0 1 c.D "drop_first" ["self", "name"] (gZ K c):=by
 refine T.d_Node_drop_first.ok sc_Node_drop_first (fun _ _ _ _ _ _ us hl=>match us,hl with | [_,_],_=>rfl) fj (fun f cdv A outer s H vs Q E hr h => ?_)
 obtain ⟨v0,v1,rfl,h⟩:=h
 refine ⟨_,(ag (pI (i:=2) (fv:=[]) (js:=[]) sc_Node_drop_first.nd rfl (.inl rfl) (aV (K:=K) (av (K:=K) (pv 0)))  (fun fp s H=>(bh (bR (K:=K)) (pv 0) af (fun _ _=>rfl))))
   (ad (aH (cr (K:=K) PySem.F.plainAttrs_list PySem.F.slot_list_pop PySem.F.type_list_pop vU (av (K:=K) (pv 0)) (aa (cr (K:=K) PySem.F.plainAttrs_list PySem.F.slot_list_index PySem.F.type_list_index (nI (K:=K)) (pv 2) (aa (pv 1) ae)) ae))))),?_⟩
 try dsimp only [br,Cx.nox,Cx.wish]
 refine ak (s2:=[some v0,some v1,none]) rfl ?_
 obtain ⟨n,A,d,name,rfl,rfl,h,hn,hl,q⟩:=h
 obtain ⟨⟨dx,sv,eo,es⟩,ro,⟨qs,eq,fq⟩,⟨ts,et,ft⟩,nd⟩:=id h
 obtain ⟨⟨n1,n2,n3,n4,n5⟩,⟨m1,m2,m3,m4⟩,⟨o1,o2,o3⟩,⟨p1,p2⟩,q1⟩:=vt nd
 have ql:=fq.len
 wtm_at "wp"
 refine b9 ?_
 wtm_at "wp"
 refine db (zC H) (At.sqL eq) (small (by omega)) (fun i x H' R hx s1 hR => ?_) (fun D Hf s1 fD eD => ?_)
 ·obtain ⟨f,hf,t,r,o,rfl,a,b⟩:=eO fq hx
  show tOp _ _ _ [some (.ref t)] _ _
  wtm_at "wp"
  have:=hR H' (Same.refl _)
  rw [j6 ⟨t,r,o,rfl,a,b⟩] at this
  exact this
 rw [j7 fq] at eD
 have eD':At Hf D (.lst ((d.qu.map (·.1)).map V.int)):=eD
 wtm_at "wp"
 refine rD (ns:=d.qu.map (·.1)) (At.sqL eD') hn ?_
 have hj:(d.qu.map (·.1)).idxOf name < qs.length:=by
  have:=List.idxOf_lt_length_iff.mpr hn
  rw [List.length_map] at this
  omega
 have eq1:=s1.get eq
 refine ⟨A.q,qs,_,(d.qu.map (·.1)).idxOf name,qs[(d.qu.map (·.1)).idxOf name],rfl,rfl,eq1,by omega,by omega,?_,List.getElem?_eq_getElem hj,?_⟩
 ·unfold seqIndex?
  simp
  omega
 wtm_at "wp"
 have k2:Kp (fpN n A) H (upd Hf A.q (.lst (qs.eraseIdx ((d.qu.map (·.1)).idxOf name)))):=(Same.kp s1).upd (by simp [fpN]) eq1 (fun z=>z)
 have k3:Kp [A.q] H (upd Hf A.q (.lst (qs.eraseIdx ((d.qu.map (·.1)).idxOf name)))):=(Same.kp s1).upd (by simp) eq1 (fun z=>z)
 exact q _ A k2 ⟨⟨dx,sv,k3.get (aM n4) eo,es.kp k3⟩,ro.kp k3 (aM m3) (aM o2) (aM p1),⟨_,ac,mv _ (fq.kp k3)⟩,⟨ts,k3.get (aM (Ne.symm q1)) et,ft.kp k3⟩,nd⟩ (fun x hx => .inl hx)
abbrev jj:Stmt:=(aj (top 43) 15)
abbrev iM (K:PySem.W.Frag) (c:Cs):Sp:=sp1 fun u H Q _=>∃ (n:Addr) (A:NA) (d:Nd),u = .ref n∧NdAt c H n A d∧Rd d.ws d.pl∧aF d.ws d.pl=[]∧d.tk.length≤5000∧d.qu.length≤900∧(d.sn.isSome=true→aL d.pl∈d.qu.map (·.1))∧Post c H n A d.endFrame Q
theorem sc_Node_end_frame:FnScope ["self", "frame"] ["self"] (ah jj):=aR
theorem iN (T:Txt K mg c):fX P w K mg base CX0 4 c.D "end_frame" ["self"] (iM K c):=by
 refine T.d_Node_end_frame.ok sc_Node_end_frame (fun _ _ _ _ _ _ us hl=>match us,hl with | [_],_=>rfl) gB (fun f cdv A outer s H vs Q E hr h => ?_)
 obtain ⟨v0,rfl,h⟩:=h
 refine ⟨_,(ag (aD (i:=1) sc_Node_end_frame.nd rfl (.inl rfl) (bV (qe T) hr ay (aa (av (K:=K) (av (K:=K) (pv 0))) ae)))
   (aZ (aQ (ai iw (av (K:=K) (pv 0)) cc (ao _))
    (ad (aH (cr (K:=K) PySem.F.plainAttrs_list PySem.F.slot_list_append PySem.F.type_list_append bN (av (K:=K) (pv 0)) (aa (pv 1) ae))))
    (ad (aH (d7 T.k_Node (g9 T) hr ay (pv 0) (aa (bh (bR (K:=K)) (pv 1) af (fun _ _=>rfl)) ae)))))
   (ad (aH (d7 T.k_Node (cm T) hr ay (pv 0) (aa (pgs T.c_REST) ae)))))),?_⟩
 try dsimp only [br,Cx.nox,Cx.wish]
 refine ak (s2:=[some v0,none]) rfl ?_
 obtain ⟨n,A,d,rfl,h,rd,hov,hl,hql,hname,q⟩:=h
 obtain ⟨⟨dx,sv,eo,es⟩,⟨⟨rx,ch,er,ec⟩,ew,ep,nwp⟩,⟨qs,eq,fq⟩,⟨ts,et,ft⟩,nd⟩:=id h
 have tl:=ft.len
 wtm_at "wp"
 refine ⟨A.p,d.pl,rfl,At.sqL ep,(rd.fin.mp hov).2.1,rd.bp,fun t r o H1 s1 ftt ftr e1 e2 => ?_⟩
 have h1:=h.same s1
 have eo1:=s1.get eo
 have et1:=s1.get et
 wtm_at "wp"
 refine bz (fun σ H2=>σ=[some (.ref n),some (.ref t)]∧∃ d1 A2,Kp (fpN n A) H H2∧NdAt c H2 n A2 d1∧(∀ x∈fpN n A2,x∈fpN n A∨aS H x)∧{d1 with st := .rest,ps:=0}=d.endFrame) ?_ ?_
 ·wtm_at "wp"
  cases hsn:d.sn with
  | none=>
   rw [hsn] at es
   cases es
   wtm_at "wp"
   obtain ⟨⟨n1,n2,n3,n4,n5⟩,⟨m1,m2,m3,m4⟩,⟨o1,o2,o3⟩,⟨p1,p2⟩,q1⟩:=vt nd
   refine bO et1 (iK (by omega)) ?_
   have k2:Kp (fpN n A) H (upd H1 A.t (.lst (ts++[.ref t]))):=(Same.kp s1).upd (by simp [fpN]) et1 (fun z=>z)
   have k3:Kp [A.t] H (upd H1 A.t (.lst (ts++[.ref t]))):=(Same.kp s1).upd (by simp) et1 (fun z=>z)
   have e1':At (upd H1 A.t (.lst (ts++[.ref t]))) t (.tup [.int (aL d.pl),.ref r]):=aG (e1.ne et1 (by intro z;cases z)) e1
   have e2':At (upd H1 A.t (.lst (ts++[.ref t]))) r (.frz o (.lst ((cg d.pl).map V.int))):=aG (e2.ne et1 (by intro z;cases z)) e2
   refine ⟨rfl,{d with tk:=d.tk++[(aL d.pl,cg d.pl)]},A,k2,⟨⟨dx,_,k3.get (aM n5) eo,by rw [hsn];rfl⟩,RdAt.kp ⟨⟨rx,ch,er,ec⟩,ew,ep,nwp⟩ k3 (aM m4) (aM o3) (aM p2),⟨qs,k3.get (aM q1) eq,fq.kp k3⟩,⟨_,ac,j5 (ft.kp k3) (.cons ⟨t,r,o,rfl,e1',e2'⟩ .nil)⟩,nd⟩,fun x hx => .inl hx,?_⟩
   unfold Nd.endFrame
   rw [hsn]
  | some l=>
   rw [hsn] at es
   obtain ⟨a,ob,rfl,ea⟩:=es
   wtm_at "wp"
   refine ⟨n,A,d,aL d.pl,rfl,rfl,h1,hname (by rw [hsn];rfl),hql,fun H2 A2 k2 h2 f2 => ?_⟩
   refine ⟨rfl,_,A2,(Same.kp s1).trans k2,h2,fun x hx => ?_,?_⟩
   ·rcases f2 x hx with z | z
    ·exact .inl z
    ·exact .inr (s1.fr z)
   ·unfold Nd.endFrame
    rw [hsn]
 rintro σ H2 ⟨rfl,d1,A2,k2,h2,f2,ed⟩
 obtain ⟨⟨dx2,sv2,eo2,es2⟩,_⟩:=id h2
 wtm_at "wp"
 refine ⟨n,dx2,_,_,_,_,_,_,_,_,rfl,rfl,eo2,fun H3 k3 e3 => ?_⟩
 have kk:Kp (fpN n A) H2 H3:=Chg.kp k3 (by simp [fpN]) eo2 (fun z=>z)
 have kn:Kp [n] H2 H3:=Chg.kp k3 (by simp) eo2 (fun z=>z)
 refine q H3 A2 (k2.trans kk) ?_ f2
 rw [← ed]
 exact h2.re (d':={d1 with st := .rest,ps:=0}) k3 e3 (es2.kp kn) rfl rfl rfl rfl
abbrev hI:Stmt:=(aj (top 43) 10)
abbrev gx (K:PySem.W.Frag) (c:Cs):Sp:=sp2 fun u v H Q _=>∃ (n:Addr) (A:NA) (d:Nd) (b:Int),u = .ref n∧v = .int b∧NdAt c H n A d∧NdOk d∧d.st = .frame∧d.over=true∧d.tk.length≤5000∧d.qu.length≤900∧Post c H n A (d.hearBehind b) Q
theorem gy:FnScope ["self", "bit"] ["self", "bit"] (ah hI):=aR
theorem gz (T:Txt K mg c):fX P w K mg base CX0 5 c.D "hear_behind" ["self", "bit"] (gx K c):=by
 refine T.d_Node_hear_behind.ok gy (fun _ _ _ _ _ _ us hl=>match us,hl with | [_,_],_=>rfl) fj (fun f cdv A outer s H vs Q E hr h => ?_)
 obtain ⟨v0,v1,rfl,h⟩:=h
 refine ⟨_,(ag (aQ (cC (d7 T.k_Node (dS T) hr ay (pv 0) (aa (pv 1) ae)))
    (ag (aH (ku T.k_Node (eQ T) hr ay (pv 0)))
    (ad tF))
    az)
   (ag (fm (K:=K) (pv 0) af q9)
   (ad (aQ (ai bg (av (K:=K) (pv 0)) (pgi T.c_BITS_BEHIND) (ao _))
    (ad (aH (ku T.k_Node (iN T) hr ay (pv 0))))
    az)))),?_⟩
 try dsimp only [br,Cx.nox,Cx.wish]
 refine ak (s2:=[some v0,some v1]) rfl ?_
 obtain ⟨n,A,d,b,rfl,rfl,h,ok,st,ov,hl,hql,q⟩:=h
 obtain ⟨⟨dx,sv,eo,es⟩,ro,⟨qs,eq,fq⟩,⟨ts,et,ft⟩,nd⟩:=id h
 wtm_at "wp"
 refine ⟨n,A,d,b,rfl,rfl,h,?_⟩
 unfold Nd.hearBehind at q
 wtm_at "wp"
 cases hw:d.wrong b with
 | true=>
  rw [hw] at q
  wtm_at "wp"
  refine ⟨n,dx,_,_,_,_,_,_,_,rfl,eo,fun H2 k2 e2 => ?_⟩
  wtm_at "wp"
  exact h.own (d':=d.cryOut) q k2 e2 es rfl rfl rfl rfl
 | false=>
  rw [hw] at q
  wtm_at "wp"
  have h1:NdAt c (upd H n (.ins c.D dx (ndF (.str d.st.str) (.int ((d.ps:Int)+1)) (.ref A.r) sv (.ref A.q) (.ref A.t) (.int (d.fc:Nat))))) n A {d with ps:=d.ps+1}:=
   h.re ((Chg.refl [n] H).upd (by simp)) (by rw [show (({d with ps:=d.ps+1}:Nd).ps:Int)=(d.ps:Int)+1 by show ((d.ps+1:Nat):Int)=_;omega];exact ac) (es.kp ((Kp.refl [n] H).upd (by simp) eo (fun z=>z))) rfl rfl rfl rfl
  have k1:Kp (fpN n A) H (upd H n (.ins c.D dx (ndF (.str d.st.str) (.int ((d.ps:Int)+1)) (.ref A.r) sv (.ref A.q) (.ref A.t) (.int (d.fc:Nat))))):=(Kp.refl _ H).upd (by simp [fpN]) eo (fun z=>z)
  have q1:=Post.kp q k1
  rw [if_neg (show ¬ (false=true) by decide)] at q1
  refine ax (fun c1 => ?_) (fun c1 => ?_)
  ·rw [if_pos (by omega)] at q1
   wtm_at "wp"
   refine ⟨n,A,{d with ps:=d.ps+1},rfl,h1,ok.rd,of_decide_eq_true ov,hl,hql,fun z => ?_,?_⟩
   ·cases hsn:d.sn with
    | none=>rw [show ({d with ps:=d.ps+1}:Nd).sn=d.sn from rfl,hsn] at z;cases z
    | some s=>
     obtain ⟨f,hf,rfl,hp⟩:=ok.sn s st hsn
     obtain ⟨_,e2⟩:=ok.over_eq hf hp ov
     show aL d.pl∈d.qu.map (·.1)
     rw [e2,(ly (ok.qu f hf)).1]
     exact List.mem_map.mpr ⟨f,hf,rfl⟩
   ·exact q1
  ·rw [if_neg (by omega)] at q1
   wtm_at "wp"
   exact q1 _ A (Kp.refl _ _) h1 (fun x hx => .inl hx)
abbrev fS:Stmt:=(aj (top 43) 7)
abbrev eW (K:PySem.W.Frag) (c:Cs):Sp:=sp2 fun u v H Q _=>∃ (n:Addr) (A:NA) (d:Nd) (b:Int),u = .ref n∧v = .int b∧NdAt c H n A d∧NdOk d∧d.st = .frame∧Bit b∧d.tk.length≤5000∧d.qu.length≤900∧Post c H n A (d.hearFrame b) Q
theorem eX:FnScope ["self", "bit"] ["self", "bit"] (ah fS):=aR
theorem cM (T:Txt K mg c):fX P w K mg base CX0 7 c.D "hear_in_frame" ["self", "bit"] (eW K c):=by
 refine T.d_Node_hear_in_frame.ok eX (fun _ _ _ _ _ _ us hl=>match us,hl with | [_,_],_=>rfl) fj (fun f cdv A outer s H vs Q E hr h => ?_)
 obtain ⟨v0,v1,rfl,h⟩:=h
 refine ⟨_,(ad (aQ (cC (ku T.k_Reading (dy T) hr ay (av (K:=K) (pv 0))))
    (ad (aH (d7 T.k_Node (gz T) hr ay (pv 0) (aa (pv 1) ae))))
    (ad (aH (d7 T.k_Node (fR T) hr ay (pv 0) (aa (pv 1) ae)))))),?_⟩
 try dsimp only [br,Cx.nox,Cx.wish]
 refine ak (s2:=[some v0,some v1]) rfl ?_
 obtain ⟨n,A,d,b,rfl,rfl,h,ok,st,hb,hl,hql,q⟩:=h
 obtain ⟨⟨dx,sv,eo,es⟩,⟨⟨rx,ch,er,ec⟩,ew,ep,nwp⟩,⟨qs,eq,fq⟩,⟨ts,et,ft⟩,nd⟩:=id h
 wtm_at "wp"
 refine ⟨A.r,A.w,A.p,d.ws,d.pl,rfl,⟨⟨rx,ch,er,ec⟩,ew,ep,nwp⟩,fun H1 s1 => ?_⟩
 have h1:=h.same s1
 have eo1:=s1.get eo
 have q1:=Post.kp q (Same.kp s1)
 unfold Nd.hearFrame at q1
 wtm_at "wp"
 cases hov:d.over with
 | true=>
  rw [show decide (aF d.ws d.pl=[])=true from hov]
  rw [hov] at q1
  wtm_at "wp"
  exact ⟨n,A,d,b,rfl,rfl,h1,ok,st,hov,hl,hql,q1⟩
 | false=>
  rw [show decide (aF d.ws d.pl=[])=false from hov]
  rw [hov] at q1
  wtm_at "wp"
  exact ⟨n,A,d,b,rfl,rfl,h1,ok,st,hov,hb,q1⟩
theorem NdAt.passed {c:Cs} {H H':Hp} {n:Addr} {A:NA} {d:Nd} {Q:VK} {k:Nat} {s:Md} (h:NdAt c H n A d) (q:Post c H n A (d.passOne k s) Q) (ch:Chg [n] H H') {dx:Addr} {sv:V} (es:SnAt H sv d.sn)
  (e1:d.ps+1=k→At H' n (.ins c.D dx (ndF (.str s.str) (.int 0) (.ref A.r) sv (.ref A.q) (.ref A.t) (.int (d.fc:Nat)))))
  (e2:¬ d.ps+1=k→At H' n (.ins c.D dx (ndF (.str d.st.str) (.int ((d.ps+1:Nat):Int)) (.ref A.r) sv (.ref A.q) (.ref A.t) (.int (d.fc:Nat))))):Q .non H':=by
 unfold Nd.passOne at q
 by_cases z:d.ps+1=k
 ·rw [if_pos z] at q
  exact h.own q ch (e1 z) es rfl rfl rfl rfl
 ·rw [if_neg z] at q
  exact h.own q ch (e2 z) es rfl rfl rfl rfl
abbrev iO:Stmt:=(aj (top 43) 12)
abbrev hJ (K:PySem.W.Frag) (c:Cs):Sp:=sp2 fun u v H Q _=>∃ (n:Addr) (A:NA) (d:Nd) (b:Int),u = .ref n∧v = .int b∧NdAt c H n A d∧Post c H n A (d.hearDazed b) Q
theorem hU:FnScope ["self", "bit"] ["self", "bit"] (ah iO):=aR
theorem hV (T:Txt K mg c):fX P w K mg base CX0 3 c.D "hear_dazed" ["self", "bit"] (hJ K c):=by
 refine T.d_Node_hear_dazed.ok hU (fun _ _ _ _ _ _ us hl=>match us,hl with | [_,_],_=>rfl) fj (fun f cdv A outer s H vs Q E hr h => ?_)
 obtain ⟨v0,v1,rfl,h⟩:=h
 refine ⟨_,(ad (aQ (ai bg (pv 1) af (ao _))
    (ad (bF (K:=K) (pv 0) af))
    (ad (aH (d7 T.k_Node (cQ T) hr ay (pv 0) (aa (pgi T.c_DAZED_ONES) (aa (pgs T.c_REST) ae))))))),?_⟩
 try dsimp only [br,Cx.nox,Cx.wish]
 refine ak (s2:=[some v0,some v1]) rfl ?_
 obtain ⟨n,A,d,b,rfl,rfl,h,q⟩:=h
 obtain ⟨⟨dx,sv,eo,es⟩,ro,⟨qs,eq,fq⟩,⟨ts,et,ft⟩,nd⟩:=id h
 unfold Nd.hearDazed at q
 wtm_at "wp"
 refine ax (fun c1 => ?_) (fun c1 => ?_)
 ·rw [if_pos c1] at q
  wtm_at "wp"
  exact h.own q ((Chg.refl [n] H).upd (by simp)) ac es rfl rfl rfl rfl
 ·rw [if_neg c1] at q
  wtm_at "wp"
  exact ⟨n,dx,_,_,_,_,_,_,d.ps,8,Md.rest.str,rfl,rfl,rfl,eo,fun H1 k1 a1 a2=>h.passed q k1 es a1 a2⟩
abbrev gA:Stmt:=(aj (top 43) 13)
abbrev fT (K:PySem.W.Frag) (c:Cs):Sp:=sp2 fun u v H Q _=>∃ (n:Addr) (A:NA) (d:Nd) (b:Int),u = .ref n∧v = .int b∧NdAt c H n A d∧NdOk d∧Bit b∧d.tk.length≤5000∧d.qu.length≤900∧Post c H n A (d.hearBetween b) Q
theorem fU:FnScope ["self", "bit"] ["self", "bit"] (ah gA):=aR
theorem fV (T:Txt K mg c):fX P w K mg base CX0 8 c.D "hear_between" ["self", "bit"] (fT K c):=by
 refine T.d_Node_hear_between.ok fU (fun _ _ _ _ _ _ us hl=>match us,hl with | [_,_],_=>rfl) fj (fun f cdv A outer s H vs Q E hr h => ?_)
 obtain ⟨v0,v1,rfl,h⟩:=h
 refine ⟨_,(ad (aQ (ai bg (pv 1) af (ao _))
    (ag (aH (d7 T.k_Node (dl T) hr ay (pv 0) (aa cc ae)))
    (ad (aH (d7 T.k_Node (cM T) hr ay (pv 0) (aa (pv 1) ae)))))
    (ad (aQ (ai bg (av (K:=K) (pv 0)) (pgs T.c_REST) (ao _))
     (ad (aH (d7 T.k_Node (cQ T) hr ay (pv 0) (aa (pgi T.c_REST_ONES) (aa (pgs T.c_FREE) ae)))))
     az)))),?_⟩
 try dsimp only [br,Cx.nox,Cx.wish]
 refine ak (s2:=[some v0,some v1]) rfl ?_
 obtain ⟨n,A,d,b,rfl,rfl,h,ok,hb,hl,hql,q⟩:=h
 obtain ⟨⟨dx,sv,eo,es⟩,ro,⟨qs,eq,fq⟩,⟨ts,et,ft⟩,nd⟩:=id h
 unfold Nd.hearBetween at q
 wtm_at "wp"
 refine ax (fun c1 => ?_) (fun c1 => ?_)
 ·rw [if_pos c1] at q
  wtm_at "wp"
  refine ⟨n,A,d,none,rfl,h,rfl,fun H1 A1 k1 h1 f1 => ?_⟩
  obtain ⟨⟨dx1,sv1,eo1,es1⟩,_⟩:=id h1
  wtm_at "wp"
  refine ⟨n,A1,d.enter none,b,rfl,rfl,h1,ok.enter0,rfl,hb,hl,hql,fun H2 A2 k2 h2 f2 => ?_⟩
  have hin:∀ x∈fpN n A1,x∈fpN n A∨aS H x:=f1
  refine q H2 A2 ⟨fun x o hx e => ?_,fun x o i e=>k2.im x o i (k1.im x o i e)⟩ h2 (fun x hx => ?_)
  ·refine k2.ot x o (fun z => ?_) (k1.ot x o hx e)
   rcases hin x z with y | y
   ·exact hx y
   ·rw [y] at e;cases e
  ·rcases f2 x hx with z | z
   ·exact hin x z
   ·by_cases y:x∈fpN n A
    ·exact .inl y
    ·exact .inr (k1.fr y z)
 ·rw [if_neg c1] at q
  wtm_at "wp"
  refine ax (fun c2 => ?_) (fun c2 => ?_)
  ·rw [if_pos (md_inj.mp c2)] at q
   wtm_at "wp"
   exact ⟨n,dx,_,_,_,_,_,_,d.ps,3,Md.free.str,rfl,rfl,rfl,eo,fun H1 k1 a1 a2=>h.passed q k1 es a1 a2⟩
  ·rw [if_neg (fun z=>c2 (md_inj.mpr z))] at q
   wtm_at "wp"
   exact q H A (Kp.refl _ _) h (fun x hx => .inl hx)
abbrev qq:Stmt:=(aj (top 43) 6)
abbrev n8 (K:PySem.W.Frag) (c:Cs):Sp:=sp2 fun u v H Q _=>∃ (n:Addr) (A:NA) (d:Nd) (b:Int),u = .ref n∧v = .int b∧NdAt c H n A d∧NdOk d∧Bit b∧d.tk.length≤5000∧d.qu.length≤900∧Post c H n A (d.hear b) Q
theorem n9:FnScope ["self", "bit"] ["self", "bit"] (ah qq):=aR
theorem oa (T:Txt K mg c):fX P w K mg base CX0 9 c.D "hear" ["self", "bit"] (n8 K c):=by
 refine T.d_Node_hear.ok n9 (fun _ _ _ _ _ _ us hl=>match us,hl with | [_,_],_=>rfl) fj (fun f cdv A outer s H vs Q E hr h => ?_)
 obtain ⟨v0,v1,rfl,h⟩:=h
 refine ⟨_,(ad (aQ (ai bg (av (K:=K) (pv 0)) (pgs T.c_FRAME) (ao _))
    (ad (aH (d7 T.k_Node (cM T) hr ay (pv 0) (aa (pv 1) ae))))
    (ad (aQ (ai bg (av (K:=K) (pv 0)) (pgs T.c_CRY) (ao _))
     (ad (aH (d7 T.k_Node (cQ T) hr ay (pv 0) (aa (pgi T.c_CRIED_BITS) (aa (pgs T.c_DAZED) ae)))))
     (ad (aQ (ai bg (av (K:=K) (pv 0)) (pgs T.c_DAZED) (ao _))
      (ad (aH (d7 T.k_Node (hV T) hr ay (pv 0) (aa (pv 1) ae))))
      (ad (aH (d7 T.k_Node (fV T) hr ay (pv 0) (aa (pv 1) ae)))))))))),?_⟩
 try dsimp only [br,Cx.nox,Cx.wish]
 refine ak (s2:=[some v0,some v1]) rfl ?_
 obtain ⟨n,A,d,b,rfl,rfl,h,ok,hb,hl,hql,q⟩:=h
 obtain ⟨⟨dx,sv,eo,es⟩,ro,⟨qs,eq,fq⟩,⟨ts,et,ft⟩,nd⟩:=id h
 unfold Nd.hear at q
 wtm_at "wp"
 refine ax (fun c1 => ?_) (fun c1 => ?_)
 ·have st:d.st = .frame:=md_inj.mp c1
  rw [st] at q
  wtm_at "wp"
  exact ⟨n,A,d,b,rfl,rfl,h,ok,st,hb,hl,hql,q⟩
 wtm_at "wp"
 refine ax (fun c2 => ?_) (fun c2 => ?_)
 ·have st:d.st = .cry:=md_inj.mp c2
  rw [st] at q
  wtm_at "wp"
  exact ⟨n,dx,_,_,_,_,_,_,d.ps,6,Md.dazed.str,rfl,rfl,rfl,eo,fun H1 k1 a1 a2=>h.passed q k1 es a1 a2⟩
 wtm_at "wp"
 refine ax (fun c3 => ?_) (fun c3 => ?_)
 ·have st:d.st = .dazed:=md_inj.mp c3
  rw [st] at q
  wtm_at "wp"
  exact ⟨n,A,d,b,rfl,rfl,h,q⟩
 ·have q':Post c H n A (d.hearBetween b) Q:=by
   cases hst:d.st with
   | frame=>exact absurd (md_inj.mpr hst) c1
   | cry=>exact absurd (md_inj.mpr hst) c2
   | dazed=>exact absurd (md_inj.mpr hst) c3
   | free=>rw [hst] at q;exact q
   | rest=>rw [hst] at q;exact q
  wtm_at "wp"
  exact ⟨n,A,d,b,rfl,rfl,h,ok,hb,hl,hql,q'⟩
abbrev ke:Stmt:=(aj (top 43) 0)
abbrev jk (K:PySem.W.Frag) (c:Cs):Sp:=sp1 fun u H Q _=>∃ x dx,u = .ref x∧At H x (.ins c.D dx [])∧(∀ H' A,Chg [x] H H'→(∀ y∈[A.r,A.w,A.p,A.q,A.t],aS H y)→NdAt c H' x A Nd.new→Q .non H')
theorem jm:FnScope ["self"] ["self"] (ah ke):=aR
theorem jn (T:Txt K mg c):Ac P w K mg base CX0 7 c.D ["self"] (jk K c):=by
 refine T.d_Node___init__.ok jm (fun _ _ _ _ _ _ us hl=>match us,hl with | [_],_=>rfl) gB (fun f cdv A outer s H vs Q E hr h => ?_)
 obtain ⟨v0,rfl,h⟩:=h
 refine ⟨_,(ag (bF (K:=K) (pv 0) (pgs T.c_FREE))
   (ag (bF (K:=K) (pv 0) af)
   (ag (bF (K:=K) (pv 0) (uh (dk T) hr T.m_Reading ay))
   (ag (bF (K:=K) (pv 0) cc)
   (ag (bF (K:=K) (pv 0) (bj ae))
   (ag (bF (K:=K) (pv 0) (bj ae))
   (ad (bF (K:=K) (pv 0) af)))))))),?_⟩
 try dsimp only [br,Cx.nox,Cx.wish]
 refine ak (s2:=[some v0]) rfl ?_
 obtain ⟨x,dx,rfl,ex,q⟩:=h
 wtm_at "wp"
 intro r rx hr1 hrx nrx
 have hrH:aS H r:=by wtm_at "hf"
 have nxr:x≠r:=aJ hr1 ac
 wtm_at "wp"
 refine ⟨r,rx,rfl,ac,fun H1 w p k1 fw fp ro=>⟨rfl,?_⟩⟩
 have s1:=Chg.made hr1 hrx k1
 have fw1:=wJ fw
 have fp1:=wJ fp
 have nxw:x≠w:=aJ fw1 ac
 have nxp:x≠p:=aJ fp1 ac
 have fwH:aS H w:=by wtm_at "hf"
 have fpH:aS H p:=by wtm_at "hf"
 have e1:=s1.get (ac (H:=upd H x (.ins c.D dx (fg "state" (.str Md.free.str) []))) (a:=x) (o := .ins c.D dx (fg "passed" (.int 0) (fg "state" (.str Md.free.str) []))))
 have c1:Chg [x] H H1:=(((Chg.refl [x] H).upd (by simp)).upd (by simp)).trans (Same.chg s1)
 obtain ⟨⟨rx2,ch,er,ec⟩,ew,ep,nwp⟩:=ro
 have nrw:r≠w:=er.ne ew (by intro z;cases z)
 have nrp:r≠p:=er.ne ep (by intro z;cases z)
 have ncx:ch≠x:=ec.ne e1 (by intro z;cases z)
 clear k1 hr1 hrx fw fp fw1 fp1
 generalize hG:H1=G at *
 clear s1 hG
 wtm_at "wp"
 refine ⟨small (show 0≤1000 by decide),fun qa hqa => ?_⟩
 have nxq:x≠qa:=aJ hqa ac
 have nrq:r≠qa:=aJ hqa (by wtm_at "hg")
 have nwq:w≠qa:=aJ hqa (by wtm_at "hg")
 have npq:p≠qa:=aJ hqa (by wtm_at "hg")
 have fqG:aS G qa:=by wtm_at "hf"
 wtm_at "wp"
 refine ⟨small (show 0≤1000 by decide),fun ta hta => ?_⟩
 have nxt:x≠ta:=aJ hta ac
 have nrt:r≠ta:=aJ hta (by wtm_at "hg")
 have nwt:w≠ta:=aJ hta (by wtm_at "hg")
 have npt:p≠ta:=aJ hta (by wtm_at "hg")
 have nqt:qa≠ta:=aJ hta (by wtm_at "hg")
 have ftG:aS G ta:=by wtm_at "hf"
 wtm_at "wp"
 have fqH:aS H qa:=Chg.fr c1 (aM (Ne.symm nxq)) fqG
 have ftH:aS H ta:=Chg.fr c1 (aM (Ne.symm nxt)) ftG
 refine q _ ⟨r,w,p,qa,ta⟩ (by wtm_at "hc") (fun y hy => ?_) ⟨⟨dx,.non,ac,rfl⟩,(show RdAt c _ r w p [] [] from ⟨⟨rx2,ch,by wtm_at "hg",by wtm_at "hg"⟩,by wtm_at "hg",by wtm_at "hg",nwp⟩),⟨[],by wtm_at "hg",.nil⟩,⟨[],by wtm_at "hg",.nil⟩,?_⟩
 ·simp only [List.mem_cons,List.not_mem_nil,or_false] at hy
  rcases hy with rfl | rfl | rfl | rfl | rfl
  ·exact hrH
  ·exact fwH
  ·exact fpH
  ·exact fqH
  ·exact ftH
 ·simp only [fpN,List.nodup_cons,List.mem_cons,List.not_mem_nil,or_false,not_or,List.nodup_nil,not_false_eq_true,and_true]
  exact ⟨⟨nxr,nxw,nxp,nxq,nxt⟩,⟨nrw,nrp,nrq,nrt⟩,⟨nwp,nwq,nwt⟩,⟨npq,npt⟩,nqt⟩
theorem NdAt.live {c:Cs} {H:Hp} {n:Addr} {A:NA} {d:Nd} (h:NdAt c H n A d):∀ x∈fpN n A,∃ o,At H x o∧¬ Im o:=by
 obtain ⟨⟨dx,sv,eo,es⟩,⟨⟨rx,ch,er,ec⟩,ew,ep,nwp⟩,⟨qs,eq,fq⟩,⟨ts,et,ft⟩,nd⟩:=h
 intro x hx
 simp only [fpN,List.mem_cons,List.not_mem_nil,or_false] at hx
 rcases hx with rfl | rfl | rfl | rfl | rfl | rfl
 ·exact ⟨_,eo,fun z=>z⟩
 ·exact ⟨_,er,fun z=>z⟩
 ·exact ⟨_,ew,fun z=>z⟩
 ·exact ⟨_,ep,fun z=>z⟩
 ·exact ⟨_,eq,fun z=>z⟩
 ·exact ⟨_,et,fun z=>z⟩
abbrev NE:=Addr×NA×Nd
def fpE (x:NE):List Addr:=fpN x.1 x.2.1
structure Nodes (c:Cs) (H:Hp) (ns:List NE):Prop where
 at_:∀ x∈ns,NdAt c H x.1 x.2.1 x.2.2
 sep:ns.Pairwise fun x y=>∀ a∈fpE x,a∉fpE y
theorem Nodes.kp {c:Cs} {H H':Hp} {ns:List NE} {S:List Addr} (h:Nodes c H ns) (k:Kp S H H') (hd:∀ x∈ns,∀ a∈fpE x,a∉S):Nodes c H' ns:=⟨fun x hx=>(h.at_ x hx).kp k (hd x hx),h.sep⟩
theorem Nodes.set {c:Cs} {H H':Hp} {pre post:List NE} {n:Addr} {A A':NA} {d d':Nd} (h:Nodes c H (pre++(n,A,d) :: post)) (k:Kp (fpN n A) H H') (h':NdAt c H' n A' d') (f:∀ x∈fpN n A',x∈fpN n A∨aS H x) :
  Nodes c H' (pre++(n,A',d') :: post):=by
 obtain ⟨ha,hs⟩:=h
 rw [List.pairwise_append,List.pairwise_cons] at hs
 obtain ⟨s1,⟨s2,s3⟩,s4⟩:=hs
 have other:∀ x,x∈pre∨x∈post→∀ a∈fpE x,a∉fpN n A:=fun x hx a ha1 ha2=>by
  rcases hx with z | z
  ·exact s4 x z (n,A,d) List.mem_cons_self a ha1 ha2
  ·exact s2 x z a ha2 ha1
 have new:∀ x,x∈pre∨x∈post→∀ a∈fpE x,a∉fpN n A':=fun x hx a ha1 ha2=>by
  rcases f a ha2 with z | z
  ·exact other x hx a ha1 z
  ·obtain ⟨o,e,_⟩:=(ha x (by rw [List.mem_append,List.mem_cons];rcases hx with y | y;exact .inl y;exact .inr (.inr y))).live a ha1
   exact (aJ z e) rfl
 refine ⟨fun x hx => ?_,?_⟩
 ·rw [List.mem_append,List.mem_cons] at hx
  rcases hx with z | rfl | z
  ·exact (ha x (List.mem_append_left _ z)).kp k (other x (.inl z))
  ·exact h'
  ·exact (ha x (List.mem_append_right _ (List.mem_cons_of_mem _ z))).kp k (other x (.inr z))
 ·rw [List.pairwise_append,List.pairwise_cons]
  refine ⟨s1,⟨fun y hy a h1 h2=>new y (.inr hy) a h2 h1,s3⟩,fun x hx y hy a h1 h2 => ?_⟩
  rcases List.mem_cons.mp hy with rfl | z
  ·exact new x (.inl hx) a h1 h2
  ·exact s4 x hx y (List.mem_cons_of_mem _ z) a h1 h2
def fpB (b:Addr) (ns:List NE):List Addr:=b :: ns.flatMap fpE
structure BusAt (c:Cs) (H:Hp) (b:Addr) (F:List Addr) (as:List Addr) (ds:List Nd) (t:Nat):Prop where
 ex:∃ (dx l:Addr) (o:Obj) (ns:List NE),At H b (.ins c.U dx (buF (.ref l) (.int (t:Nat))))∧At H l (.frz o (.lst (as.map V.ref)))∧Nodes c H ns∧ns.map (·.1)=as∧ns.map (·.2.2)=ds∧F=fpB b ns∧b∉ns.flatMap fpE
def zD (c:Cs) (H:Hp) (b:Addr) (F as:List Addr) (ds:List Nd) (t:Nat) (v:V) (Q:VK):Prop:=∀ H' F',Kp F H H'→BusAt c H' b F' as ds t→(∀ x∈F',x∈F∨aS H x)→Q v H'
theorem BusAt.live {c:Cs} {H:Hp} {b:Addr} {F as:List Addr} {ds:List Nd} {t:Nat} (h:BusAt c H b F as ds t):∀ x∈F,∃ o,At H x o∧¬ Im o:=by
 obtain ⟨dx,l,o,ns,e1,e2,e3,e4,e5,rfl,e7⟩:=h.ex
 intro x hx
 rcases List.mem_cons.mp hx with rfl | z
 ·exact ⟨_,e1,fun z=>z⟩
 ·obtain ⟨y,hy,hz⟩:=List.mem_flatMap.mp z
  exact (e3.at_ y hy).live x hz
theorem BusAt.kp {c:Cs} {H H':Hp} {b:Addr} {F S as:List Addr} {ds:List Nd} {t:Nat} (h:BusAt c H b F as ds t) (k:Kp S H H') (hd:∀ x∈F,x∉S):BusAt c H' b F as ds t:=by
 obtain ⟨dx,l,o,ns,e1,e2,e3,e4,e5,rfl,e7⟩:=h.ex
 exact ⟨dx,l,o,ns,k.get (hd b (by simp [fpB])) e1,k.frz e2,e3.kp k (fun x hx a ha=>hd a (List.mem_cons_of_mem _ (List.mem_flatMap.mpr ⟨x,hx,ha⟩))),e4,e5,rfl,e7⟩
theorem BusAt.same {c:Cs} {H H':Hp} {b:Addr} {F as:List Addr} {ds:List Nd} {t:Nat} (h:BusAt c H b F as ds t) (s:Same H H'):BusAt c H' b F as ds t:=h.kp (S:=[]) (Same.kp s) (fun _ _ z=>by cases z)
theorem BusAt.len {c:Cs} {H:Hp} {b:Addr} {F as:List Addr} {ds:List Nd} {t:Nat} (h:BusAt c H b F as ds t):as.length=ds.length:=by
 obtain ⟨dx,l,o,ns,e1,e2,e3,e4,e5,e6,e7⟩:=h.ex
 rw [← e4,← e5,List.length_map,List.length_map]
theorem Nodes.nth {c:Cs} {H:Hp} {ns:List NE} (h:Nodes c H ns) {i:Nat} {x:NE} (e:ns[i]? = some x):NdAt c H x.1 x.2.1 x.2.2:=h.at_ x (List.mem_of_getElem? e)
theorem vv {α:Type} {l:List α} {i:Nat} {x:α} (h:l[i]? = some x):l=l.take i++x :: l.drop (i+1):=by
 obtain ⟨hi,e⟩:=List.getElem?_eq_some_iff.mp h
 rw [← e]
 conv=>lhs;rw [← List.take_append_drop i l,List.drop_eq_getElem_cons hi]
theorem vw {α:Type} {l:List α} {i:Nat} {x y:α} (h:l[i]? = some x):l.set i y=l.take i++y :: l.drop (i+1):=by
 obtain ⟨hi,e⟩:=List.getElem?_eq_some_iff.mp h
 rw [List.set_eq_take_append_cons_drop,if_pos hi]
theorem Nodes.setAt {c:Cs} {H H':Hp} {ns:List NE} (h:Nodes c H ns) {i:Nat} {n:Addr} {A A':NA} {d d':Nd} (e:ns[i]? = some (n,A,d)) (k:Kp (fpN n A) H H') (h':NdAt c H' n A' d') (f:∀ x∈fpN n A',x∈fpN n A∨aS H x):Nodes c H' (ns.set i (n,A',d')):=by
 rw [vw e]
 rw [vv e] at h
 exact h.set k h' f
theorem xP {ns:List NE} {i:Nat} {n:Addr} {A A':NA} {d d':Nd} {H:Hp} (e:ns[i]? = some (n,A,d)) (f:∀ x∈fpN n A',x∈fpN n A∨aS H x):∀ x∈(ns.set i (n,A',d')).flatMap fpE,x∈ns.flatMap fpE∨aS H x:=by
 intro x hx
 obtain ⟨y,hy,hz⟩:=List.mem_flatMap.mp hx
 rcases List.mem_or_eq_of_mem_set hy with z | rfl
 ·exact .inl (List.mem_flatMap.mpr ⟨y,z,hz⟩)
 ·rcases f x hz with z | z
  ·exact .inl (List.mem_flatMap.mpr ⟨_,List.mem_of_getElem? e,z⟩)
  ·exact .inr z
theorem xQ {ns:List NE} {i:Nat} {x:NE} (e:ns[i]? = some x):∀ a∈fpE x,a∈ns.flatMap fpE:=fun a ha=>List.mem_flatMap.mpr ⟨x,List.mem_of_getElem? e,ha⟩
def CpD (D:Addr) (H H':Hp) (v:V) (f:Fr):Prop:=∃ t r,v = .ref t∧At H' t (.tup [.int f.1,.ref r])∧At H' r (.lst (f.2.map V.int))∧aS H t∧aS H r∧r≠D
def Cp (H H':Hp) (v:V) (f:Fr):Prop:=∃ t r,v = .ref t∧At H' t (.tup [.int f.1,.ref r])∧At H' r (.lst (f.2.map V.int))∧aS H t∧aS H r
theorem cy {α:Type} {l:List α} {i:Nat} {b:α} (h:l[i]? = some b):l.take (i+1)=l.take i++[b]:=by
 obtain ⟨hi,e⟩:=List.getElem?_eq_some_iff.mp h
 rw [List.take_succ_eq_append_getElem hi,e]
abbrev qr:Stmt:=(top 46)
abbrev og (K:PySem.W.Frag) (c:Cs):Sp:=sp1 fun u H Q _=>∃ (a:Addr) (vs:List V) (fs:List Fr),u = .ref a∧SqL K H a vs∧Frs H vs fs∧fs.length≤5000∧(∀ D us H',Same H H'→aS H D→At H' D (.lst us)→Paired (Cp H H') us fs→Q (.ref D) H')
theorem oi:FnScope ["frames"] ["frames"] (ah qr):=aR
theorem i6 (T:Txt K mg c):dm P w K mg base CX0 1 "copies_of" ["frames"] (og K c):=by
 refine T.d_copies_of.ok oi (fun _ _ _ _ _ _ us hl=>match us,hl with | [_],_=>rfl) gB (fun f cdv A outer s H vs Q E hr h => ?_)
 obtain ⟨v0,rfl,h⟩:=h
 refine ⟨_,(ad (aC (cP [] [] (aV (K:=K) (pv 0)) (fun fp s H=>(cH (aa (bh (bR (K:=K)) (pv 0) af (fun _ _=>rfl)) (aa (cJ (de (K:=K)) rfl T.list PyProof.Rows.boot_list (aa (bh (bR (K:=K)) (pv 0) af (fun _ _=>rfl)) ae)) ae))))))),?_⟩
 try dsimp only [br,Cx.nox,Cx.wish]
 refine ak (s2:=[some v0]) rfl ?_
 obtain ⟨a,vs,fs,rfl,hS,hf,hl,q⟩:=h
 have ql:=hf.len
 wtm_at "wp"
 refine b9 ?_
 wtm_at "wp"
 refine gN (xs:=vs) (fun D i ys H2=>Same H H2∧At H2 D (.lst ys)∧aS H D∧Paired (CpD D H H2) ys (fs.take i)) hS (Nat.le_of_lt (iK (by omega))) (fun D hD=>⟨au hD _,ac,hD,.nil⟩) (fun D i ys H2 hi ⟨s2,e2,f2,p2⟩=>⟨e2,s2.seq hS,?_⟩) (fun D i x ys H2 hx ⟨s2,e2,f2,p2⟩ => ?_) (fun D ys H2 ⟨s2,e2,f2,p2⟩ => ?_)
 ·have:=Paired.length p2
  rw [List.length_take] at this
  omega
 ·have hi:i < vs.length:=(List.getElem?_eq_some_iff.mp hx).1
  obtain ⟨f,hfi,t,r,o,rfl,et,er⟩:=eO hf hx
  have et2:=s2.get et
  have er2:=s2.get er
  show CB _ [some (.ref t)] _ _
  wtm_at "wp"
  intro l hl1
  wtm_at "wp"
  refine ⟨small (show 2≤1000 by decide),fun u hu => ?_⟩
  have nlD:l≠D:=Ne.symm (aJ hl1 e2)
  have nuD:u≠D:=Ne.symm (aJ hu (aE hl1 e2))
  have eD:At (upd (upd H2 l (.lst (f.2.map V.int))) u (.tup [.int f.1,.ref l])) D (.lst ys):=aE hu (aE hl1 e2)
  have s3:Same H (upd (upd H2 l (.lst (f.2.map V.int))) u (.tup [.int f.1,.ref l])):=(s2.new hl1).new hu
  refine pK hi eD ⟨s3.upF f2,ac,f2,?_⟩
  rw [cy hfi]
  refine j5 (Paired.mapP p2 fun v g ⟨t',r',e,a1,a2,a3,a4,a5⟩=>⟨t',r',e,?_,?_,a3,a4,a5⟩) (.cons ⟨u,l,rfl,aG nuD ac,aG nlD (aE hu ac),s2.fr (BM hu),s2.fr hl1,nlD⟩ .nil)
  ·exact aG (a1.ne e2 (by intro z;cases z)) (aE hu (aE hl1 a1))
  ·exact aG a5 (aE hu (aE hl1 a2))
 ·rw [ql,List.take_of_length_le (Nat.le_refl _)] at p2
  exact q D ys H2 s2 f2 e2 (Paired.mapP p2 fun v g ⟨t',r',e,a1,a2,a3,a4,_⟩=>⟨t',r',e,a1,a2,a3,a4⟩)
abbrev kK:Stmt:=(aj (top 47) 0)
abbrev kf (K:PySem.W.Frag) (c:Cs):Sp:=sp2 fun u v H Q _=>∃ (x dx:Addr) (m:Nat),u = .ref x∧v = .int (m:Nat)∧At H x (.ins c.U dx [])∧1≤m∧m≤8∧(∀ H' F as,Chg [x] H H'→(∀ y∈F,y=x∨aS H y)→as.length=m→BusAt c H' x F as (List.replicate m Nd.new) 0→Q .non H')
theorem kg:FnScope ["self", "many"] ["self", "many"] (ah kK):=aR
theorem ki (T:Txt K mg c):Ac P w K mg base CX0 9 c.U ["self", "many"] (kf K c):=by
 refine T.d_Bus___init__.ok kg (fun _ _ _ _ _ _ us hl=>match us,hl with | [_,_],_=>rfl) fj (fun f cdv A outer s H vs Q E hr h => ?_)
 obtain ⟨v0,v1,rfl,h⟩:=h
 refine ⟨_,(ag (aQ (PW.pt (dZ (ai gF (pv 1) af (ao _)) (cS (ai mR (pv 1) (pgi T.c_MOST_NODES) (ao _)))))
    (ad vK)
    az)
   (ag (bF (K:=K) (pv 0) (dY (cP [] [] (bH rfl T.range (aa (pv 1) ae)) (fun fp s H=>(uh (jn T) hr T.m_Node ay)))))
   (ad (bF (K:=K) (pv 0) af)))),?_⟩
 try dsimp only [br,Cx.nox,Cx.wish]
 refine ak (s2:=[some v0,some v1]) rfl ?_
 obtain ⟨x,dx,m,rfl,rfl,ex,hm1,hm8,q⟩:=h
 wtm_at "wp"
 refine Bo (by omega) ?_
 wtm_at "wp"
 refine Bo (by omega) ?_
 wtm_at "wp"
 refine lT ?_
 wtm_at "wp"
 refine nK m (fun D i ys H2=>∃ ns:List NE,Same H H2∧At H2 D (.lst ys)∧aS H D∧ys=ns.map (fun z=>V.ref z.1)∧Nodes c H2 ns∧ns.map (·.2.2)=List.replicate i Nd.new∧∀ a∈ns.flatMap fpE,aS H a∧a≠D) (by omega) (by omega) (small (by omega))
  (fun D hD=>⟨[],au hD _,ac,hD,rfl,⟨fun z hz=>(by cases hz),List.Pairwise.nil⟩,rfl,fun a ha=>(by cases ha)⟩) (fun D i ys H2 hi ⟨ns,s2,e2,f2,ey,n2,d2,a2⟩=>⟨e2,?_⟩) (fun D i ys H2 hi ⟨ns,s2,e2,f2,ey,n2,d2,a2⟩ => ?_) (fun D ys H2 ⟨ns,s2,e2,f2,ey,n2,d2,a2⟩ => ?_)
 ·have:=congrArg List.length d2
  rw [List.length_map,List.length_replicate] at this
  rw [ey,List.length_map,this]
  exact Nat.le_refl _
 ·show sg _ _ _ _ _ [some (.int (i:Int))] _ _
  wtm_at "wp"
  intro n nx hn hnx nnx
  refine ⟨_,rfl,n,nx,rfl,ac,fun H3 A k3 f3 h3=>⟨rfl,?_⟩⟩
  have s3:Same H2 H3:=Chg.made hn hnx k3
  have eD:=s3.get e2
  have ffp:∀ a∈fpN n A,aS H2 a:=fun a ha=>by
   rcases List.mem_cons.mp ha with rfl | z
   ·exact hn
   ·exact wJ (f3 a z)
  have nD:∀ a∈fpN n A,a≠D:=fun a ha=>Ne.symm (aJ (ffp a ha) e2)
  refine pK hi eD ⟨ns++[(n,A,Nd.new)],(s2.trans s3).upF f2,ac,f2,by rw [ey,List.map_append];rfl,?_,?_,?_⟩
  ·have hk:Kp [D] H3 (upd H3 D (.lst (ys++[.ref n]))):=(Kp.refl _ _).upd (by simp) eD (fun z=>z)
   have n3:Nodes c H3 ns:=n2.kp (S:=[]) (Same.kp s3) (fun _ _ _ _ z=>by cases z)
   refine ⟨fun z hz => ?_,?_⟩
   ·rcases List.mem_append.mp hz with y | y
    ·exact (n3.at_ z y).kp hk (fun a ha=>aM (a2 a (List.mem_flatMap.mpr ⟨z,y,ha⟩)).2)
    ·rw [List.mem_singleton.mp y]
     exact h3.kp hk (fun a ha=>aM (nD a ha))
   ·rw [List.pairwise_append]
    refine ⟨n2.sep,List.pairwise_singleton _ _,fun z hz w hw a h1 h2 => ?_⟩
    rw [List.mem_singleton.mp hw] at h2
    obtain ⟨o,e,_⟩:=(n2.at_ z hz).live a h1
    exact (aJ (ffp a h2) e) rfl
  ·rw [List.map_append,d2,List.replicate_succ']
   rfl
  ·intro a ha
   rw [List.flatMap_append,List.mem_append] at ha
   rcases ha with z | z
   ·exact a2 a z
   ·have z':a∈fpN n A:=by simpa [fpE] using z
    exact ⟨s2.fr (ffp a z'),nD a z'⟩
 ·refine bQ e2 (fun o => ?_)
  have s3:Same H (upd H2 D (.frz o (.lst ys))):=s2.upF f2
  have k3:Kp [D] H2 (upd H2 D (.frz o (.lst ys))):=(Kp.refl _ _).upd (by simp) e2 (fun z=>z)
  have n3:Nodes c (upd H2 D (.frz o (.lst ys))) ns:=n2.kp k3 (fun z hz a ha=>aM (a2 a (List.mem_flatMap.mpr ⟨z,hz,ha⟩)).2)
  have eD:At (upd H2 D (.frz o (.lst ys))) D (.frz o (.lst ys)):=ac
  generalize upd H2 D (.frz o (.lst ys))=H3 at *
  have ex3:=s3.get ex
  wtm_at "wp"
  have c4:Chg [x] H3 (upd (upd H3 x (.ins c.U dx (fg "nodes" (.ref D) []))) x (.ins c.U dx (fg "bits_past" (.int 0) (fg "nodes" (.ref D) [])))):=((Chg.refl [x] H3).upd (by simp)).upd (by simp)
  have k4:=Chg.kp (S:=[x]) c4 (by simp) ex3 (fun z=>z)
  have nxa:∀ a∈ns.flatMap fpE,a≠x:=fun a ha=>Ne.symm (aJ (a2 a ha).1 ex)
  refine q _ (fpB x ns) (ns.map (·.1)) ((Same.chg s3).trans c4) (fun y hy => ?_) ?_ ⟨dx,D,o,ns,ac,?_,n3.kp k4 (fun z hz a ha=>aM (nxa a (List.mem_flatMap.mpr ⟨z,hz,ha⟩))),rfl,d2,rfl,fun z=>nxa x z rfl⟩
  ·rcases List.mem_cons.mp hy with z | z
   ·exact .inl z
   ·exact .inr (a2 y z).1
  ·have:=congrArg List.length d2
   rw [List.length_map,List.length_replicate] at this
   rw [List.length_map,this]
  ·rw [ey] at eD
   rw [List.map_map]
   exact k4.frz eD
abbrev mw:Stmt:=(aj (top 47) 1)
abbrev kL (K:PySem.W.Frag) (c:Cs):Sp:=sp2 fun u v H Q E=>∃ (b:Addr) (F as:List Addr) (ds:List Nd) (t:Nat) (i:Int),u = .ref b∧v = .int i∧BusAt c H b F as ds t∧as.length≤8∧i.natAbs.log2 < 1920∧(∀ k a,i=(k:Nat)→as[k]? = some a→Q (.ref a) H)∧(¬ (0≤i∧i < as.length)→E (.ref c.N) none H)
theorem kM:FnScope ["self", "node"] ["self", "node"] (ah mw):=aR
theorem b8 (T:Txt K mg c):fX P w K mg base (CXe P w) 1 c.U "node_at" ["self", "node"] (kL K c):=by
 refine T.d_Bus_node_at.okE kM (fun _ _ _ _ _ _ us hl=>match us,hl with | [_,_],_=>rfl) fj (fun f cdv A outer s H vs Q E hr h => ?_)
 obtain ⟨v0,v1,rfl,h⟩:=h
 refine ⟨_,(ag (aQ (PW.pt (dZ (ai gF (pv 1) af (ao _)) (cS (ai AA (pv 1) (aw (aq (K:=K)) rfl T.len PySem.boot_len (aa (av (K:=K) (pv 0)) ae)) (ao _)))))
    (ad (gJ (E:=E) (fun pins σ H s h' e vs I hx hE=>gI I hx hE) PySem.F.excBase_ValueError T.x_NoNode rfl rfl T.m_NoNode (aa (jK (xF (AU (pv 1) (xF nw)))) ae)))
    az)
   (ad (aC (bh (aK (K:=K)) (av (K:=K) (pv 0)) (pv 1) (fun _ _=>rfl))))),?_⟩
 try dsimp only [br,Cx.nox,Cx.wish]
 refine ak (s2:=[some v0,some v1]) rfl ?_
 obtain ⟨b,F,as,ds,t,i,rfl,rfl,h,h8,hlog,qg,qb⟩:=h
 obtain ⟨dx,l,o,ns,e1,e2,e3,e4,e5,e6,e7⟩:=h.ex
 have la:(as.map V.ref).length=as.length:=List.length_map _
 wtm_at "wp"
 refine ax (fun c1 => ?_) (fun c1 => ?_)
 ·wtm_at "wp"
  exact ⟨_,rfl,_,rfl,hlog,fun y=>⟨(show 1≤100 by decide),qb fun z=>by omega⟩⟩
 wtm_at "wp"
 rw [la]
 refine ax (fun c2 => ?_) (fun c2 => ?_)
 ·exact ⟨_,rfl,_,rfl,hlog,fun y=>⟨(show 1≤100 by decide),qb fun z=>by omega⟩⟩
 wtm_at "wp"
 have hi:i.toNat < as.length:=by omega
 have ei:i=(i.toNat:Int):=by omega
 refine bf (At.sqF e2) (show atI (as.map V.ref) i=some (.ref as[i.toNat]) by
  have h:=dE (xs:=as.map V.ref) (j:=i.toNat) (v := .ref as[i.toNat]) (by rw [List.getElem?_map,List.getElem?_eq_getElem hi];rfl)
  rw [← ei] at h
  exact h) ?_
 wtm_at "wp"
 exact qg i.toNat _ ei (List.getElem?_eq_getElem hi)
theorem BusAt.nth {c:Cs} {H:Hp} {b:Addr} {F as:List Addr} {ds:List Nd} {t:Nat} (h:BusAt c H b F as ds t) {k:Nat} {d:Nd} (e:ds[k]? = some d):∃ n A,as[k]? = some n∧NdAt c H n A d∧(∀ x∈fpN n A,x∈F):=by
 obtain ⟨dx,l,o,ns,e1,e2,e3,e4,e5,rfl,e7⟩:=h.ex
 rw [← e5,List.getElem?_map] at e
 cases q:ns[k]? with
 | none=>rw [q] at e;cases e
 | some x=>
  obtain ⟨n,A,d'⟩:=x
  rw [q] at e
  have e':d'=d:=Option.some.inj e
  subst e'
  refine ⟨n,A,by rw [← e4,List.getElem?_map,q];rfl,e3.nth q,fun x hx=>List.mem_cons_of_mem _ (xQ q x hx)⟩
abbrev sV:Stmt:=(aj (top 47) 2)
abbrev qt (K:PySem.W.Frag) (c:Cs):Sp:=sp1 fun u H Q _=>∃ (b:Addr) (F as:List Addr) (ds:List Nd) (t:Nat),u = .ref b∧BusAt c H b F as ds t∧Q (.int (t:Nat)) H
theorem qw:FnScope ["self"] ["self"] (ah sV):=aR
theorem qx (T:Txt K mg c):fX P w K mg base CX0 1 c.U "time" ["self"] (qt K c):=by
 refine T.d_Bus_time.ok qw (fun _ _ _ _ _ _ us hl=>match us,hl with | [_],_=>rfl) gB (fun f cdv A outer s H vs Q E hr h => ?_)
 obtain ⟨v0,rfl,h⟩:=h
 refine ⟨_,(ad (aC (av (K:=K) (pv 0)))),?_⟩
 try dsimp only [br,Cx.nox,Cx.wish]
 refine ak (s2:=[some v0]) rfl ?_
 obtain ⟨b,F,as,ds,t,rfl,h,q⟩:=h
 obtain ⟨dx,l,o,ns,e1,e2,e3,e4,e5,e6,e7⟩:=h.ex
 wtm_at "wp"
 exact q
abbrev qy:Stmt:=(aj (top 47) 3)
abbrev oj (K:PySem.W.Frag) (c:Cs):Sp:=sp2 fun u v H Q _=>∃ (b:Addr) (F as:List Addr) (ds:List Nd) (t k:Nat) (d:Nd),u = .ref b∧v = .int (k:Nat)∧BusAt c H b F as ds t∧as.length≤8∧ds[k]? = some d∧d.tk.length≤5000∧(∀ D us H',Same H H'→aS H D→At H' D (.lst us)→Paired (Cp H H') us d.tk→Q (.ref D) H')
theorem om:FnScope ["self", "node"] ["self", "node"] (ah qy):=aR
theorem i7 (T:Txt K mg c):fX P w K mg base CX0 2 c.U "heard" ["self", "node"] (oj K c):=by
 refine T.d_Bus_heard.ok om (fun _ _ _ _ _ _ us hl=>match us,hl with | [_,_],_=>rfl) fj (fun f cdv A outer s H vs Q E hr h => ?_)
 obtain ⟨v0,v1,rfl,h⟩:=h
 refine ⟨_,(ad (aC (bV (i6 T) hr ay (aa (av (K:=K) (d7 T.k_Bus (b8 T) hr nE (pv 0) (aa (pv 1) ae))) ae)))),?_⟩
 try dsimp only [br,Cx.nox,Cx.wish]
 refine ak (s2:=[some v0,some v1]) rfl ?_
 obtain ⟨b,F,as,ds,t,k,d,rfl,rfl,h,h8,hk,hl,q⟩:=h
 obtain ⟨dx,l,o,ns,e1,e2,e3,e4,e5,e6,e7⟩:=h.ex
 obtain ⟨n,A,ha,⟨⟨nx,sv,eo,es⟩,ro,⟨qs,eq,fq⟩,⟨ts,et,ft⟩,nd⟩,hF⟩:=h.nth hk
 have hkl:k < as.length:=(List.getElem?_eq_some_iff.mp ha).1
 wtm_at "wp"
 refine ⟨b,F,as,ds,t,_,rfl,rfl,h,h8,cj (by omega) (by omega),fun j a ej ea => ?_,fun z=>absurd (by omega) z⟩
 have:j=k:=by omega
 subst this
 rw [ha] at ea
 cases ea
 wtm_at "wp"
 exact ⟨A.t,ts,d.tk,rfl,At.sqL et,ft,hl,q⟩
abbrev qz:Stmt:=(aj (top 47) 4)
abbrev oq (K:PySem.W.Frag) (c:Cs):Sp:=sp2 fun u v H Q _=>∃ (b:Addr) (F as:List Addr) (ds:List Nd) (t k:Nat) (d:Nd),u = .ref b∧v = .int (k:Nat)∧BusAt c H b F as ds t∧as.length≤8∧ds[k]? = some d∧d.qu.length≤900∧(∀ D us H',Same H H'→aS H D→At H' D (.lst us)→Paired (Cp H H') us d.qu→Q (.ref D) H')
theorem ou:FnScope ["self", "node"] ["self", "node"] (ah qz):=aR
theorem eY (T:Txt K mg c):fX P w K mg base CX0 2 c.U "waits" ["self", "node"] (oq K c):=by
 refine T.d_Bus_waits.ok ou (fun _ _ _ _ _ _ us hl=>match us,hl with | [_,_],_=>rfl) fj (fun f cdv A outer s H vs Q E hr h => ?_)
 obtain ⟨v0,v1,rfl,h⟩:=h
 refine ⟨_,(ad (aC (bV (i6 T) hr ay (aa (av (K:=K) (d7 T.k_Bus (b8 T) hr nE (pv 0) (aa (pv 1) ae))) ae)))),?_⟩
 try dsimp only [br,Cx.nox,Cx.wish]
 refine ak (s2:=[some v0,some v1]) rfl ?_
 obtain ⟨b,F,as,ds,t,k,d,rfl,rfl,h,h8,hk,hl,q⟩:=h
 obtain ⟨dx,l,o,ns,e1,e2,e3,e4,e5,e6,e7⟩:=h.ex
 obtain ⟨n,A,ha,⟨⟨nx,sv,eo,es⟩,ro,⟨qs,eq,fq⟩,⟨ts,et,ft⟩,nd⟩,hF⟩:=h.nth hk
 have hkl:k < as.length:=(List.getElem?_eq_some_iff.mp ha).1
 wtm_at "wp"
 refine ⟨b,F,as,ds,t,_,rfl,rfl,h,h8,cj (by omega) (by omega),fun j a ej ea => ?_,fun z=>absurd (by omega) z⟩
 have:j=k:=by omega
 subst this
 rw [ha] at ea
 cases ea
 wtm_at "wp"
 exact ⟨A.q,qs,d.qu,rfl,At.sqL eq,fq,by omega,q⟩
abbrev oy:Stmt:=(aj (top 47) 5)
abbrev mx (K:PySem.W.Frag) (c:Cs):Sp:=sp2 fun u v H Q _=>∃ (b:Addr) (F as:List Addr) (ds:List Nd) (t k:Nat) (d:Nd),u = .ref b∧v = .int (k:Nat)∧BusAt c H b F as ds t∧as.length≤8∧ds[k]? = some d∧Q (.int (d.fc:Nat)) H
theorem my:FnScope ["self", "node"] ["self", "node"] (ah oy):=aR
theorem hW (T:Txt K mg c):fX P w K mg base CX0 2 c.U "faults" ["self", "node"] (mx K c):=by
 refine T.d_Bus_faults.ok my (fun _ _ _ _ _ _ us hl=>match us,hl with | [_,_],_=>rfl) fj (fun f cdv A outer s H vs Q E hr h => ?_)
 obtain ⟨v0,v1,rfl,h⟩:=h
 refine ⟨_,(ad (aC (av (K:=K) (d7 T.k_Bus (b8 T) hr nE (pv 0) (aa (pv 1) ae))))),?_⟩
 try dsimp only [br,Cx.nox,Cx.wish]
 refine ak (s2:=[some v0,some v1]) rfl ?_
 obtain ⟨b,F,as,ds,t,k,d,rfl,rfl,h,h8,hk,q⟩:=h
 obtain ⟨dx,l,o,ns,e1,e2,e3,e4,e5,e6,e7⟩:=h.ex
 obtain ⟨n,A,ha,⟨⟨nx,sv,eo,es⟩,ro,⟨qs,eq,fq⟩,⟨ts,et,ft⟩,nd⟩,hF⟩:=h.nth hk
 have hkl:k < as.length:=(List.getElem?_eq_some_iff.mp ha).1
 wtm_at "wp"
 refine ⟨b,F,as,ds,t,_,rfl,rfl,h,h8,cj (by omega) (by omega),fun j a ej ea => ?_,fun z=>absurd (by omega) z⟩
 have:j=k:=by omega
 subst this
 rw [ha] at ea
 cases ea
 wtm_at "wp"
 exact q
abbrev sW:Stmt:=(aj (top 47) 6)
abbrev qA (K:PySem.W.Frag) (c:Cs):Sp:=sp2 fun u v H Q _=>∃ (b:Addr) (F as:List Addr) (ds:List Nd) (t k:Nat) (d:Nd),u = .ref b∧v = .int (k:Nat)∧BusAt c H b F as ds t∧as.length≤8∧ds[k]? = some d∧Q (.str d.st.str) H
theorem qB:FnScope ["self", "node"] ["self", "node"] (ah sW):=aR
theorem qC (T:Txt K mg c):fX P w K mg base CX0 2 c.U "mode" ["self", "node"] (qA K c):=by
 refine T.d_Bus_mode.ok qB (fun _ _ _ _ _ _ us hl=>match us,hl with | [_,_],_=>rfl) fj (fun f cdv A outer s H vs Q E hr h => ?_)
 obtain ⟨v0,v1,rfl,h⟩:=h
 refine ⟨_,(ad (aC (av (K:=K) (d7 T.k_Bus (b8 T) hr nE (pv 0) (aa (pv 1) ae))))),?_⟩
 try dsimp only [br,Cx.nox,Cx.wish]
 refine ak (s2:=[some v0,some v1]) rfl ?_
 obtain ⟨b,F,as,ds,t,k,d,rfl,rfl,h,h8,hk,q⟩:=h
 obtain ⟨dx,l,o,ns,e1,e2,e3,e4,e5,e6,e7⟩:=h.ex
 obtain ⟨n,A,ha,⟨⟨nx,sv,eo,es⟩,ro,⟨qs,eq,fq⟩,⟨ts,et,ft⟩,nd⟩,hF⟩:=h.nth hk
 have hkl:k < as.length:=(List.getElem?_eq_some_iff.mp ha).1
 wtm_at "wp"
 refine ⟨b,F,as,ds,t,_,rfl,rfl,h,h8,cj (by omega) (by omega),fun j a ej ea => ?_,fun z=>absurd (by omega) z⟩
 have:j=k:=by omega
 subst this
 rw [ha] at ea
 cases ea
 wtm_at "wp"
 exact q
def cq (ds:List Nd) (k:Nat) (name:Int):Bool:=(ds.take k++ds.drop (k+1)).any fun d=>decide (name∈d.qu.map (·.1))
def zE (ns:List NE) (name:Int) (v:V):V:=match v with
 | .ref a=>match ns.find? (fun x=>x.1 == a) with
  | some x => .bl (decide (name∈x.2.2.qu.map (·.1)))
  | none => .non
 | _ => .non
theorem Nodes.inj {c:Cs} {H:Hp} {ns:List NE} (h:Nodes c H ns) {x y:NE} (hx:x∈ns) (hy:y∈ns) (e:x.1=y.1):x=y:=by
 have hp:=h.sep
 induction ns with
 | nil=>cases hx
 | cons z zs ih=>
  rw [List.pairwise_cons] at hp
  rcases List.mem_cons.mp hx with rfl | hx'
  ·rcases List.mem_cons.mp hy with rfl | hy'
   ·rfl
   ·exact absurd (show x.1∈fpE y by rw [e];simp [fpE,fpN]) (hp.1 y hy' x.1 (by simp [fpE,fpN]))
  ·rcases List.mem_cons.mp hy with rfl | hy'
   ·exact absurd (show y.1∈fpE x by rw [← e];simp [fpE,fpN]) (hp.1 x hx' y.1 (by simp [fpE,fpN]))
   ·exact ih ⟨fun w hw=>h.at_ w (List.mem_cons_of_mem _ hw),hp.2⟩ hx' hy' hp.2
theorem rW {c:Cs} {H:Hp} {ns:List NE} (h:Nodes c H ns) {name:Int} {x:NE} (hx:x∈ns):zE ns name (.ref x.1) = .bl (decide (name∈x.2.2.qu.map (·.1))):=by
 cases e:ns.find? (fun y=>y.1 == x.1) with
 | none=>
  have:=List.find?_eq_none.mp e x hx
  simp at this
 | some y=>
  have h1:=List.mem_of_find?_eq_some e
  have h2:=List.find?_some e
  have:y=x:=h.inj h1 hx (by simpa using h2)
  rw [this] at e
  simp only [zE,e]
abbrev iP:Stmt:=(top 48)
abbrev hZ (K:PySem.W.Frag) (c:Cs):Sp:=sp3 fun u v w H Q _=>∃ (b:Addr) (F as:List Addr) (ds:List Nd) (t k:Nat) (name:Int),u = .ref b∧v = .int (k:Nat)∧w = .int name∧BusAt c H b F as ds t∧as.length≤8∧(∀ d∈ds,d.qu.length≤900)∧(∀ H',Same H H'→Q (.bl (cq ds k name)) H')
theorem sc_waits_elsewhere:FnScope ["bus", "node", "name", "others"] ["bus", "node", "name"] (ah iP):=aR
theorem ia (T:Txt K mg c):dm P w K mg base CX0 2 "waits_elsewhere" ["bus", "node", "name"] (hZ K c):=by
 refine T.d_waits_elsewhere.ok sc_waits_elsewhere (fun _ _ _ _ _ _ us hl=>match us,hl with | [_,_,_],_=>rfl) CG (fun f cdv A outer s H vs Q E hr h => ?_)
 obtain ⟨v0,v1,v2,rfl,h⟩:=h
 refine ⟨_,(ag (aD (i:=3) sc_waits_elsewhere.nd rfl (by first | exact Or.inl rfl | exact Or.inr rfl) (ap d9 (bt (bv (K:=K)) (av (K:=K) (pv 0)) cO (bo (pv 1))) (bt (bv (K:=K)) (av (K:=K) (pv 0)) (bo (ap aY (pv 1) af)) cO)))
   (ad (aC (aw (pp rfl) rfl T.any PyProof.Rows.boot_any (aa (cP ["name"] [2] (aV (K:=K) (pv 3)) (fun fp s H=>(d7 T.k_Node (gr T) hr ay (pv 1) (aa (pv 0) ae)))) ae))))),?_⟩
 try dsimp only [br,Cx.nox,Cx.wish]
 refine ak (s2:=[some v0,some v1,some v2,none]) rfl ?_
 obtain ⟨b,F,as,ds,t,k,name,rfl,rfl,rfl,h,h8,hfew,q⟩:=h
 obtain ⟨dx,l,o,ns,e1,e2,e3,e4,e5,e6,e7⟩:=h.ex
 have la:(as.map V.ref).length=as.length:=List.length_map _
 wtm_at "wp"
 refine cK (At.sqF e2) (rA (as.map V.ref) k) (fun p1 hp1 => ?_)
 wtm_at "wp"
 refine cK (show SqL K _ l (as.map V.ref) from At.sqF (aE hp1 e2)) (show jF (as.map V.ref) (some ((k:Int)+1)) none=(as.map V.ref).drop (k+1) by rw [show (k:Int)+1=((k+1:Nat):Int) by omega,fk]) (fun p2 hp2 => ?_)
 refine fW (by wtm_at "hg") ac ?_ (fun p3 hp3 => ?_)
 ·rw [List.length_take,List.length_drop,la]
  exact small (by omega)
 have s3:Same H (upd (upd (upd H p1 (.lst ((as.map V.ref).take k))) p2 (.lst ((as.map V.ref).drop (k+1)))) p3 (.lst ((as.map V.ref).take k++(as.map V.ref).drop (k+1)))):=by wtm_at "hs"
 have e33:At (upd (upd (upd H p1 (.lst ((as.map V.ref).take k))) p2 (.lst ((as.map V.ref).drop (k+1)))) p3 (.lst ((as.map V.ref).take k++(as.map V.ref).drop (k+1)))) p3 (.lst (((ns.take k++ns.drop (k+1)).map fun x=>V.ref x.1))):=by
  have:(as.map V.ref).take k++(as.map V.ref).drop (k+1)=(ns.take k++ns.drop (k+1)).map fun x=>V.ref x.1:=by
   rw [← e4,List.map_map,List.map_append,List.map_take,List.map_drop]
   rfl
  rw [this]
  exact ac
 generalize upd (upd (upd H p1 (.lst ((as.map V.ref).take k))) p2 (.lst ((as.map V.ref).drop (k+1)))) p3 (.lst ((as.map V.ref).take k++(as.map V.ref).drop (k+1)))=H3 at *
 have n3:Nodes c H3 ns:=e3.kp (S:=[]) (Same.kp s3) (fun _ _ _ _ z=>by cases z)
 have sub:∀ x∈ns.take k++ns.drop (k+1),x∈ns:=fun x hx=>by
  rcases List.mem_append.mp hx with z | z
  ·exact List.mem_of_mem_take z
  ·exact List.mem_of_mem_drop z
 wtm_at "wp"
 refine b9 ?_
 wtm_at "wp"
 refine db (zE ns name) (At.sqL e33) ?_ (fun i x H' R hx s4 hR => ?_) (fun D Hf s4 fD eD => ?_)
 ·rw [List.length_map,List.length_append,List.length_take,List.length_drop]
  have:=congrArg List.length e4
  rw [List.length_map] at this
  exact small (by omega)
 ·rw [List.getElem?_map] at hx
  cases hq:(ns.take k++ns.drop (k+1))[i]? with
  | none=>rw [hq] at hx;cases hx
  | some y=>
   rw [hq] at hx
   have hx':V.ref y.1=x:=Option.some.inj hx
   subst hx'
   have hy:=sub y (List.mem_of_getElem? hq)
   have hn:=(n3.at_ y hy).same s4
   show mT _ _ _ _ _ _ _ [some (.int name),some (.ref y.1)] _ _
   obtain ⟨⟨nx,sv,eo,es⟩,_⟩:=id hn
   wtm_at "wp"
   refine ⟨_,_,rfl,y.1,y.2.1,y.2.2,name,rfl,rfl,hn,hfew _ (by rw [← e5];exact List.mem_map.mpr ⟨y,hy,rfl⟩),fun H5 s5 => ?_⟩
   have:=hR H5 s5
   rw [rW n3 hy] at this
   exact this
 have eD':Hf D=some (.lst (((ns.take k++ns.drop (k+1)).map fun x=>decide (name∈x.2.2.qu.map (·.1))).map V.bl)):=by
  rw [eD,List.map_map,List.map_map]
  congr 2
  apply List.map_congr_left
  intro x hx
  exact rW n3 (sub x hx)
 wtm_at "wp"
 refine ⟨D,_,rfl,eD',?_⟩
 wtm_at "wp"
 have:=q Hf (s3.trans s4)
 unfold cq at this
 rw [← e5,← List.map_take,← List.map_drop,← List.map_append,List.any_map] at this
 rw [List.any_map]
 exact this
theorem BusAt.set {c:Cs} {H H':Hp} {b:Addr} {F as:List Addr} {ds:List Nd} {t:Nat} {k:Nat} {n:Addr} {A A':NA} {d d':Nd} {dx l:Addr} {o:Obj} {ns:List NE} (e1:At H b (.ins c.U dx (buF (.ref l) (.int (t:Nat))))) (e2:At H l (.frz o (.lst (as.map V.ref)))) (e3:Nodes c H ns) (e4:ns.map (·.1)=as) (e5:ns.map (·.2.2)=ds)
  (e6:F=fpB b ns) (e7:b∉ns.flatMap fpE) (en:ns[k]? = some (n,A,d)) (kk:Kp (fpN n A) H H') (h':NdAt c H' n A' d') (f:∀ x∈fpN n A',x∈fpN n A∨aS H x) :
  BusAt c H' b (fpB b (ns.set k (n,A',d'))) as (ds.set k d') t∧Kp F H H'∧(∀ x∈fpB b (ns.set k (n,A',d')),x∈F∨aS H x) ∧
   At H' b (.ins c.U dx (buF (.ref l) (.int (t:Nat))))∧At H' l (.frz o (.lst (as.map V.ref)))∧Nodes c H' (ns.set k (n,A',d'))∧b∉(ns.set k (n,A',d')).flatMap fpE:=by
 have sub:=xQ en
 have hb:b∉fpN n A:=fun z=>e7 (sub b z)
 have a1:=kk.get hb e1
 have a2:=kk.frz e2
 have a3:=e3.setAt en kk h' f
 have a4:(ns.set k (n,A',d')).map (·.1)=as:=by
  rw [← e4,List.map_set]
  apply List.ext_getElem?
  intro i
  rw [List.getElem?_set]
  split
  ·rename_i z
   subst z
   have:(ns.map (·.1))[k]? = some n:=by rw [List.getElem?_map,en];rfl
   have hlt:=(List.getElem?_eq_some_iff.mp this).1
   rw [if_pos hlt,this]
  ·rfl
 have a5:(ns.set k (n,A',d')).map (·.2.2)=ds.set k d':=by rw [← e5,List.map_set]
 have a7:b∉(ns.set k (n,A',d')).flatMap fpE:=fun z=>by
  rcases xP en f b z with y | y
  ·exact e7 y
  ·exact (aJ y e1) rfl
 refine ⟨⟨dx,l,o,_,a1,a2,a3,a4,a5,rfl,a7⟩,kk.mono (fun x hx=>by rw [e6];exact List.mem_cons_of_mem _ (sub x hx)),fun x hx => ?_,a1,a2,a3,a7⟩
 rcases List.mem_cons.mp hx with z | z
 ·exact .inl (by rw [e6,z];exact List.mem_cons_self)
 ·rcases xP en f x z with y | y
  ·exact .inl (by rw [e6];exact List.mem_cons_of_mem _ y)
  ·exact .inr y
theorem zF {ns:List NE} {ds:List Nd} {k:Nat} {d:Nd} (e5:ns.map (·.2.2)=ds) (hk:ds[k]? = some d):∃ n A,ns[k]? = some (n,A,d):=by
 rw [← e5,List.getElem?_map] at hk
 cases q:ns[k]? with
 | none=>rw [q] at hk;cases hk
 | some x=>
  obtain ⟨n,A,d'⟩:=x
  rw [q] at hk
  have e':d'=d:=Option.some.inj hk
  subst e'
  exact ⟨n,A,rfl⟩
def tu {α:Type} (f:α→α) (i:Nat) (ds:List α):List α:=(ds.take i).map f++ds.drop i
theorem ib {α:Type} (f:α→α) (ds:List α):tu f 0 ds=ds:=by simp [tu]
theorem jw {α:Type} (f:α→α) (ds:List α):tu f ds.length ds=ds.map f:=by simp [tu]
theorem mz {α:Type} (f:α→α) {ds:List α} {i:Nat} {d:α} (h:ds[i]? = some d):(tu f i ds)[i]? = some d∧(tu f i ds).set i (f d)=tu f (i+1) ds:=by
 obtain ⟨hi,e⟩:=List.getElem?_eq_some_iff.mp h
 have hl:((ds.take i).map f).length=i:=by rw [List.length_map,List.length_take];omega
 unfold tu
 constructor
 ·rw [List.getElem?_append_right (by omega),hl,Nat.sub_self,List.getElem?_drop]
  simpa using h
 ·rw [List.set_append_right _ _ (by omega),hl,Nat.sub_self,List.drop_eq_getElem_cons hi,e,List.set_cons_zero,List.take_succ_eq_append_getElem hi,List.map_append,e]
  simp
theorem vx {l:List Int} {m:Int} (hb:Bits l) (h1:m∈l) (h2:∀ x∈l,m≤x):m=if 0∈l then 0 else 1:=by
 split
 ·rename_i z
  have:=h2 0 z
  rcases hb m h1 with y | y <;> omega
 ·rename_i z
  rcases hb m h1 with y | y
  ·exact absurd (y ▸ h1) z
  ·exact y
def DU (ns:List NE) (v:V):V:=match v with
 | .ref a=>match ns.find? (fun x=>x.1 == a) with
  | some x => .int x.2.2.put
  | none => .non
 | _ => .non
theorem vy {c:Cs} {H:Hp} {ns:List NE} (h:Nodes c H ns) {x:NE} (hx:x∈ns):DU ns (.ref x.1) = .int x.2.2.put:=by
 cases e:ns.find? (fun y=>y.1 == x.1) with
 | none=>
  have:=List.find?_eq_none.mp e x hx
  simp at this
 | some y=>
  have h1:=List.mem_of_find?_eq_some e
  have h2:=List.find?_some e
  have:y=x:=h.inj h1 hx (by simpa using h2)
  rw [this] at e
  simp only [DU,e]
abbrev Cb:Stmt:=(top 49)
abbrev zG (K:PySem.W.Frag) (c:Cs):Sp:=sp4 fun u v w x H Q E=>∃ (b a:Addr) (F as:List Addr) (ds:List Nd) (t:Nat) (i name:Int) (row:List Int),u = .ref b∧v = .int i∧w = .int name∧x = .ref a∧BusAt c H b F as ds t∧as.length≤8∧(∀ d∈ds,d.qu.length≤900)∧SqL K H a (row.map V.int) ∧
 i.natAbs.log2 < 1920∧name.natAbs.log2 < 1920∧(∀ b∈row,b.natAbs.log2 < 1920) ∧
 (¬ (0≤i∧i < as.length)→E (.ref c.N) none H) ∧
 (∀ k d,i=(k:Nat)→ds[k]? = some d→(¬ iZ name row→E (.ref c.F) none H)∧(iZ name row→cq ds k name=true→∀ H',Same H H'→E (.ref c.F) none H') ∧
  (iZ name row→cq ds k name=false→zD c H b F as (ds.set k (d.letWait (name,row))) t .non Q))
theorem sc_send:FnScope ["bus", "node", "name", "row", "sender"] ["bus", "node", "name", "row"] (ah Cb):=aR
theorem zH (T:Txt K mg c):dm P w K mg base (CXe P w) 3 "send" ["bus", "node", "name", "row"] (zG K c):=by
 refine T.d_send.okE sc_send (fun _ _ _ _ _ _ us hl=>match us,hl with | [_,_,_,_],_=>rfl) Dz (fun f cdv A outer s H vs Q E hr h => ?_)
 obtain ⟨v0,v1,v2,v3,rfl,h⟩:=h
 refine ⟨_,(ag (aD (i:=4) sc_send.nd rfl (.inl rfl) (d7 T.k_Bus (b8 T) hr (pw (E:=E) (fun _ _ _ z=>z)) (pv 0) (aa (pv 1) ae)))
   (ag (aH (bV (dj T) hr (pw (E:=E) (fun _ _ _ z=>z)) (aa (pv 2) (aa (pv 3) ae))))
   (ag (aQ (cC (bV (ia T) hr ay (aa (pv 0) (aa (pv 1) (aa (pv 2) ae)))))
    (ad (gJ (E:=E) (fun pins σ H s h' e vs I hx hE=>gI I hx hE) PySem.F.excBase_ValueError T.x_BadFrame rfl rfl T.m_BadFrame (aa (jK (xF (AU (pv 2) (xF nw)))) ae)))
    az)
   (ad (aH (d7 T.k_Node (ji T) hr ay (pv 4) (aa (pv 2) (aa (pv 3) ae)))))))),?_⟩
 try dsimp only [br,Cx.nox,Cx.wish]
 refine ak (s2:=[some v0,some v1,some v2,some v3,none]) rfl ?_
 obtain ⟨b,a,F,as,ds,t,i,name,row,rfl,rfl,rfl,rfl,h,h8,hfew,hS,hli,hln,hlr,qn,qg⟩:=h
 obtain ⟨dx,l,o,ns,e1,e2,e3,e4,e5,e6,e7⟩:=h.ex
 have hlen:=h.len
 wtm_at "wp"
 refine ⟨b,F,as,ds,t,i,rfl,rfl,h,h8,hli,fun k n ek ea => ?_,qn⟩
 have hk:k < ds.length:=by
  have:=(List.getElem?_eq_some_iff.mp ea).1
  omega
 obtain ⟨g1,g2,g3⟩:=qg k ds[k] ek (List.getElem?_eq_getElem hk)
 subst ek
 wtm_at "wp"
 refine ⟨a,name,row,rfl,rfl,hS,hln,hlr,fun g => ?_,fun g=>g1 g⟩
 wtm_at "wp"
 refine ⟨b,F,as,ds,t,k,name,rfl,rfl,rfl,h,h8,hfew,fun H1 s1 => ?_⟩
 wtm_at "wp"
 cases hel:cq ds k name with
 | true=>
  wtm_at "wp"
  exact ⟨_,rfl,_,rfl,hln,fun y=>⟨(show 1≤100 by decide),g2 g hel H1 s1⟩⟩
 | false=>
  wtm_at "wp"
  have h1:=h.same s1
  obtain ⟨dx1,l1,o1,ns1,a1,a2,a3,a4,a5,a6,a7⟩:=h1.ex
  obtain ⟨n1,A1,en⟩:=zF a5 (List.getElem?_eq_getElem hk)
  have hn:=a3.nth en
  have:n1=n:=by
   have:(ns1.map (·.1))[k]? = some n1:=by rw [List.getElem?_map,en];rfl
   rw [a4,ea] at this
   exact (Option.some.inj this).symm
  subst this
  obtain ⟨⟨nx,sv,eo,es⟩,_⟩:=id hn
  wtm_at "wp"
  refine ⟨n1,a,A1,ds[k],name,row,rfl,rfl,rfl,hn,s1.seq hS,hfew _ (List.getElem_mem _),fun H2 A2 k2 h2 f2 => ?_⟩
  obtain ⟨b1,b2,b3,_⟩:=BusAt.set a1 a2 a3 a4 a5 a6 a7 en k2 h2 f2
  refine g3 g hel H2 _ ((Same.kp s1).trans b2) b1 (fun x hx => ?_)
  rcases b3 x hx with z | z
  ·exact .inl z
  ·exact .inr (s1.fr z)
abbrev Cc:Stmt:=(top 50)
abbrev zI (K:PySem.W.Frag) (c:Cs):Sp:=sp2 fun u v H Q _=>∃ (b:Addr) (F as:List Addr) (ds:List Nd) (t:Nat) (flip:Int),u = .ref b∧v = .int flip∧BusAt c H b F as ds t∧as≠[]∧as.length≤8∧AllOk ds∧Few 900 4999 ds∧zD c H b F as (bn ds flip) (t+1) (.int (bq ds flip)) Q
theorem sc_step:FnScope ["bus", "flip", "node", "bit"] ["bus", "flip"] (ah Cc):=aR
theorem vz (T:Txt K mg c):dm P w K mg base CX0 10 "step" ["bus", "flip"] (zI K c):=by
 refine T.d_step.ok sc_step (fun _ _ _ _ _ _ us hl=>match us,hl with | [_,_],_=>rfl) fj (fun f cdv A outer s H vs Q E hr h => ?_)
 obtain ⟨v0,v1,rfl,h⟩:=h
 refine ⟨_,(aZ (bL PassesOwn.never rfl (aV (K:=K) (av (K:=K) (pv 0))) (bc (i:=2) sc_step.nd rfl (.inl rfl))
    (ad (aH (ku T.k_Node (eT T) hr ay (pv 2)))))
   (ag (aD (i:=3) sc_step.nd rfl (.inl rfl) (aw (gM rfl) rfl T.min PyProof.Rows.boot_min (aa (cP [] [] (aV (K:=K) (av (K:=K) (pv 0))) (fun fp s H=>(ku T.k_Node (qp T) hr ay (pv 0)))) ae)))
   (aZ (aQ (ai bg (pv 1) af (ao _))
    (ad (aD (i:=3) sc_step.nd rfl (.inl rfl) (ap dn af (pv 3))))
    az)
   (aZ (bL PassesOwn.never rfl (aV (K:=K) (av (K:=K) (pv 0))) (bc (i:=2) sc_step.nd rfl (.inl rfl))
    (ad (aH (d7 T.k_Node (oa T) hr ay (pv 2) (aa (pv 3) ae)))))
   (ag (fm (K:=K) (pv 0) af q9)
   (ad (aC (pv 3)))))))),?_⟩
 try dsimp only [br,Cx.nox,Cx.wish]
 refine ak (s2:=[some v0,some v1,none,none]) rfl ?_
 obtain ⟨b,F,as,ds,t,flip,rfl,rfl,h,hne,h8,ok,few,q⟩:=h
 have hlen:=h.len
 have la:(as.map V.ref).length=as.length:=List.length_map _
 refine bz (fun σ H1=>∃ (v w:Option V) (F1:List Addr),σ=[some (.ref b),some (.int flip),v,w]∧Kp F H H1∧BusAt c H1 b F1 as (ds.map Nd.begin) t∧(∀ x∈F1,x∈F∨aS H x)) ?_ ?_
 ·refine cw ?_
  obtain ⟨dx,l,o,ns,e1,e2,e3,e4,e5,e6,e7⟩:=h.ex
  wtm_at "wp"
  refine bW (xs:=as.map V.ref) (fun i σ H1=>∃ (v w:Option V) (F1:List Addr),σ=[some (.ref b),some (.int flip),v,w]∧Kp F H H1∧BusAt c H1 b F1 as (tu Nd.begin i ds) t∧(∀ x∈F1,x∈F∨aS H x)) (At.sqF e2)
   ⟨none,none,F,rfl,Kp.refl _ _,by rw [ib];exact h,fun x hx => .inl hx⟩ (fun i σ H1 _ ⟨_,_,_,_,k1,_⟩=>At.sqF (k1.frz e2)) ?_ ?_
  ·rintro i y σ H1 hi ⟨v,w,F1,rfl,k1,h1,f1⟩
   rw [List.getElem?_map] at hi
   cases ha:as[i]? with
   | none=>rw [ha] at hi;cases hi
   | some n=>
    rw [ha] at hi
    cases hi
    have hid:i < ds.length:=by
     have:=(List.getElem?_eq_some_iff.mp ha).1
     omega
    obtain ⟨u1,u2⟩:=mz Nd.begin (List.getElem?_eq_getElem hid)
    obtain ⟨dx1,l1,o1,ns1,a1,a2,a3,a4,a5,a6,a7⟩:=h1.ex
    obtain ⟨n1,A1,en⟩:=zF a5 u1
    have:n1=n:=by
     have:(ns1.map (·.1))[i]? = some n1:=by rw [List.getElem?_map,en];rfl
     rw [a4,ha] at this
     exact (Option.some.inj this).symm
    subst this
    have hn:=a3.nth en
    obtain ⟨⟨nx,sv,eo,es⟩,_⟩:=id hn
    wtm_at "wp"
    refine ⟨n1,A1,ds[i],rfl,hn,ok _ (List.getElem_mem _),fun H2 A2 k2 h2 f2 => ?_⟩
    obtain ⟨b1,b2,b3,_⟩:=BusAt.set a1 a2 a3 a4 a5 a6 a7 en k2 h2 f2
    rw [u2] at b1
    wtm_at "wp"
    refine ⟨_,_,_,rfl,⟨fun x o hx e => ?_,fun x o im e=>b2.im x o im (k1.im x o im e)⟩,b1,fun x hx => ?_⟩
    ·refine b2.ot x o (fun z => ?_) (k1.ot x o hx e)
     rcases f1 x z with y | y
     ·exact hx y
     ·exact (aJ y e) rfl
    ·rcases b3 x hx with z | z
     ·exact f1 x z
     ·by_cases y:x∈F
      ·exact .inl y
      ·exact .inr (k1.fr y z)
  ·rintro σ H1 ⟨v,w,F1,rfl,k1,h1,f1⟩
   rw [la,hlen,jw] at h1
   exact ⟨_,_,F1,rfl,k1,h1,f1⟩
 rintro σ H1 ⟨v1,w1,F1,rfl,k1,h1,f1⟩
 have ok1:AllOk (ds.map Nd.begin):=fun d hd=>by
  obtain ⟨e,he,rfl⟩:=List.mem_map.mp hd
  exact (ok e he).begin
 have few1:∀ d∈ds.map Nd.begin,d.tk.length≤5000∧d.qu.length≤900:=fun d hd=>by
  obtain ⟨e,he,rfl⟩:=List.mem_map.mp hd
  obtain ⟨b1,b2⟩:=cZ e
  rw [b1,b2]
  have:=few e he
  exact ⟨by omega,this.1⟩
 have hl1:(ds.map Nd.begin).length=as.length:=by rw [List.length_map];omega
 obtain ⟨dx,l,o,ns,e1,e2,e3,e4,e5,e6,e7⟩:=h1.ex
 wtm_at "wp"
 refine b9 ?_
 wtm_at "wp"
 refine db (DU ns) (At.sqF e2) (by rw [la];exact small (by omega)) (fun i x H' R hx s2 hR => ?_) (fun D H2 s2 fD eD => ?_)
 ·rw [← e4,List.map_map,List.getElem?_map] at hx
  cases hq:ns[i]? with
  | none=>rw [hq] at hx;cases hx
  | some y=>
   rw [hq] at hx
   have hx':V.ref y.1=x:=Option.some.inj hx
   subst hx'
   have hy:=List.mem_of_getElem? hq
   have hn:=(e3.at_ y hy).same s2
   show mT _ _ _ _ _ _ _ [some (.ref y.1)] _ _
   obtain ⟨⟨nx,sv,eo,es⟩,_⟩:=id hn
   wtm_at "wp"
   refine ⟨_,rfl,y.1,y.2.1,y.2.2,rfl,hn,ok1 _ (by rw [← e5];exact List.mem_map.mpr ⟨y,hy,rfl⟩),fun H5 s5 => ?_⟩
   have:=hR H5 s5
   rw [vy e3 hy] at this
   exact this
 have eD':H2 D=some (.lst (((ds.map Nd.begin).map Nd.put).map V.int)):=by
  rw [eD,← e4,← e5,List.map_map,List.map_map,List.map_map,List.map_map]
  congr 2
  apply List.map_congr_left
  intro x hx
  exact vy e3 hx
 have bp:Bits ((ds.map Nd.begin).map Nd.put):=fun x hx=>by
  obtain ⟨e,he,rfl⟩:=List.mem_map.mp hx
  exact (ok1 e he).put_bit
 wtm_at "wp"
 refine ⟨D,_,rfl,eD',?_,fun m m1 m2 => ?_⟩
 ·intro z
  have:=congrArg List.length z
  rw [List.length_map,hl1] at this
  exact hne (List.length_eq_zero_iff.mp this)
 have em:m=iD (ds.map Nd.begin):=vx bp m1 m2
 have h2:=h1.same s2
 have k2:Kp F H H2:=k1.trans (Same.kp s2)
 have f2:∀ x∈F1,x∈F∨aS H x:=f1
 wtm_at "wp"
 refine bz (fun σ H3=>∃ v:Option V,σ=[some (.ref b),some (.int flip),v,some (.int (bq ds flip))]∧H3=H2) ?_ ?_
 ·wtm_at "wp"
  refine ax (fun c1 => ?_) (fun c1 => ?_)
  ·wtm_at "wp"
   refine ⟨v1,?_,rfl⟩
   unfold bq
   rw [if_pos c1,em]
  ·wtm_at "wp"
   refine ⟨v1,?_,rfl⟩
   unfold bq
   rw [if_neg c1,em]
 rintro σ H3 ⟨v3,rfl,rfl⟩
 have hbit:=dP ds flip
 clear m1 m2 em eD eD'
 have e2':=s2.get e2
 refine bz (fun σ H4=>∃ (v:Option V) (F4:List Addr),σ=[some (.ref b),some (.int flip),v,some (.int (bq ds flip))]∧Kp F H H4∧BusAt c H4 b F4 as (bn ds flip) t∧(∀ x∈F4,x∈F∨aS H x)) ?_ ?_
 ·refine cw ?_
  obtain ⟨dx2,l2,o2,ns2,q1,q2,q3,q4,q5,q6,q7⟩:=h2.ex
  wtm_at "wp"
  refine bW (xs:=as.map V.ref) (fun i σ H4=>∃ (v:Option V) (F4:List Addr),σ=[some (.ref b),some (.int flip),v,some (.int (bq ds flip))]∧Kp F H H4∧At H4 l2 (.frz o2 (.lst (as.map V.ref)))∧BusAt c H4 b F4 as (tu (fun d=>d.hear (bq ds flip)) i (ds.map Nd.begin)) t∧(∀ x∈F4,x∈F∨aS H x)) (At.sqF q2)
   ⟨_,F1,rfl,k2,q2,by rw [ib];exact h2,f2⟩ (fun i σ H4 _ ⟨_,_,_,_,z,_⟩=>At.sqF z) ?_ ?_
  ·rintro i y σ H4 hi ⟨v,F4,rfl,k4,z4,h4,f4⟩
   rw [List.getElem?_map] at hi
   cases ha:as[i]? with
   | none=>rw [ha] at hi;cases hi
   | some n=>
    rw [ha] at hi
    cases hi
    have hid:i < (ds.map Nd.begin).length:=by
     have:=(List.getElem?_eq_some_iff.mp ha).1
     omega
    obtain ⟨u1,u2⟩:=mz (fun d=>d.hear (bq ds flip)) (List.getElem?_eq_getElem hid)
    obtain ⟨dx4,l4,o4,ns4,a1,a2,a3,a4,a5,a6,a7⟩:=h4.ex
    obtain ⟨n1,A1,en⟩:=zF a5 u1
    have:n1=n:=by
     have:(ns4.map (·.1))[i]? = some n1:=by rw [List.getElem?_map,en];rfl
     rw [a4,ha] at this
     exact (Option.some.inj this).symm
    subst this
    have hn:=a3.nth en
    obtain ⟨⟨nx,sv,eo,es⟩,_⟩:=id hn
    have hd:=List.getElem_mem hid
    wtm_at "wp"
    refine ⟨n1,A1,_,_,rfl,rfl,hn,ok1 _ hd,hbit,(few1 _ hd).1,(few1 _ hd).2,fun H5 A5 k5 h5 f5 => ?_⟩
    obtain ⟨b1,b2,b3,_⟩:=BusAt.set a1 a2 a3 a4 a5 a6 a7 en k5 h5 f5
    rw [u2] at b1
    wtm_at "wp"
    refine ⟨_,_,rfl,⟨fun x o hx e => ?_,fun x o im e=>b2.im x o im (k4.im x o im e)⟩,b2.frz z4,b1,fun x hx => ?_⟩
    ·refine b2.ot x o (fun z => ?_) (k4.ot x o hx e)
     rcases f4 x z with y | y
     ·exact hx y
     ·exact (aJ y e) rfl
    ·rcases b3 x hx with z | z
     ·exact f4 x z
     ·by_cases y:x∈F
      ·exact .inl y
      ·exact .inr (k4.fr y z)
  ·rintro σ H4 ⟨v,F4,rfl,k4,z4,h4,f4⟩
   rw [la,← hl1,jw] at h4
   exact ⟨_,F4,rfl,k4,h4,f4⟩
 rintro σ H4 ⟨v4,F4,rfl,k4,h4,f4⟩
 obtain ⟨dx4,l4,o4,ns4,a1,a2,a3,a4,a5,a6,a7⟩:=h4.ex
 wtm_at "wp"
 have kb:Kp [b] H4 (upd H4 b (.ins c.U dx4 (buF (.ref l4) (.int ((t:Int)+1))))):=(Kp.refl _ _).upd (by simp) a1 (fun z=>z)
 refine q _ F4 ⟨fun x o hx e => ?_,fun x o im e=>kb.im x o im (k4.im x o im e)⟩ ⟨dx4,l4,o4,ns4,?_,kb.frz a2,a3.kp kb (fun z hz a ha=>aM (fun y=>a7 (by rw [← y];exact List.mem_flatMap.mpr ⟨z,hz,ha⟩))),a4,a5,a6,a7⟩ f4
 ·refine kb.ot x o (aM (fun z => ?_)) (k4.ot x o hx e)
  subst z
  have hF:x∈F:=by
   obtain ⟨_,_,_,_,_,_,_,_,_,e6,_⟩:=h.ex
   rw [e6]
   exact List.mem_cons_self
  exact hx hF
 ·rw [show ((t+1:Nat):Int)=(t:Int)+1 by omega]
  exact ac
abbrev DV:Stmt:=(top 51)
abbrev Cd (K:PySem.W.Frag) (c:Cs):Sp:=sp2 fun u v H Q _=>∃ (b a:Addr) (F as:List Addr) (ds:List Nd) (t:Nat) (fl:List Int),u = .ref b∧v = .ref a∧BusAt c H b F as ds t∧as≠[]∧as.length≤8∧AllOk ds∧(∃ n,Few 900 n ds∧n+fl.length≤4999)∧SqL K H a (fl.map V.int)∧(∀ xs,At H a (.lst xs)→a∉F) ∧
 (∀ D H' F',Kp F H H'→aS H D→At H' D (.lst ((ci ds fl).map V.int))→D∉F'→BusAt c H' b F' as (dh ds fl) (t+fl.length)→(∀ x∈F',x∈F∨aS H x)→Q (.ref D) H')
theorem Ce:FnScope ["bus", "flips"] ["bus", "flips"] (ah DV):=aR
theorem xR (T:Txt K mg c):dm P w K mg base CX0 11 "run" ["bus", "flips"] (Cd K c):=by
 refine T.d_run.ok Ce (fun _ _ _ _ _ _ us hl=>match us,hl with | [_,_],_=>rfl) fj (fun f cdv A outer s H vs Q E hr h => ?_)
 obtain ⟨v0,v1,rfl,h⟩:=h
 refine ⟨_,(ad (aC (cP ["bus"] [0] (aV (K:=K) (pv 1)) (fun fp s H=>(bV (vz T) hr ay (aa (pv 0) (aa (pv 1) ae))))))),?_⟩
 try dsimp only [br,Cx.nox,Cx.wish]
 refine ak (s2:=[some v0,some v1]) rfl ?_
 obtain ⟨b,a,F,as,ds,t,fl,rfl,rfl,h,hne,h8,ok,⟨n0,few,hn0⟩,hS,hF,q⟩:=h
 have lf:(fl.map V.int).length=fl.length:=List.length_map _
 wtm_at "wp"
 refine b9 ?_
 wtm_at "wp"
 have hS':∀ H2,Kp F H H2→SqL K H2 a (fl.map V.int):=fun H2 k=>by
  rcases hS with (z | ⟨ob,z⟩) | z
  ·exact .inl (.inl (k.ot _ _ (hF _ z) z))
  ·exact .inl (.inr ⟨ob,k.im _ _ trivial z⟩)
  ·exact .inr z
 refine gN (xs:=fl.map V.int) (fun D i ys H2=>∃ F2,Kp F H H2∧aS H D∧At H2 D (.lst ys)∧ys=(ci ds (fl.take i)).map V.int∧ys.length≤i∧D∉F2∧BusAt c H2 b F2 as (dh ds (fl.take i)) (t+i)∧(∀ x∈F2,x∈F∨aS H x)) hS (by rw [lf];exact Nat.le_of_lt (iK (by omega))) (fun D hD => ?_) (fun D i ys H2 hi ⟨F2,k2,fD,eD,ey,hl,nD,h2,f2⟩=>⟨eD,hS' H2 k2,hl⟩) (fun D i x ys H2 hx ⟨F2,k2,fD,eD,ey,hl,nD,h2,f2⟩ => ?_) (fun D ys H2 ⟨F2,k2,fD,eD,ey,hl,nD,h2,f2⟩ => ?_)
 ·refine ⟨F,Same.kp (au hD _),hD,ac,rfl,Nat.le_refl _,fun z => ?_,h.same (au hD _),fun x hx => .inl hx⟩
  obtain ⟨o,e,_⟩:=h.live D z
  exact (aJ hD e) rfl
 ·obtain ⟨f,hf,rfl⟩:=ce hx
  have hi:i < fl.length:=(List.getElem?_eq_some_iff.mp hf).1
  show iq _ _ _ _ [some (.ref b),some (.int f)] _ _
  wtm_at "wp"
  have few2:Few 900 4999 (dh ds (fl.take i)):=(few.run (fl.take i)).mono (Nat.le_refl _) (by rw [List.length_take];omega)
  refine ⟨_,_,rfl,b,F2,as,_,_,f,rfl,rfl,h2,hne,h8,ok.run _,few2,fun H3 F3 k3 h3 f3 => ?_⟩
  have eD3:At H3 D (.lst ys):=k3.get nD eD
  have nD3:D∉F3:=fun z=>by
   rcases f3 D z with y | y
   ·exact nD y
   ·exact (aJ y eD) rfl
  have kD:Kp [D] H3 (upd H3 D (.lst (ys++[.int (bq (dh ds (fl.take i)) f)]))):=(Kp.refl _ _).upd (by simp) eD3 (fun z=>z)
  have ff:∀ x∈F3,x∈F∨aS H x:=fun x hx=>by
   rcases f3 x hx with z | z
   ·exact f2 x z
   ·by_cases y:x∈F
    ·exact .inl y
    ·exact .inr (k2.fr y z)
  refine pK (by rw [lf];exact hi) eD3 ⟨F3,⟨fun x o hx e => ?_,fun x o im e=>kD.im x o im (k3.im x o im (k2.im x o im e))⟩,fD,ac,?_,by rw [List.length_append,List.length_singleton];omega,nD3,?_,ff⟩
  ·refine kD.ot x o (aM (fun z => ?_)) (k3.ot x o (fun z => ?_) (k2.ot x o hx e))
   ·subst z
    exact (aJ fD e) rfl
   ·rcases f2 x z with y | y
    ·exact hx y
    ·exact (aJ y e) rfl
  ·rw [cy hf,nU,List.map_append,← ey]
   rfl
  ·rw [cy hf,pT,show t+(i+1)=t+i+1 by omega]
   exact h3.kp kD (fun x hx=>aM (fun z=>nD3 (z ▸ hx)))
 ·rw [lf,List.take_of_length_le (Nat.le_refl _)] at h2 ey
  rw [ey] at eD
  exact q D H2 F2 k2 fD eD nD h2 f2
theorem xf (K:PySem.W.Frag) (n:String):PySem.W.kitOne K (.type n) (.type n)=some true:=by
 unfold PySem.W.kitOne
 rw [if_pos (by simp)]
theorem Cf:(List.replicate (15:Int).toNat [V.int 0]).flatten=zeros15.map V.int:=by rfl
theorem xg (p:List Int) (a:Nat):jF (p.map V.int) (some (a:Int)) none=(p.drop a).map V.int:=by rw [fk,List.map_drop]
abbrev qD:Stmt:=(top 53)
abbrev oz (K:PySem.W.Frag) (c:Cs):Sp:=sp2 fun u v H Q _=>∃ (a:Addr) (ns:List Int) (k:Int),u = .ref a∧v = .int k∧SqL K H a (ns.map V.int)∧∀ v:Int,Q (.int v) H
theorem oA:FnScope ["_law_script", "_law_k"] ["_law_script", "_law_k"] (ah qD):=aR
theorem oB (T:Txt K mg c):dm P w K mg base CX0 1 "_law_cell" ["_law_script", "_law_k"] (oz K c):=by
 refine T.d__law_cell.ok oA (fun _ _ _ _ _ _ us hl=>match us,hl with | [_,_],_=>rfl) fj (fun f cdv A outer s H vs Q E hr h => ?_)
 obtain ⟨v0,v1,rfl,h⟩:=h
 refine ⟨_,(ag (aQ (lV (K:=K) (pv 0) (fun _=>rfl))
    (ad (aC (bh (aK (K:=K)) (pv 0) (ap bC (pv 1) (aw (aq (K:=K)) rfl T.len PySem.boot_len (aa (pv 0) ae))) (fun _ _=>rfl))))
    az)
   (ad (aC af))),?_⟩
 try dsimp only [br,Cx.nox,Cx.wish]
 refine ak (s2:=[some v0,some v1]) rfl ?_
 obtain ⟨a,ns,k,rfl,rfl,hS,q⟩:=h
 wtm_at "wp"
 cases ns with
 | nil=>exact xA (q 0)
 | cons n ns=>
  refine tq ?_
  wtm_at "wp"
  have hl:0 < ((((n :: ns).map V.int).length:Nat):Int):=by rw [List.length_map,List.length_cons];omega
  have hm:=Int.emod_nonneg k (show ((((n :: ns).map V.int).length:Nat):Int)≠0 by omega)
  have hm2:=Int.emod_lt_of_pos k hl
  have hi:(k % ((((n :: ns).map V.int).length:Nat):Int)).toNat < (n :: ns).length:=by
   rw [List.length_map] at *
   omega
  have he:atI ((n :: ns).map V.int) (k % ((((n :: ns).map V.int).length:Nat):Int))=some (.int ((n :: ns).getD (k % ((((n :: ns).map V.int).length:Nat):Int)).toNat 0)):=by
   have e:k % ((((n :: ns).map V.int).length:Nat):Int)=(((k % ((((n :: ns).map V.int).length:Nat):Int)).toNat:Nat):Int):=by omega
   have h:=cx hi
   rw [← e] at h
   exact h
  refine C5 hl ?_
  exact bf hS he (q _)
abbrev sX:Stmt:=(top 54)
abbrev qE (K:PySem.W.Frag) (c:Cs):Sp:=sp2 fun u v H Q _=>∃ (a:Addr) (ns:List Int) (k:Int),u = .ref a∧v = .int k∧SqL K H a (ns.map V.int)∧∀ v:Int,0≤v→v < 4294967231→Q (.int v) H
theorem sc__law_mix:FnScope ["_law_script", "_law_k", "_law_number"] ["_law_script", "_law_k"] (ah sX):=aR
theorem bU (T:Txt K mg c):dm P w K mg base CX0 2 "_law_mix" ["_law_script", "_law_k"] (qE K c):=by
 refine T.d__law_mix.ok sc__law_mix (fun _ _ _ _ _ _ us hl=>match us,hl with | [_,_],_=>rfl) fj (fun f cdv A outer s H vs Q E hr h => ?_)
 obtain ⟨v0,v1,rfl,h⟩:=h
 refine ⟨_,(ag (aD (i:=2) sc__law_mix.nd rfl (.inl rfl) (ap bC (ap aY (bV (oB T) hr ay (aa (pv 0) (aa (pv 1) ae))) (ap cG af (ap aY (pv 1) af))) af))
   (ag (aD (i:=2) sc__law_mix.nd rfl (.inl rfl) (ap bC (ap cG (pv 2) af) af))
   (ad (aC (ap bC (ap aY (ap cG (ap cu (pv 2) af) af) (pv 2)) af))))),?_⟩
 try dsimp only [br,Cx.nox,Cx.wish]
 refine ak (s2:=[some v0,some v1,none]) rfl ?_
 obtain ⟨a,ns,k,rfl,rfl,hS,q⟩:=h
 wtm_at "wp"
 refine ⟨a,ns,k,rfl,rfl,hS,fun v => ?_⟩
 wtm_at "wp"
 exact q _ (Int.emod_nonneg _ (by decide)) (Int.emod_lt_of_pos _ (by decide))
abbrev oC:Stmt:=(top 55)
abbrev mB (K:PySem.W.Frag) (c:Cs):Sp:=sp1 fun v H Q _=>∃ i:Int,v = .int i∧Q (.bl true) H
theorem mC:FnScope ["_law_found"] ["_law_found"] (ah oC):=aR
theorem mD (T:Txt K mg c):dm P w K mg base CX0 1 "_law_whole" ["_law_found"] (mB K c):=by
 refine T.d__law_whole.ok mC (fun _ _ _ _ _ _ us hl=>match us,hl with | [_],_=>rfl) gB (fun f cdv A outer s H vs Q E hr h => ?_)
 obtain ⟨v0,rfl,h⟩:=h
 refine ⟨_,(ad (aC (jA (aw (nH (K:=K)) rfl T.isI PyProof.Rows.boot_isinstance (aa (pv 0) (aa (pty T.int PyProof.Rows.boot_int) ae))) (jz (Am (aw (nH (K:=K)) rfl T.isI PyProof.Rows.boot_isinstance (aa (pv 0) (aa (pty T.bool PyProof.Rows.boot_bool) ae)))))))),?_⟩
 try dsimp only [br,Cx.nox,Cx.wish]
 refine ak (s2:=[some v0]) rfl ?_
 obtain ⟨i,rfl,q⟩:=h
 wtm_at "wp"
 refine ⟨_,_,_,_,_,rfl,.int i,rfl,xf _ _,?_⟩
 wtm_at "wp"
 refine ⟨_,_,_,_,_,rfl,.int i,rfl,T.kib,?_⟩
 wtm_at "wp"
 exact q
abbrev mE:Stmt:=(top 56)
abbrev kN (K:PySem.W.Frag) (c:Cs):Sp:=sp2 fun u v H Q _=>∃ (n:Int) (k:Nat),u = .int n∧v = .int k∧k≤100∧MkL H Q (ar n k)
theorem sc__law_digits:FnScope ["_law_number", "_law_many", "_law_found", "_law_k"] ["_law_number", "_law_many"] (ah mE):=aR
theorem cA (T:Txt K mg c):dm P w K mg base CX0 1 "_law_digits" ["_law_number", "_law_many"] (kN K c):=by
 refine T.d__law_digits.ok sc__law_digits (fun _ _ _ _ _ _ us hl=>match us,hl with | [_,_],_=>rfl) fj (fun f cdv A outer s H vs Q E hr h => ?_)
 obtain ⟨v0,v1,rfl,h⟩:=h
 refine ⟨_,(ag (aD (i:=2) sc__law_digits.nd rfl (.inl rfl) (bj ae))
   (ag (bL PassesOwn.never rfl (bH rfl T.range (aa (pv 1) ae)) (bc (i:=3) sc__law_digits.nd rfl (.inl rfl))
    (ag (aD (i:=2) sc__law_digits.nd rfl (.inl rfl) (ap d9 (bj (aa (ap bC (pv 0) af) ae)) (pv 2)))
    (ad (aD (i:=0) sc__law_digits.nd rfl (.inl rfl) (ap cu (pv 0) af)))))
   (ad (aC (pv 2))))),?_⟩
 try dsimp only [br,Cx.nox,Cx.wish]
 refine ak (s2:=[some v0,some v1,none,none]) rfl ?_
 obtain ⟨n,k,rfl,rfl,hk,q⟩:=h
 wtm_at "wp"
 refine ⟨small (show 0≤1000 by decide),fun r0 hr0 => ?_⟩
 wtm_at "wp"
 refine dF ?_
 wtm_at "wp"
 refine cW k (fun i σ H2=>∃ (r:Addr) (v:Option V),σ=[some (.int (n / 2 ^ i)),some (.int (k:Int)),some (.ref r),v]∧Same H H2∧aS H r∧At H2 r (.lst ((ar n i).map V.int))) (by omega) (by omega)
  ⟨r0,none,?_,au hr0 _,hr0,ac⟩ ?_ ?_
 ·rw [Int.pow_zero,Int.ediv_one]
 ·rintro i σ H2 hi ⟨r,v,rfl,s2,hr,e2⟩
  wtm_at "wp"
  refine ⟨small (show 1≤1000 by decide),fun p hp => ?_⟩
  wtm_at "wp"
  refine fW (by wtm_at "hg") (by wtm_at "hg") ?_ (fun t ht => ?_)
  ·rw [List.length_map,aO]
   exact small (by show 1+i≤1000;omega)
  have s3:Same H (upd H2 p (.lst [.int (n / 2 ^ i % 2)])):=s2.new hp
  wtm_at "wp"
  refine ⟨t,some (.int (i:Int)),?_,s3.new ht,s3.fr ht,ac⟩
  rw [Int.ediv_ediv_of_nonneg (Int.le_of_lt (Int.pow_pos (by decide))),Int.pow_succ]
 ·rintro σ H2 ⟨r,v,rfl,s2,hr,e2⟩
  wtm_at "wp"
  exact q r H2 s2 hr e2
abbrev oE:Stmt:=(top 57)
abbrev mF (K:PySem.W.Frag) (c:Cs):Sp:=sp1 fun v H Q _=>∃ (a:Addr) (bs:List Int),v = .ref a∧SqL K H a (bs.map V.int)∧Bits bs∧bs.length≤500∧MkL H Q (chk bs)
theorem sc__law_check:FnScope ["_law_bits_here", "_law_rest", "_law_wheel", "_law_k", "_law_j"] ["_law_bits_here"] (ah oE):=aR
theorem ic (T:Txt K mg c):dm P w K mg base CX0 2 "_law_check" ["_law_bits_here"] (mF K c):=by
 refine T.d__law_check.ok sc__law_check (fun _ _ _ _ _ _ us hl=>match us,hl with | [_],_=>rfl) gB (fun f cdv A outer s H vs Q E hr h => ?_)
 obtain ⟨v0,rfl,h⟩:=h
 refine ⟨_,(ag (aD (i:=1) sc__law_check.nd rfl (.inl rfl) (ap d9 (cJ (de (K:=K)) rfl T.list PyProof.Rows.boot_list (aa (pv 0) ae)) (ap nh (bj (aa af ae)) af)))
   (ag (aD (i:=2) sc__law_check.nd rfl (.inl rfl) (ap d9 (bj (aa af ae)) (bV (cA T) hr ay (aa af (aa af ae)))))
   (ag (bL PassesOwn.never rfl (bH rfl T.range (aa (aw (aq (K:=K)) rfl T.len PySem.boot_len (aa (pv 0) ae)) ae)) (bc (i:=3) sc__law_check.nd rfl (.inl rfl))
    (ad (aQ (ai bg (bh (aK (K:=K)) (pv 1) (pv 3) (fun _ _=>rfl)) af (ao _))
     (ad (bL PassesOwn.never rfl (bH rfl T.range (aa af ae)) (bc (i:=4) sc__law_check.nd rfl (.inl rfl))
      (ad (tG (ap bC (ap aY (bh (aK (K:=K)) (pv 1) (ap aY (pv 3) (pv 4)) (fun _ _=>rfl)) (bh (aK (K:=K)) (pv 2) (pv 4) (fun _ _=>rfl))) af) (xu (pv 1) (ap aY (pv 3) (pv 4)) rg)))))
     az)))
   (ad (aC (bt (bv (K:=K)) (pv 1) (bo (aw (aq (K:=K)) rfl T.len PySem.boot_len (aa (pv 0) ae))) cO)))))),?_⟩
 try dsimp only [br,Cx.nox,Cx.wish]
 refine ak (s2:=[some v0,none,none,none,none]) rfl ?_
 obtain ⟨a,bs,rfl,hS,hb,hl,q⟩:=h
 have lb:(bs.map V.int).length=bs.length:=List.length_map _
 wtm_at "wp"
 intro p1 hp1
 wtm_at "wp"
 refine ⟨small (show 1≤1000 by decide),fun p2 hp2 => ?_⟩
 wtm_at "wp"
 refine kZ ac (by decide) (by decide) (small (show 1 * 15≤1000 by decide)) (fun p3 hp3 => ?_)
 rw [Cf]
 refine fW (by wtm_at "hg") (by wtm_at "hg") ?_ (fun r hr4 => ?_)
 ·rw [lb]
  exact small (by show bs.length+15≤1000;omega)
 have s4:Same H (upd (upd (upd (upd H p1 (.lst (bs.map V.int))) p2 (.lst [.int 0])) p3 (.lst (zeros15.map V.int))) r (.lst ((bs++zeros15).map V.int))):=by wtm_at "hs"
 have hrH:aS H r:=by wtm_at "hf"
 rw [← List.map_append]
 generalize hH4:upd (upd (upd (upd H p1 (.lst (bs.map V.int))) p2 (.lst [.int 0])) p3 (.lst (zeros15.map V.int))) r (.lst ((bs++zeros15).map V.int))=H4 at *
 have e4:At H4 r (.lst ((bs++zeros15).map V.int)):=by rw [← hH4];exact ac
 wtm_at "wp"
 refine ⟨small (show 1≤1000 by decide),fun p5 hp5 => ?_⟩
 wtm_at "wp"
 refine ⟨17817,15,rfl,rfl,by decide,fun p6 H6 s56 hp6 e6 => ?_⟩
 have s6:Same H H6:=(s4.new hp5).trans s56
 have e6r:At H6 r (.lst ((bs++zeros15).map V.int)):=s56.get (aE hp5 e4)
 refine fW (s56.get ac) e6 (small (show 1+15≤1000 by decide)) (fun wh hwh => ?_)
 have s7:Same H (upd H6 wh (.lst ((1 :: wheel).map V.int))):=s6.new hwh
 have nrw:r≠wh:=aJ hwh e6r
 wtm_at "wp"
 refine dF ?_
 wtm_at "wp"
 rw [lb]
 refine cW bs.length (fun i σ H2=>∃ (rest:List Int) (v u:Option V),σ=[some (.ref a),some (.ref r),some (.ref wh),v,u]∧Same H H2∧At H2 r (.lst (rest.map V.int))∧At H2 wh (.lst ((1 :: wheel).map V.int))∧Outer bs i rest) (by omega) (by omega)
  ⟨bs++zeros15,none,none,rfl,s7,aG nrw e6r,ac,pO bs hb⟩ ?_ ?_
 ·rintro i σ H2 hi ⟨rest,v,u,rfl,s8,er,ew,o⟩
  have ol:=o.len
  have hi2:i < rest.length:=by omega
  wtm_at "wp"
  refine bf (by wtm_at "hg") (cx hi2) ?_
  wtm_at "wp"
  refine ax (fun e1 => ?_) (fun e1 => ?_)
  ·wtm_at "wp"
   refine dF ?_
   wtm_at "wp"
   refine cW 16 (fun j σ H3=>∃ u:Option V,σ=[some (.ref a),some (.ref r),some (.ref wh),some (.int (i:Int)),u]∧Same H H3∧At H3 r (.lst ((fI i j rest).map V.int))∧At H3 wh (.lst ((1 :: wheel).map V.int))) rfl (by decide)
    ⟨_,rfl,s8,by rw [sB];exact er,ew⟩ ?_ ?_
   ·rintro j σ H3 hj ⟨u,rfl,s9,er3,ew3⟩
    have il:=nP i j rest
    have hij:i+j < (fI i j rest).length:=by omega
    have eij:(i:Int)+(j:Int)=((i+j:Nat):Int):=by omega
    have wl:(1 :: wheel).length=16:=by rw [List.length_cons,eG]
    wtm_at "wp"
    refine bf (by wtm_at "hg") (show atI _ ((i:Int)+(j:Int))=_ by rw [eij];exact cx hij) ?_
    wtm_at "wp"
    refine bf (by wtm_at "hg") (cx (show j < (1 :: wheel).length by omega)) ?_
    wtm_at "wp"
    refine uy (j:=i+j) er3 (by rw [eij,List.length_map];exact uk hij) ?_
    refine ⟨_,rfl,s9.upF hrH,?_,aG (Ne.symm nrw) ew3⟩
    rw [map_set,uV i j rest hj (by omega)]
    exact ac
   ·rintro σ H3 ⟨u,rfl,s9,er3,ew3⟩
    refine ⟨fI i 16 rest,_,_,rfl,s9,er3,ew3,?_⟩
    have:=ln hb hi o
    unfold sE at this
    rw [if_pos e1] at this
    exact this
  ·wtm_at "wp"
   refine ⟨rest,_,_,rfl,s8,er,ew,?_⟩
   have:=ln hb hi o
   unfold sE at this
   rw [if_neg e1] at this
   exact this
 ·rintro σ H2 ⟨rest,v,u,rfl,s8,er,ew,o⟩
  wtm_at "wp"
  rw [lb]
  refine cK (by wtm_at "hg") (xg rest bs.length) (fun t ht => ?_)
  refine q t _ (s8.new ht) (s8.fr ht) ?_
  rw [uW o]
  exact ac
abbrev qF:Stmt:=(top 58)
abbrev oF (K:PySem.W.Frag) (c:Cs):Sp:=sp2 fun u v H Q _=>∃ (a:Addr) (name:Int) (row:List Int),u = .int name∧v = .ref a∧SqL K H a (row.map V.int)∧row.length≤20∧MkL H Q (aW name row)
theorem sc__law_bits:FnScope ["_law_name", "_law_row", "_law_bits_here", "_law_byte"] ["_law_name", "_law_row"] (ah qF):=aR
theorem oG (T:Txt K mg c):dm P w K mg base CX0 3 "_law_bits" ["_law_name", "_law_row"] (oF K c):=by
 refine T.d__law_bits.ok sc__law_bits (fun _ _ _ _ _ _ us hl=>match us,hl with | [_,_],_=>rfl) fj (fun f cdv A outer s H vs Q E hr h => ?_)
 obtain ⟨v0,v1,rfl,h⟩:=h
 refine ⟨_,(ag (aD (i:=2) sc__law_bits.nd rfl (.inl rfl) (ap d9 (ap d9 (bj (aa af ae)) (bV (cA T) hr ay (aa (pv 0) (aa af ae)))) (bV (cA T) hr ay (aa (aw (aq (K:=K)) rfl T.len PySem.boot_len (aa (pv 1) ae)) (aa af ae)))))
   (ag (bL PassesOwn.never rfl (aV (K:=K) (pv 1)) (bc (i:=3) sc__law_bits.nd rfl (.inl rfl))
    (ad (aD (i:=2) sc__law_bits.nd rfl (.inl rfl) (ap d9 (pv 2) (bV (cA T) hr ay (aa (pv 3) (aa af ae)))))))
   (ad (aC (ap d9 (pv 2) (bV (ic T) hr ay (aa (pv 2) ae))))))),?_⟩
 try dsimp only [br,Cx.nox,Cx.wish]
 refine ak (s2:=[some v0,some v1,none,none]) rfl ?_
 obtain ⟨a,name,row,rfl,rfl,hS,hl,q⟩:=h
 have lr:(row.map V.int).length=row.length:=List.length_map _
 wtm_at "wp"
 refine ⟨small (show 1≤1000 by decide),fun p1 hp1 => ?_⟩
 wtm_at "wp"
 refine ⟨name,11,rfl,rfl,by decide,fun p2 H2 s2 hp2 e2 => ?_⟩
 refine fW (by wtm_at "hg") (by wtm_at "hg") (by wtm_at "sm") (fun p3 hp3 => ?_)
 have s3:Same H (upd H2 p3 (.lst ([V.int 0]++(ar name 11).map V.int))):=Same.new ((au hp1 _).trans s2) hp3
 wtm_at "wp"
 rw [lr]
 refine ⟨(row.length:Int),4,rfl,rfl,by decide,fun p4 H4 s4 hp4 e4 => ?_⟩
 refine fW (by wtm_at "hg") (by wtm_at "hg") (by wtm_at "sm") (fun b hb => ?_)
 have s34:=s3.trans s4
 have hbH:aS H b:=s34.fr hb
 have e5:([V.int 0]++(ar name 11).map V.int)++(ar (row.length:Int) 4).map V.int=([0]++ar name 11++ar (row.length:Int) 4++bd (row.take 0)).map V.int:=by
  show _=([0]++ar name 11++ar (row.length:Int) 4++[]).map V.int
  rw [List.append_nil,List.map_append,List.map_append]
  rfl
 rw [e5]
 have s5:Same H (upd H4 b (.lst (([0]++ar name 11++ar (row.length:Int) 4++bd (row.take 0)).map V.int))):=s34.new hb
 wtm_at "wp"
 refine cw ?_
 wtm_at "wp"
 refine bW (xs:=row.map V.int)
  (fun i σ H6=>∃ (b:Addr) (v:Option V),σ=[some (.int name),some (.ref a),some (.ref b),v]∧Same H H6∧aS H b∧At H6 b (.lst (([0]++ar name 11++ar (row.length:Int) 4++bd (row.take i)).map V.int))) (s5.seq hS)
  ⟨b,none,rfl,s5,hbH,ac⟩ (fun i σ H6 _ ⟨_,_,_,s6,_⟩=>s6.seq hS) ?_ ?_
 ·rintro i y σ H6 hi ⟨b,v,rfl,s6,hbF,eb⟩
  obtain ⟨z,hz,rfl⟩:=ce hi
  have hil:i < row.length:=(List.getElem?_eq_some_iff.mp hz).1
  wtm_at "wp"
  refine ⟨z,8,rfl,rfl,by decide,fun p7 H7 s7 hp7 e7 => ?_⟩
  have hlen:([0]++ar name 11++ar (row.length:Int) 4++bd (row.take i)).length≤16+8 * row.length:=by
   simp only [List.length_append,aO,dN,List.length_take,List.length_singleton]
   omega
  refine fW (s7.get eb) e7 ?_ (fun t ht => ?_)
  ·rw [List.length_map,List.length_map,aO]
   exact small (by omega)
  wtm_at "wp"
  have s67:=s6.trans s7
  refine ⟨t,some (.int z),rfl,s67.new ht,s67.fr ht,?_⟩
  rw [← List.map_append,i5 hz]
  simp only [List.append_assoc]
  exact ac
 ·rintro σ H6 ⟨b,v,rfl,s6,hbF,eb⟩
  rw [lr,List.take_of_length_le (Nat.le_refl _)] at eb
  have eb':At H6 b (.lst ((body name row).map V.int)):=eb
  have bl:=fA name row
  wtm_at "wp"
  refine ⟨b,body name row,rfl,At.sqL eb',jQ name row,by rw [bl];omega,fun p8 H8 s8 hp8 e8 => ?_⟩
  refine fW (s8.get eb') e8 ?_ (fun t ht => ?_)
  ·rw [List.length_map,List.length_map,bl,b0]
   exact small (by omega)
  ·have s68:=s6.trans s8
   refine q t _ (s68.new ht) (s68.fr ht) ?_
   rw [← List.map_append]
   exact ac
theorem Cg (w:List Int):run w≤w.length:=by
 unfold run
 have:∀ l:List Int,rP l≤l.length:=by
  intro l
  cases l with
  | nil=>exact Nat.zero_le _
  | cons x r=>
   cases e:rP (x :: r) with
   | zero=>exact Nat.zero_le _
   | succ n=>
    obtain ⟨t,h⟩:=(md n r x).mp (by rw [e];exact Nat.le_refl _)
    rw [h]
    simp
 have h:=this w.reverse
 rw [List.length_reverse] at h
 exact h
theorem lG {w:List Int} {k:Nat} (h1:k+1≤w.length):k+1≤run w↔∀ j,j≤k→w.getD (w.length - 1 - j) 0=w.getLastD 0:=by
 rcases bX w with rfl | ⟨m,b,rfl⟩
 ·simp at h1
 ·unfold run
  rw [List.reverse_append,List.reverse_singleton,List.singleton_append,md,bb]
  rw [List.length_append,List.length_singleton] at h1
  have hg:∀ j,j < m.length→(m++[b]).getD (m.length+1 - 1 - (j+1)) 0=m.reverse.getD j 0:=fun j hj=>by
   rw [bY (by omega)]
   rw [List.getD_eq_getElem?_getD,List.getD_eq_getElem?_getD,List.getElem?_reverse hj]
   congr 2
   omega
  constructor
  ·rintro ⟨t,ht⟩ j hj
   rw [List.length_append,List.length_singleton]
   cases j with
   | zero=>
    have:=dv (p:=m) (b:=b)
    simpa using this
   | succ j=>
    rw [hg j (by omega),ht]
    rw [bY (by rw [List.length_replicate];omega)]
    rw [List.getD_eq_getElem?_getD,List.getElem?_replicate,if_pos (by omega)]
    rfl
  ·intro h
   refine ⟨m.reverse.drop k,?_⟩
   have:m.reverse.take k=List.replicate k b:=by
    apply List.ext_getElem?
    intro i
    by_cases hi:i < k
    ·rw [List.getElem?_take_of_lt hi,List.getElem?_replicate,if_pos hi]
     have h2:=h (i+1) (by omega)
     rw [List.length_append,List.length_singleton,hg i (by omega)] at h2
     rw [List.getD_eq_getElem?_getD,List.getElem?_eq_getElem (by rw [List.length_reverse];omega)] at h2
     rw [List.getElem?_eq_getElem (by rw [List.length_reverse];omega)]
     exact congrArg some h2
    ·rw [List.getElem?_eq_none (by rw [List.length_take];omega),List.getElem?_eq_none (by rw [List.length_replicate];omega)]
   rw [← this,List.take_append_drop]
theorem Ch {w:List Int} (h:4 < w.length):(dq (cb w)).length=1↔∃ x,cb w=[x,x,x,x,x]:=by
 have hl:(cb w).length=5:=by unfold cb;rw [List.length_drop];omega
 rw [wg]
 constructor
 ·rintro ⟨x,_,hx⟩
  refine ⟨x,?_⟩
  match e:cb w,hl with
  | [a,b,c,d,f],_=>
   rw [e] at hx
   simp only [List.mem_cons,List.not_mem_nil,or_false,forall_eq_or_imp,forall_eq] at hx
   obtain ⟨h1,h2,h3,h4,h5⟩:=hx
   rw [h1,h2,h3,h4,h5]
 ·rintro ⟨x,hx⟩
  rw [hx]
  exact ⟨x,by simp,by simp⟩
theorem DW (n:Int) (h0:0≤n):∃ v:Int,atI [V.int 0,.int 1,.int 2047,.int 1024,.int (n / 7 % 2048),.int (n / 7 % 8)] (n % 6)=some (.int v)∧0≤v∧v≤2047:=by
 have:n % 6=0∨n % 6=1∨n % 6=2∨n % 6=3∨n % 6=4∨n % 6=5:=by omega
 rcases this with e | e | e | e | e | e <;> rw [e] <;> exact ⟨_,rfl,by omega,by omega⟩
theorem DX (n:Int) (h0:0≤n):∃ v:Int,atI [V.int 0,.int 255,.int (n / 4 % 256),.int 31] (n % 4)=some (.int v)∧0≤v∧v≤255:=by
 have:n % 4=0∨n % 4=1∨n % 4=2∨n % 4=3:=by omega
 rcases this with e | e | e | e <;> rw [e] <;> exact ⟨_,rfl,by omega,by omega⟩
abbrev sY:Stmt:=(top 60)
abbrev qG (K:PySem.W.Frag) (c:Cs):Sp:=sp1 fun v H Q _=>∃ (a:Addr) (ws:List Int),v = .ref a∧SqL K H a (ws.map V.int)∧Q (.int (run ws:Nat)) H
theorem sc__law_run:FnScope ["_law_bits_here", "_law_many"] ["_law_bits_here"] (ah sY):=aR
theorem qH (T:Txt K mg c):dm P w K mg base CX0 1 "_law_run" ["_law_bits_here"] (qG K c):=by
 refine T.d__law_run.ok sc__law_run (fun _ _ _ _ _ _ us hl=>match us,hl with | [_],_=>rfl) gB (fun f cdv A outer s H vs Q E hr h => ?_)
 obtain ⟨v0,rfl,h⟩:=h
 refine ⟨_,(ag (aD (i:=1) sc__law_run.nd rfl (.inl rfl) af)
   (ag (qU PassesOwn.never (PW.pt (bZ (ai gF (pv 1) (aw (aq (K:=K)) rfl T.len PySem.boot_len (aa (pv 0) ae)) (ao _)) (bK (ai bg (bh (aK (K:=K)) (pv 0) (ap dn (ap dn (aw (aq (K:=K)) rfl T.len PySem.boot_len (aa (pv 0) ae)) af) (pv 1)) (fun _ _=>rfl)) (bh (aK (K:=K)) (pv 0) (lI gE af) (fun _ _=>rfl)) (ao _)))))
    (ad (aD (i:=1) sc__law_run.nd rfl (.inl rfl) (ap aY (pv 1) af))))
   (ad (aC (pv 1))))),?_⟩
 try dsimp only [br,Cx.nox,Cx.wish]
 refine ak (s2:=[some v0,none]) rfl ?_
 obtain ⟨a,ws,rfl,hS,q⟩:=h
 have lr:(ws.map V.int).length=ws.length:=List.length_map _
 wtm_at "wp"
 refine qW (fun σ H2=>H2=H∧∃ k:Nat,σ=[some (.ref a),some (.int (k:Int))]∧k≤run ws∧(∀ j,j < k→ws.getD (ws.length - 1 - j) 0=ws.getLastD 0)) (fun σ _=>match σ with | [_,some (.int k)]=>ws.length - k.toNat | _=>0) ?_ ?_ ?_
 ·exact ⟨rfl,0,rfl,Nat.zero_le _,fun j hj=>absurd hj (by omega)⟩
 ·rintro σ H2 ⟨rfl,k,rfl,hk,hall⟩
  have rl:=Cg ws
  wtm_at "wp"
  rw [lr]
  refine ax (fun c1 => ?_) (fun c1 => ?_)
  ·wtm_at "wp"
   rw [lr]
   refine bf hS (show atI _ ((ws.length:Int) - 1 - (k:Int))=_ by rw [show (ws.length:Int) - 1 - (k:Int)=((ws.length - 1 - k:Nat):Int) by omega];exact cx (by omega)) ?_
   wtm_at "wp"
   refine bf hS (jX (by intro z;rw [z] at c1;simp at c1;omega)) ?_
   wtm_at "wp"
   have hall':ws.getD (ws.length - 1 - k) 0=ws.getLastD 0→∀ j,j≤k→ws.getD (ws.length - 1 - j) 0=ws.getLastD 0:=fun c2 j hj=>by
    rcases Nat.lt_or_ge j k with z | z
    ·exact hall j z
    ·have:j=k:=by omega
     rw [this];exact c2
   refine ax (fun c2 => ?_) (fun c2 => ?_)
   ·wtm_at "wp"
    refine ⟨⟨rfl,k+1,by rw [show ((k+1:Nat):Int)=(k:Int)+1 by omega],(lG (by omega)).mpr (hall' c2),fun j hj=>hall' c2 j (by omega)⟩,?_⟩
    show ws.length - ((k:Int)+1).toNat < ws.length - (k:Int).toNat
    omega
   ·wtm_at "wp"
    have:run ws=k:=by
     rcases Nat.lt_or_ge k (run ws) with z | z
     ·exact absurd ((lG (by omega)).mp z k (Nat.le_refl _)) c2
     ·omega
    rw [this] at q
    exact q
  ·wtm_at "wp"
   have:run ws=k:=by omega
   rw [this] at q
   exact q
 ·intro σ H2 R R' hRR h
  exact xJ (lX (kx uv eF (y4 ux (pJ eF uu)))) (lX (kx DO (kx uw eF (kx uv (kx uv (y4 ux (pJ eF uu)) DN) eF)) (kx uw eF (DP E8 DN)))) σ H2 R R' hRR h
abbrev kO:Stmt:=(top 59)
abbrev kj (K:PySem.W.Frag) (c:Cs):Sp:=sp1 fun v H Q _=>∃ (a:Addr) (bs:List Int),v = .ref a∧SqL K H a (bs.map V.int)∧Bits bs∧bs.length≤400∧MkL H Q (aT bs)
theorem sc__law_stuffed:FnScope ["_law_bits_here", "_law_found", "_law_bit"] ["_law_bits_here"] (ah kO):=aR
theorem kl (T:Txt K mg c):dm P w K mg base CX0 2 "_law_stuffed" ["_law_bits_here"] (kj K c):=by
 refine T.d__law_stuffed.ok sc__law_stuffed (fun _ _ _ _ _ _ us hl=>match us,hl with | [_],_=>rfl) gB (fun f cdv A outer s H vs Q E hr h => ?_)
 obtain ⟨v0,rfl,h⟩:=h
 refine ⟨_,(ag (aD (i:=1) sc__law_stuffed.nd rfl (.inl rfl) (bj ae))
   (ag (bL PassesOwn.never rfl (aV (K:=K) (pv 0)) (bc (i:=2) sc__law_stuffed.nd rfl (.inl rfl))
    (ag (aH (cr (K:=K) PySem.F.plainAttrs_list PySem.F.slot_list_append PySem.F.type_list_append bN (pv 1) (aa (pv 2) ae)))
    (ad (aQ (PW.pt (bZ (ai mR (aw (aq (K:=K)) rfl T.len PySem.boot_len (aa (pv 1) ae)) af (ao _)) (bZ (ai bg (aw lP rfl T.len PySem.boot_len (aa (cJ (ur (K:=K)) rfl T.set PyProof.Rows.boot_set (aa (bt (bv (K:=K)) (pv 1) (bo (lI gE af)) cO) ae)) ae)) af (ao _)) (bK (ai bg (ap bC (bV (qH T) hr ay (aa (pv 1) ae)) af) af (ao _))))))
     (ad (aH (cr (K:=K) PySem.F.plainAttrs_list PySem.F.slot_list_append PySem.F.type_list_append bN (pv 1) (aa (ap dn af (pv 2)) ae))))
     az))))
   (ad (aC (pv 1))))),?_⟩
 try dsimp only [br,Cx.nox,Cx.wish]
 refine ak (s2:=[some v0,none,none]) rfl ?_
 obtain ⟨a,bs,rfl,hS,hb,hl,q⟩:=h
 wtm_at "wp"
 refine ⟨small (show 0≤1000 by decide),fun r hr0 => ?_⟩
 have s1:Same H (upd H r (.lst [])):=au hr0 _
 wtm_at "wp"
 refine cw ?_
 wtm_at "wp"
 refine bW (xs:=bs.map V.int) (fun i σ H2=>∃ v:Option V,σ=[some (.ref a),some (.ref r),v]∧Same H H2∧At H2 r (.lst ((aT (bs.take i)).map V.int))) (s1.seq hS)
  ⟨none,rfl,s1,ac⟩ (fun i σ H2 _ ⟨_,_,s2,_⟩=>s2.seq hS) ?_ ?_
 ·rintro i y σ H2 hi ⟨v,rfl,s2,er⟩
  obtain ⟨b,hbi,rfl⟩:=ce hi
  have hil:i < bs.length:=(List.getElem?_eq_some_iff.mp hbi).1
  have hbb:Bit b:=hb b (List.mem_of_getElem? hbi)
  have hlen:(aT (bs.take i)).length≤800:=by
   have:=jP (bs.take i)
   rw [List.length_take] at this
   omega
  have hst:aT (bs.take (i+1))=aN (aT (bs.take i)) b:=eE (f:=aN) (a:=([]:List Int)) hbi
  have hld:=pP (w:=aT (bs.take i)) (b:=b) (fu (hb.take i)) hbb (nQ (hb.take i))
  have r1:=uX (aT (bs.take i)) b
  wtm_at "wp"
  refine bO er (bu (by rw [List.length_map];omega)) ?_
  have er2:At (upd H2 r (.lst ((aT (bs.take i)).map V.int++[.int b]))) r (.lst ((aT (bs.take i)++[b]).map V.int)):=by rw [List.map_append];exact ac
  have s3:Same H (upd H2 r (.lst ((aT (bs.take i)).map V.int++[.int b]))):=s2.upF hr0
  generalize upd H2 r (.lst ((aT (bs.take i)).map V.int++[.int b]))=H3 at *
  have lw:(aT (bs.take i)++[b]).length≤801:=by rw [List.length_append,List.length_singleton];omega
  have yes:due (aT (bs.take i)++[b])=true→∀ H4,Same H H4→At H4 r (.lst ((aT (bs.take i)++[b]).map V.int))→∃ v:Option V,[some (.ref a),some (.ref r),some (.int b)]=[some (.ref a),some (.ref r),v]∧Same H (upd H4 r (.lst ((aT (bs.take i)++[b]).map V.int++[.int (1 - b)])))∧At (upd H4 r (.lst ((aT (bs.take i)++[b]).map V.int++[.int (1 - b)]))) r (.lst ((aT (bs.take (i+1))).map V.int)):=fun d H4 s4 e4=>by
   refine ⟨_,rfl,s4.upF hr0,?_⟩
   rw [hst]
   unfold aN
   rw [if_pos d,List.map_append (l₁:=aT (bs.take i)++[b])]
   exact ac
  have no:¬ due (aT (bs.take i)++[b])=true→∀ H4,Same H H4→At H4 r (.lst ((aT (bs.take i)++[b]).map V.int))→∃ v:Option V,[some (.ref a),some (.ref r),some (.int b)]=[some (.ref a),some (.ref r),v]∧Same H H4∧At H4 r (.lst ((aT (bs.take (i+1))).map V.int)):=fun d H4 s4 e4=>by
   refine ⟨_,rfl,s4,?_⟩
   rw [hst]
   unfold aN
   rw [if_neg d]
   exact e4
  generalize aT (bs.take i)++[b]=W at *
  have lW:(W.map V.int).length=W.length:=List.length_map _
  wtm_at "wp"
  rw [lW]
  refine ax (fun c1 => ?_) (fun c1 => ?_)
  ·wtm_at "wp"
   refine cK (by wtm_at "hg") (EH W) (fun p hp => ?_)
   wtm_at "wp"
   have l5:(cb W).length≤100:=by unfold cb;rw [List.length_drop];omega
   refine ⟨p,cb W,rfl,At.sqL ac,l5,fun se hse => ?_⟩
   refine ⟨se,_,_,rfl,bA,?_⟩
   wtm_at "wp"
   have sZ:Same H (upd (upd H3 p (.lst ((cb W).map V.int))) se (.set (fun k=>(dq (cb W)).any (· == k)) (dq (cb W)).length)):=(s3.new hp).new hse
   have eZ:At (upd (upd H3 p (.lst ((cb W).map V.int))) se (.set (fun k=>(dq (cb W)).any (· == k)) (dq (cb W)).length)) r (.lst (W.map V.int)):=aE hse (aE hp er2)
   generalize upd (upd H3 p (.lst ((cb W).map V.int))) se (.set (fun k=>(dq (cb W)).any (· == k)) (dq (cb W)).length)=H4 at *
   refine ax (fun c2 => ?_) (fun c2 => ?_)
   ·wtm_at "wp"
    refine ⟨r,W,rfl,At.sqL eZ,?_⟩
    wtm_at "wp"
    refine ax (fun c3 => ?_) (fun c3 => ?_)
    ·wtm_at "wp"
     refine bO eZ (bu (by rw [lW];omega)) ?_
     exact yes (hld.mp ⟨by omega,(Ch (by omega)).mp (by omega),by omega⟩) _ sZ eZ
    ·wtm_at "wp"
     exact no (fun d=>c3 (by have:=(hld.mpr d).2.2;omega)) _ sZ eZ
   ·wtm_at "wp"
    exact no (fun d=>c2 (by have:=(Ch (hld.mpr d).1).mpr (hld.mpr d).2.1;omega)) _ sZ eZ
  ·wtm_at "wp"
   exact no (fun d=>c1 (by have:=(hld.mpr d).1;omega)) _ s3 er2
 ·rintro σ H2 ⟨v,rfl,s2,er⟩
  rw [List.length_map,List.take_of_length_le (Nat.le_refl _)] at er
  wtm_at "wp"
  exact q r H2 s2 hr0 er
abbrev oH:Stmt:=(top 61)
abbrev mG (K:PySem.W.Frag) (c:Cs):Sp:=sp3 fun u v w H Q _=>∃ (a:Addr) (ns:List Int) (k:Int) (m:Nat),u = .ref a∧v = .int k∧w = .int m∧SqL K H a (ns.map V.int)∧m≤8∧(∀ name row t r H',Same H H'→aS H t→aS H r→At H' t (.tup [.int name,.ref r])→At H' r (.lst (row.map V.int))→iZ name row→row.length≤m→Q (.ref t) H')
theorem sc__law_frame:FnScope ["_law_script", "_law_k", "_law_most", "_law_number", "_law_name", "_law_row", "_law_j", "_law_byte"] ["_law_script", "_law_k", "_law_most"] (ah oH):=aR
theorem mH (T:Txt K mg c):dm P w K mg base CX0 3 "_law_frame" ["_law_script", "_law_k", "_law_most"] (mG K c):=by
 refine T.d__law_frame.ok sc__law_frame (fun _ _ _ _ _ _ us hl=>match us,hl with | [_,_,_],_=>rfl) CG (fun f cdv A outer s H vs Q E hr h => ?_)
 obtain ⟨v0,v1,v2,rfl,h⟩:=h
 refine ⟨_,(ag (aD (i:=3) sc__law_frame.nd rfl (.inl rfl) (bV (bU T) hr ay (aa (pv 0) (aa (pv 1) ae))))
   (ag (aD (i:=4) sc__law_frame.nd rfl (.inl rfl) (bh (aK (K:=K)) (bj (aa af (aa af (aa af (aa af (aa (ap bC (ap cu (pv 3) af) af) (aa (ap bC (ap cu (pv 3) af) af) ae))))))) (ap bC (pv 3) af) (fun _ _=>rfl)))
   (ag (aD (i:=5) sc__law_frame.nd rfl (.inl rfl) (bj ae))
   (ag (bL PassesOwn.never rfl (bH rfl T.range (aa (ap bC (ap cu (pv 3) af) (ap aY (pv 2) af)) ae)) (bc (i:=6) sc__law_frame.nd rfl (.inl rfl))
    (ag (aD (i:=7) sc__law_frame.nd rfl (.inl rfl) (bV (bU T) hr ay (aa (pv 0) (aa (ap aY (ap aY (pv 1) af) (pv 6)) ae))))
    (ad (aH (cr (K:=K) PySem.F.plainAttrs_list PySem.F.slot_list_append PySem.F.type_list_append bN (pv 5) (aa (bh (aK (K:=K)) (bj (aa af (aa af (aa (ap bC (ap cu (pv 7) af) af) (aa af ae))))) (ap bC (pv 7) af) (fun _ _=>rfl)) ae))))))
   (ad (aC (cH (aa (pv 4) (aa (pv 5) ae))))))))),?_⟩
 try dsimp only [br,Cx.nox,Cx.wish]
 refine ak (s2:=[some v0,some v1,some v2,none,none,none,none,none]) rfl ?_
 obtain ⟨a,ns,k,m,rfl,rfl,rfl,hS,hm,q⟩:=h
 wtm_at "wp"
 refine ⟨a,ns,k,rfl,rfl,hS,fun n h0 h1 => ?_⟩
 wtm_at "wp"
 refine ⟨small (show 6≤1000 by decide),fun p hp => ?_⟩
 wtm_at "wp"
 obtain ⟨name,hname,hn0,hn1⟩:=DW n h0
 refine bf (by wtm_at "hg") hname ?_
 wtm_at "wp"
 refine ⟨small (show 0≤1000 by decide),fun r hr0 => ?_⟩
 have hrH:aS H r:=by wtm_at "hf"
 have s2:Same H (upd (upd H p (.lst [.int 0,.int 1,.int 2047,.int 1024,.int (n / 7 % 2048),.int (n / 7 % 8)])) r (.lst [])):=by wtm_at "hs"
 have e2:At (upd (upd H p (.lst [.int 0,.int 1,.int 2047,.int 1024,.int (n / 7 % 2048),.int (n / 7 % 8)])) r (.lst [])) r (.lst (([]:List Int).map V.int)):=ac
 generalize upd (upd H p (.lst [.int 0,.int 1,.int 2047,.int 1024,.int (n / 7 % 2048),.int (n / 7 % 8)])) r (.lst [])=H2 at *
 wtm_at "wp"
 refine dF ?_
 wtm_at "wp"
 refine cW (n / 20000 % ((m:Int)+1)).toNat (fun i σ H3=>∃ (row:List Int) (v w:Option V),σ=[some (.ref a),some (.int k),some (.int m),some (.int n),some (.int name),some (.ref r),v,w]∧Same H H3∧At H3 r (.lst (row.map V.int))∧row.length=i∧∀ b∈row,0≤b∧b≤255) rfl ?_
  ⟨[],none,none,rfl,s2,e2,rfl,fun b hb=>by simp at hb⟩ ?_ ?_
 ·have:=Int.emod_nonneg (n / 20000) (show (m:Int)+1≠0 by omega)
  have:=Int.emod_lt_of_pos (n / 20000) (show 0 < (m:Int)+1 by omega)
  omega
 ·rintro i σ H3 hi ⟨row,v,w,rfl,s3,e3,hl,hb⟩
  have hi9:i < 9:=by
   have:=Int.emod_lt_of_pos (n / 20000) (show 0 < (m:Int)+1 by omega)
   omega
  wtm_at "wp"
  refine ⟨a,ns,_,rfl,rfl,s3.seq hS,fun z z0 z1 => ?_⟩
  wtm_at "wp"
  refine ⟨small (show 4≤1000 by decide),fun p4 hp4 => ?_⟩
  wtm_at "wp"
  obtain ⟨y,hy,y0,y1⟩:=DX z z0
  refine bf (by wtm_at "hg") hy ?_
  wtm_at "wp"
  refine bO (aE hp4 e3) (bu (by rw [List.length_map];omega)) ?_
  refine ⟨row++[y],_,_,rfl,?_,?_,by rw [List.length_append,hl,List.length_singleton],fun b hbm => ?_⟩
  ·exact (s3.new hp4).upF hrH
  ·rw [List.map_append];exact ac
  ·rcases List.mem_append.mp hbm with z | z
   ·exact hb b z
   ·rw [List.mem_singleton.mp z];exact ⟨y0,y1⟩
 ·rintro σ H3 ⟨row,v,w,rfl,s3,e3,hl,hb⟩
  have hm8:row.length≤m:=by
   have:=Int.emod_lt_of_pos (n / 20000) (show 0 < (m:Int)+1 by omega)
   omega
  wtm_at "wp"
  refine ⟨small (show 2≤1000 by decide),fun t ht => ?_⟩
  wtm_at "wp"
  exact q name row t r _ (s3.new ht) (s3.fr ht) hrH ac (aE ht e3) ⟨⟨hn0,hn1⟩,by omega,hb⟩ hm8
abbrev lnF (w h fa mo le pl li la ma ck ta se pu:V):List (Key×V):=
 [(.inr "waits",w),(.inr "heard",h),(.inr "faults",fa),(.inr "mode",mo),(.inr "left",le),(.inr "plain",pl),(.inr "like",li),(.inr "last",la),(.inr "many",ma),(.inr "check",ck),(.inr "tail",ta),(.inr "sends",se),(.inr "put",pu)]
section
variable {w h fa mo le pl li la ma ck ta se pu x:V}
theorem xh:f9 (lnF w h fa mo le pl li la ma ck ta se pu) (.inr "waits")=some w:=rfl
theorem xi:f9 (lnF w h fa mo le pl li la ma ck ta se pu) (.inr "heard")=some h:=rfl
theorem vA:f9 (lnF w h fa mo le pl li la ma ck ta se pu) (.inr "faults")=some fa:=rfl
theorem zJ:f9 (lnF w h fa mo le pl li la ma ck ta se pu) (.inr "mode")=some mo:=rfl
theorem zK:f9 (lnF w h fa mo le pl li la ma ck ta se pu) (.inr "left")=some le:=rfl
theorem xj:f9 (lnF w h fa mo le pl li la ma ck ta se pu) (.inr "plain")=some pl:=rfl
theorem zL:f9 (lnF w h fa mo le pl li la ma ck ta se pu) (.inr "like")=some li:=rfl
theorem zM:f9 (lnF w h fa mo le pl li la ma ck ta se pu) (.inr "last")=some la:=rfl
theorem zN:f9 (lnF w h fa mo le pl li la ma ck ta se pu) (.inr "many")=some ma:=rfl
theorem xk:f9 (lnF w h fa mo le pl li la ma ck ta se pu) (.inr "check")=some ck:=rfl
theorem zO:f9 (lnF w h fa mo le pl li la ma ck ta se pu) (.inr "tail")=some ta:=rfl
theorem xl:f9 (lnF w h fa mo le pl li la ma ck ta se pu) (.inr "sends")=some se:=rfl
theorem Ci:f9 (lnF w h fa mo le pl li la ma ck ta se pu) (.inr "put")=some pu:=rfl
theorem xm:fY (lnF w h fa mo le pl li la ma ck ta se pu) (.inr "waits") x=lnF x h fa mo le pl li la ma ck ta se pu:=rfl
theorem xn:fY (lnF w h fa mo le pl li la ma ck ta se pu) (.inr "heard") x=lnF w x fa mo le pl li la ma ck ta se pu:=rfl
theorem vB:fY (lnF w h fa mo le pl li la ma ck ta se pu) (.inr "faults") x=lnF w h x mo le pl li la ma ck ta se pu:=rfl
theorem zP:fY (lnF w h fa mo le pl li la ma ck ta se pu) (.inr "mode") x=lnF w h fa x le pl li la ma ck ta se pu:=rfl
theorem zQ:fY (lnF w h fa mo le pl li la ma ck ta se pu) (.inr "left") x=lnF w h fa mo x pl li la ma ck ta se pu:=rfl
theorem xo:fY (lnF w h fa mo le pl li la ma ck ta se pu) (.inr "plain") x=lnF w h fa mo le x li la ma ck ta se pu:=rfl
theorem zR:fY (lnF w h fa mo le pl li la ma ck ta se pu) (.inr "like") x=lnF w h fa mo le pl x la ma ck ta se pu:=rfl
theorem zS:fY (lnF w h fa mo le pl li la ma ck ta se pu) (.inr "last") x=lnF w h fa mo le pl li x ma ck ta se pu:=rfl
theorem zT:fY (lnF w h fa mo le pl li la ma ck ta se pu) (.inr "many") x=lnF w h fa mo le pl li la x ck ta se pu:=rfl
theorem xp:fY (lnF w h fa mo le pl li la ma ck ta se pu) (.inr "check") x=lnF w h fa mo le pl li la ma x ta se pu:=rfl
theorem zU:fY (lnF w h fa mo le pl li la ma ck ta se pu) (.inr "tail") x=lnF w h fa mo le pl li la ma ck x se pu:=rfl
theorem xq:fY (lnF w h fa mo le pl li la ma ck ta se pu) (.inr "sends") x=lnF w h fa mo le pl li la ma ck ta x pu:=rfl
theorem Cj:fY (lnF w h fa mo le pl li la ma ck ta se pu) (.inr "put") x=lnF w h fa mo le pl li la ma ck ta se x:=rfl
theorem cV (kvs:List (Key×V)) (kv:Key×V) (r:List (Key×V)) (h:f9 kvs kv.1=none):cT kvs (kv :: r)=cT (kvs++[kv]) r:=by
 show cT (fY kvs kv.1 kv.2) r=_
 rw [wO kv.2 h]
theorem zV:cT [] ([(.inr "waits",w),(.inr "heard",h),(.inr "faults",fa),(.inr "mode",mo),(.inr "left",le)]:List (Key×V))=[(.inr "waits",w),(.inr "heard",h),(.inr "faults",fa),(.inr "mode",mo),(.inr "left",le)]:=rfl
theorem Ck:cT ([(.inr "waits",w),(.inr "heard",h),(.inr "faults",fa),(.inr "mode",mo),(.inr "left",le)]:List (Key×V)) [(.inr "plain",pl),(.inr "like",li),(.inr "last",la),(.inr "many",ma),(.inr "check",ck),(.inr "tail",ta),(.inr "sends",se),(.inr "put",pu)]=lnF w h fa mo le pl li la ma ck ta se pu:=by
 rw [cV _ _ _ rfl,cV _ _ _ rfl,cV _ _ _ rfl,cV _ _ _ rfl,cV _ _ _ rfl,cV _ _ _ rfl,cV _ _ _ rfl,cV _ _ _ rfl]
 rfl
theorem zW:cT [] ([(.inr "plain",pl),(.inr "like",li),(.inr "last",la),(.inr "many",ma),(.inr "check",ck),(.inr "tail",ta),(.inr "sends",se),(.inr "put",pu)]:List (Key×V))=[(.inr "plain",pl),(.inr "like",li),(.inr "last",la),(.inr "many",ma),(.inr "check",ck),(.inr "tail",ta),(.inr "sends",se),(.inr "put",pu)]:=by
 rw [cV _ _ _ rfl,cV _ _ _ rfl,cV _ _ _ rfl,cV _ _ _ rfl,cV _ _ _ rfl,cV _ _ _ rfl,cV _ _ _ rfl,cV _ _ _ rfl]
 rfl
end
theorem DY {f:Hp→VK→XK→Prop}:∀ vs H Q E,sp0 f vs H Q E→vs.length=([]:List Str).length:=by rintro _ _ _ _ ⟨rfl,_⟩;rfl
theorem xr {ta:TA} {g:TG} {tb:TS} {D:L2.Ends} {s:St} {H:Hp} (h:ta s H fun vs H1=>∃ i0 j:Int,vs=[.int i0,.int j]∧(-(2 ^ 62)≤i0∧i0 < 2 ^ 62 ∧ -(2 ^ 62)≤j∧j < 2 ^ 62)∧∃ W:Nat→Nat→St→Hp→Prop,(∃ m,W 0 m s H1)∧∀ i m σ H,W i m σ H →
 ((Itr i0 (j - i0).toNat).stop i H∧D.nx σ H)∨((Itr i0 (j - i0).toNat).go i H∧∃ N:St→Hp→Prop,(∀ σ' H',N σ' H'→∃ m',m' < m∧W (i+1) m' σ' H')∧∀ x H',(Itr i0 (j - i0).toNat).yld i H x H'→g x σ H' fun σ2 H2=>tb {D with nx:=N,ct:=N,bk:=D.nx} σ2 H2)):Cv (Ax ta) g tb D s H:=h
theorem vC {g:TG} {tb:TS} {D:L2.Ends} {s:St} {H:Hp} {i0 j:Int} (n:Nat) (Pv:Nat→St→Hp→Prop) (e:(j - i0).toNat=n) (hn : -(2 ^ 62)≤i0∧i0 < 2 ^ 62 ∧ -(2 ^ 62)≤j∧j < 2 ^ 62) (h0:Pv 0 s H)
  (hs:∀ i σ H,i < n→Pv i σ H→g (.int (i0+(i:Int))) σ H fun σ2 H2=>tb {D with nx:=Pv (i+1),ct:=Pv (i+1),bk:=D.nx} σ2 H2) (hd:∀ σ H,Pv n σ H→D.nx σ H) :
  ∃ i0' j':Int,[V.int i0,V.int j]=[.int i0',.int j']∧(-(2 ^ 62)≤i0'∧i0' < 2 ^ 62 ∧ -(2 ^ 62)≤j'∧j' < 2 ^ 62)∧∃ W:Nat→Nat→St→Hp→Prop,(∃ m,W 0 m s H)∧∀ i m σ H,W i m σ H →
 ((Itr i0' (j' - i0').toNat).stop i H∧D.nx σ H)∨((Itr i0' (j' - i0').toNat).go i H∧∃ N:St→Hp→Prop,(∀ σ' H',N σ' H'→∃ m',m' < m∧W (i+1) m' σ' H')∧∀ x H',(Itr i0' (j' - i0').toNat).yld i H x H'→g x σ H' fun σ2 H2=>tb {D with nx:=N,ct:=N,bk:=D.nx} σ2 H2):=by
 refine ⟨i0,j,rfl,hn,?_⟩
 rw [e]
 exact mQ Pv h0 hs hd
theorem Kp.upF {S:List Addr} {H H':Hp} {p:Addr} {o:HO} (s:Kp S H H') (f:aS H p):Kp S H (L2.upd H' p o):=
 ⟨fun b u n h=>aG (aB h f) (s.ot b u n h),fun b u i h=>aG (aB h f) (s.im b u i h)⟩
theorem Kp.fr1 {a p:Addr} {H H':Hp} {o:HO} (s:Kp [a] H H') (e:At H' a o) (h:aS H' p):aS H p:=s.fr (aM (Ne.symm (aB e h))) h
theorem jx {x:V} {l:List V}:atI (x :: l) 0=some x:=dE (j:=0) (show (x :: l)[0]? = some x from rfl)
theorem zX {m:Md} (h:m.str = "free"):m = .free:=(md_inj (b := .free)).mp h
theorem jy {m:Md} (h:m.str = "frame"):m = .frame:=(md_inj (b := .frame)).mp h
def IL (H:Hp) (p:Addr) (l:List Int):Prop:=∃ o,At H p (.frz o (.lst (l.map V.int)))
def FL (H:Hp) (p:Addr) (fs:List Fr):Prop:=∃ vs o,At H p (.frz o (.lst vs))∧Frs H vs fs
theorem IL.kp {S:List Addr} {H H':Hp} {p:Addr} {l:List Int} (h:IL H p l) (k:Kp S H H'):IL H' p l:=let ⟨o,e⟩:=h;⟨o,k.frz e⟩
theorem FL.kp {S:List Addr} {H H':Hp} {p:Addr} {fs:List Fr} (h:FL H p fs) (k:Kp S H H'):FL H' p fs:=let ⟨vs,o,e,f⟩:=h;⟨vs,o,k.frz e,f.kp k⟩
structure LnAt (H:Hp) (a:Addr) (n:Ln):Prop where
 ex:∃ (w h p k:Addr) (sv:V),At H a (.dK (lnF (.ref w) (.ref h) (.int n.faults) (.str n.mode.str) (.int n.left) (.ref p) (.int n.like) (.int n.last) (.int (n.many:Nat)) (.ref k) (.int n.tail) sv (.int n.put))) ∧
  FL H w n.waits∧FL H h n.heard∧IL H p n.plain∧IL H k n.check∧SnAt H sv n.sends
theorem LnAt.kp {S:List Addr} {H H':Hp} {a:Addr} {n:Ln} (h:LnAt H a n) (k:Kp S H H') (ha:a∉S):LnAt H' a n:=by
 obtain ⟨w,h,p,c,sv,e,f1,f2,i1,i2,s⟩:=h.ex
 exact ⟨w,h,p,c,sv,k.get ha e,f1.kp k,f2.kp k,i1.kp k,i2.kp k,s.kp k⟩
def km (H:Hp) (a:Addr) (n:Ln) (v:V) (Q:VK):Prop:=∀ H',Kp [a] H H'→LnAt H' a n→Q v H'
theorem qI {H H':Hp} {a:Addr} {n:Ln} {v:V} {Q:VK} (q:km H a n v Q) (k:Kp [a] H H') (h:Kp [a] H H'→LnAt H' a n):Q v H':=q H' k (h k)
local macro_rules | `(tactic| wtm_at "kp")=>`(tactic| first
 | with_reducible assumption
 | with_reducible exact Kp.refl _ _
 | ((with_reducible refine Kp.upd (x := ?x) ?a ?b ?c ?d);(case b=>simp);(case c=>wtm_at "hA");(case d=>exact fun z=>z);(case a=>wtm_at "kp"))
 | ((with_reducible refine Kp.new ?a ?b);(case b=>with_reducible assumption);(case a=>wtm_at "kp")))
local macro_rules | `(tactic| wtm_at "dv")=>`(tactic| first | exact xh | exact xi | exact vA | exact zJ | exact zK | exact xj | exact zL | exact zM | exact zN | exact xk | exact zO | exact xl | exact Ci)
local macro_rules | `(tactic| wtm_at "dp")=>`(tactic| first | exact xm | exact xn | exact vB | exact zP | exact zQ | exact xo | exact zR | exact zS | exact zT | exact xp | exact zU | exact xq | exact Cj)
abbrev oI:Stmt:=(top 63)
abbrev mI (K:PySem.W.Frag) (c:Cs):Sp:=sp1 fun u H Q _=>∃ (a:Addr) (n:Ln),u = .ref a∧LnAt H a n∧km H a n.start .non Q
theorem mJ:FnScope ["_law_node"] ["_law_node"] (ah oI):=aR
theorem ig (T:Txt K mg c):dm P w K mg base CX0 1 "_law_start" ["_law_node"] (mI K c):=by
 refine T.d__law_start.ok mJ (fun _ _ _ _ _ _ us hl=>match us,hl with | [_],_=>rfl) gB (fun f cdv A outer s H vs Q E hr h => ?_)
 obtain ⟨v0,rfl,h⟩:=h
 refine ⟨_,(ag (aP (aI hr) (pv 0) am am rfl)
   (ag (aP (aI hr) (pv 0) am uR rfl)
   (ag (aP (aI hr) (pv 0) am af rfl)
   (ag (aP (aI hr) (pv 0) am af rfl)
   (ag (aP (aI hr) (pv 0) am af rfl)
   (ag (aP (aI hr) (pv 0) am (lI gE af) rfl)
   (ad (aP (aI hr) (pv 0) am cc rfl)))))))),?_⟩
 try dsimp only [br,Cx.nox,Cx.wish]
 refine ak (s2:=[some v0]) rfl ?_
 obtain ⟨a,n,rfl,⟨w,hh,p,k,sv,e0,fw,fh,ip,ik,es⟩,q⟩:=h
 wtm_at "wp"
 refine ⟨small (show 0≤1000 by decide),fun p2 hp2 => ?_⟩
 refine bQ ac (fun o => ?_)
 rw [da]
 wtm_at "wp"
 exact qI q (by wtm_at "kp") fun kk=>⟨w,hh,p2,k,.non,ac,fw.kp kk,fh.kp kk,⟨o,(by wtm_at "hA" : At _ p2 (.frz o (.lst [])))⟩,ik.kp kk,rfl⟩
abbrev oJ:Stmt:=(top 65)
abbrev dU (K:PySem.W.Frag) (c:Cs):Sp:=sp1 fun u H Q _=>∃ (a:Addr) (n:Ln),u = .ref a∧LnAt H a n∧km H a n.cries .non Q
theorem mK:FnScope ["_law_node"] ["_law_node"] (ah oJ):=aR
theorem dW (T:Txt K mg c):dm P w K mg base CX0 1 "_law_cries" ["_law_node"] (dU K c):=by
 refine T.d__law_cries.ok mK (fun _ _ _ _ _ _ us hl=>match us,hl with | [_],_=>rfl) gB (fun f cdv A outer s H vs Q E hr h => ?_)
 obtain ⟨v0,rfl,h⟩:=h
 refine ⟨_,(ag (aP (aI hr) (pv 0) am (ap aY (aA (aI hr) (pv 0) am (fun _ _=>rfl)) af) rfl)
   (ag (aP (aI hr) (pv 0) am am rfl)
   (ag (aP (aI hr) (pv 0) am af rfl)
   (ad (aP (aI hr) (pv 0) am cc rfl))))),?_⟩
 try dsimp only [br,Cx.nox,Cx.wish]
 refine ak (s2:=[some v0]) rfl ?_
 obtain ⟨a,n,rfl,⟨w,hh,p,k,sv,e0,fw,fh,ip,ik,es⟩,q⟩:=h
 wtm_at "wp"
 exact qI q (by wtm_at "kp") fun kk=>⟨w,hh,p,k,.non,ac,fw.kp kk,fh.kp kk,ip.kp kk,ik.kp kk,rfl⟩
abbrev qJ:Stmt:=(top 67)
abbrev i8 (K:PySem.W.Frag) (c:Cs):Sp:=sp1 fun v H Q _=>∃ (a:Addr) (ps:List Int),v = .ref a∧SqL K H a (ps.map V.int)∧ps.length≤800∧Q (.int (Ln.bodyOf ps)) H
theorem sc__law_body:FnScope ["_law_plain", "_law_length", "_law_k"] ["_law_plain"] (ah qJ):=aR
theorem i9 (T:Txt K mg c):dm P w K mg base CX0 1 "_law_body" ["_law_plain"] (i8 K c):=by
 refine T.d__law_body.ok sc__law_body (fun _ _ _ _ _ _ us hl=>match us,hl with | [_],_=>rfl) gB (fun f cdv A outer s H vs Q E hr h => ?_)
 obtain ⟨v0,rfl,h⟩:=h
 refine ⟨_,(ag (aD (i:=1) sc__law_body.nd rfl (.inl rfl) af)
   (ag (bL PassesOwn.never rfl (tI rfl T.range (aa af (aa af ae))) (bc (i:=2) sc__law_body.nd rfl (.inl rfl))
    (ad (aD (i:=1) sc__law_body.nd rfl (.inl rfl) (ap aY (ap cG af (pv 1)) (jr (ai gF (pv 2) (aw (aq (K:=K)) rfl T.len PySem.boot_len (aa (pv 0) ae)) (ao _)) (bh (aK (K:=K)) (pv 0) (pv 2) (fun _ _=>rfl)) af)))))
   (ad (aC (ap aY af (ap cG af (pv 1))))))),?_⟩
 try dsimp only [br,Cx.nox,Cx.wish]
 refine ak (s2:=[some v0,none,none]) rfl ?_
 obtain ⟨a,ps,rfl,hS,hl,q⟩:=h
 have lr:(ps.map V.int).length=ps.length:=List.length_map _
 wtm_at "wp"
 refine xr ?_
 wtm_at "wp"
 refine vC 4 (fun i σ H2=>H2=H∧∃ v:Option V,σ=[some (.ref a),some (.int (vc ps i)),v]) rfl (by decide) ⟨rfl,none,rfl⟩ ?_ ?_
 ·rintro i σ H2 hi ⟨rfl,v,rfl⟩
  wtm_at "wp"
  rw [lr]
  refine ax (fun c1 => ?_) (fun c1 => ?_)
  ·wtm_at "wp"
   refine bf hS (show atI _ (12+(i:Int))=some (.int (ps.getD (12+i) 0)) by rw [show (12:Int)+i=((12+i:Nat):Int) by omega];exact cx (by omega)) ?_
   wtm_at "wp"
   exact ⟨rfl,_,by rw [c9]⟩
  ·wtm_at "wp"
   have:ps.getD (12+i) 0=0:=dw (by omega)
   exact ⟨rfl,_,by rw [c9,this]⟩
 ·rintro σ H2 ⟨rfl,v,rfl⟩
  rw [vd]
  wtm_at "wp"
  exact q
abbrev qK:Stmt:=(top 64)
abbrev oK (K:PySem.W.Frag) (c:Cs):Sp:=sp1 fun u H Q _=>∃ (a:Addr) (n:Ln),u = .ref a∧LnAt H a n∧(∀ f∈n.waits,f.2.length≤20)∧(∀ s,n.mode = .frame→n.tail < 0→n.sends=some s→n.many < s.length)∧km H a n.puts (.int n.puts.put) Q
theorem oM:FnScope ["_law_node"] ["_law_node"] (ah qK):=aR
theorem oN (T:Txt K mg c):dm P w K mg base CX0 4 "_law_puts" ["_law_node"] (oK K c):=by
 refine T.d__law_puts.ok oM (fun _ _ _ _ _ _ us hl=>match us,hl with | [_],_=>rfl) gB (fun f cdv A outer s H vs Q E hr h => ?_)
 obtain ⟨v0,rfl,h⟩:=h
 refine ⟨_,(ag (aP (aI hr) (pv 0) am af rfl)
   (ag (aQ (ai bg (aA (aI hr) (pv 0) am (fun _ _=>rfl)) am (ao _))
    (ad (aP (aI hr) (pv 0) am af rfl))
    (ad (aQ (PW.pt (bZ (ai bg (aA (aI hr) (pv 0) am (fun _ _=>rfl)) am (ao _)) (bK (lV (K:=K) (aA (aI hr) (pv 0) am (fun _ _=>rfl)) (fun _=>rfl)))))
     (ag (aH (bV (ig T) hr ay (aa (pv 0) ae)))
     (ag (aP (aI hr) (pv 0) am (dY (bV (kl T) hr ay (aa (bV (oG T) hr ay (aa (bh (bR (K:=K)) (bh (aK (K:=K)) (aA (aI hr) (pv 0) am (fun _ _=>rfl)) af (fun _ _=>rfl)) af (fun _ _=>rfl)) (aa (bh (bR (K:=K)) (bh (aK (K:=K)) (aA (aI hr) (pv 0) am (fun _ _=>rfl)) af (fun _ _=>rfl)) af (fun _ _=>rfl)) ae))) ae))) rfl)
     (ad (aP (aI hr) (pv 0) am af rfl))))
     (ad (aQ (PW.pt (bZ (ai bg (aA (aI hr) (pv 0) am (fun _ _=>rfl)) am (ao _)) (bZ (ai gF (aA (aI hr) (pv 0) am (fun _ _=>rfl)) af (ao _)) (bK (ai gK (aA (aI hr) (pv 0) am (fun _ _=>rfl)) cc (ao _))))))
      (ad (aP (aI hr) (pv 0) am (bh (aK (K:=K)) (aA (aI hr) (pv 0) am (fun _ _=>rfl)) (aA (aI hr) (pv 0) am (fun _ _=>rfl)) (fun _ _=>rfl)) rfl))
      (ad (aQ (PW.pt (bZ (ai bg (aA (aI hr) (pv 0) am (fun _ _=>rfl)) am (ao _)) (bZ (ai bg (aA (aI hr) (pv 0) am (fun _ _=>rfl)) af (ao _)) (bK (ai iw (aA (aI hr) (pv 0) am (fun _ _=>rfl)) cc (ao _))))))
       (ad (aP (aI hr) (pv 0) am af rfl))
       az)))))))
   (ad (aC (aA (aI hr) (pv 0) am (fun _ _=>rfl)))))),?_⟩
 try dsimp only [br,Cx.nox,Cx.wish]
 refine ak (s2:=[some v0]) rfl ?_
 obtain ⟨a,n,rfl,⟨w,hh,p,k,sv,e0,fw,fh,ip,ik,es⟩,hg,hx,q⟩:=h
 have k1:Kp [a] H (upd H a (.dK (lnF (.ref w) (.ref hh) (.int n.faults) (.str n.mode.str) (.int n.left) (.ref p) (.int n.like) (.int n.last) (.int (n.many:Nat)) (.ref k) (.int n.tail) sv (.int 1)))):=Kp.upd (Kp.refl _ _) (by simp) e0 (fun z=>z)
 wtm_at "wp"
 have e1:At (upd H a (.dK (lnF (.ref w) (.ref hh) (.int n.faults) (.str n.mode.str) (.int n.left) (.ref p) (.int n.like) (.int n.last) (.int (n.many:Nat)) (.ref k) (.int n.tail) sv (.int 1)))) a _:=ac
 generalize upd H a (.dK (lnF (.ref w) (.ref hh) (.int n.faults) (.str n.mode.str) (.int n.left) (.ref p) (.int n.like) (.int n.last) (.int (n.many:Nat)) (.ref k) (.int n.tail) sv (.int 1)))=H1 at *
 have L1:LnAt H1 a {n with put:=1}:=⟨w,hh,p,k,sv,e1,fw.kp k1,fh.kp k1,ip.kp k1,ik.kp k1,es.kp k1⟩
 refine ax (fun c1 => ?_) (fun c1 => ?_)
 ·have hm:n.mode = .cry:=md_inj.mp c1
  rw [rR hm] at q
  wtm_at "wp"
  exact qI q (by wtm_at "kp") fun kk=>⟨w,hh,p,k,sv,ac,fw.kp kk,fh.kp kk,ip.kp kk,ik.kp kk,es.kp kk⟩
 wtm_at "wp"
 refine ax (fun c2 => ?_) (fun c2 => ?_)
 ·have hm:n.mode = .free:=md_inj.mp c2
  obtain ⟨vs,o1,ew,fr⟩:=fw
  have ew1:=k1.frz ew
  have fr1:Frs H1 vs n.waits:=fr.kp k1
  wtm_at "wp"
  cases hw:n.waits with
  | nil=>
   rw [hw] at fr1
   cases fr1
   refine xA ?_
   rw [lA hm hw] at q
   wtm_at "wp"
   refine ax (fun c3=>absurd (hm.symm.trans (jy c3)) (by decide)) (fun c3 => ?_)
   wtm_at "wp"
   refine ax (fun c4=>absurd (hm.symm.trans (jy c4)) (by decide)) (fun c4 => ?_)
   wtm_at "wp"
   exact q H1 k1 L1
  | cons f fq=>
   rw [hw] at fr1
   rw [lB hm hw] at q
   cases fr1 with
   | cons hf hrest=>
    rename_i v vr
    obtain ⟨t,r,o,rfl,et,er⟩:=hf
    refine tq ?_
    wtm_at "wp"
    refine ⟨a,_,rfl,L1,fun H2 k2 L2 => ?_⟩
    obtain ⟨w2,hh2,p2,kk2,sv2,e2,⟨vs2,o2,ew2,fr2⟩,fh2,ip2,ik2,es2⟩:=L2
    have fr2:Frs H2 vs2 n.waits:=fr2
    rw [hw] at fr2
    cases fr2 with
    | cons hf2 hrest2=>
     obtain ⟨t2,r2,o3,rfl,et2,er2⟩:=hf2
     wtm_at "wp"
     refine bf (At.sqF ew2) jx ?_
     wtm_at "wp"
     refine bf (At.sqF ew2) jx ?_
     wtm_at "wp"
     have g20:f.2.length≤20:=hg f (by rw [hw];exact List.mem_cons_self)
     have bl:=dA f.1 f.2
     refine ⟨r2,f.1,f.2,rfl,rfl,At.sqF er2,g20,fun b3 H3 s3 fb3 eb3 => ?_⟩
     wtm_at "wp"
     refine ⟨b3,aW f.1 f.2,rfl,At.sqL eb3,dO _ _,by omega,fun w4 H4 s4 fw4 ew4 => ?_⟩
     refine bQ ew4 (fun o4 => ?_)
     have e4:=s4.get (s3.get e2)
     have kA:Kp [a] H H4:=(k1.trans k2).trans ((Same.kp s3).trans (Same.kp s4))
     have f4:aS H w4:=((k1.trans k2).trans (Same.kp s3)).fr1 (s3.get e2) fw4
     have kB:=kA.upF (o := .frz o4 (.lst ((aT (aW f.1 f.2)).map V.int))) f4
     have e5:At (upd H4 w4 (.frz o4 (.lst ((aT (aW f.1 f.2)).map V.int)))) a _:=aG (aB e2 (s3.fr fw4)) e4
     have ew5:At (upd H4 w4 (.frz o4 (.lst ((aT (aW f.1 f.2)).map V.int)))) w4 _:=ac
     have k25:Kp [a] H2 (upd H4 w4 (.frz o4 (.lst ((aT (aW f.1 f.2)).map V.int)))):=Kp.upF ((Same.kp s3).trans (Same.kp s4)) (s3.fr fw4)
     generalize upd H4 w4 (.frz o4 (.lst ((aT (aW f.1 f.2)).map V.int)))=H5 at *
     wtm_at "wp"
     have kp2:∀ d1 d2:List (Key×V),Kp [a] H2 (upd (upd H5 a (.dK d1)) a (.dK d2)):=fun d1 d2=>Kp.upd (Kp.upd k25 (by simp) e5 (fun z=>z)) (by simp) ac (fun z=>z)
     have na:w4≠a:=(aB e2 (s3.fr fw4)).symm
     have fw6:FL H2 w2 n.waits:=by rw [hw];exact ⟨_,o2,ew2,.cons ⟨t2,r2,o3,rfl,et2,er2⟩ hrest2⟩
     exact qI q (by wtm_at "kp") fun kk=>⟨w2,hh2,p2,kk2,.ref w4,ac,fw6.kp (kp2 _ _),fh2.kp (kp2 _ _),ip2.kp (kp2 _ _),ik2.kp (kp2 _ _),⟨w4,o4,rfl,aG na (aG na ew5)⟩⟩
 wtm_at "wp"
 refine ax (fun c3 => ?_) (fun c3 => ?_)
 ·have hm:n.mode = .frame:=jy c3
  rw [lC hm] at q
  have qv:∀ z:Int,z=(if n.tail < 0 then (match n.sends with | none=>1 | some s=>s.getD n.many 0) else if n.tail=1∧n.sends=none then 0 else 1)→km H a {n with put:=z} (.int z) Q:=fun z hz=>by subst hz;exact q
  clear q
  wtm_at "wp"
  refine ax (fun c4 => ?_) (fun c4 => ?_)
  ·cases hs:n.sends with
   | none=>
    have es0:=es
    rw [hs] at es0
    cases es0
    wtm_at "wp"
    rw [decide_eq_true c3]
    wtm_at "wp"
    refine ax (fun c5=>absurd c5 (by omega)) (fun c5 => ?_)
    wtm_at "wp"
    exact qv 1 (by rw [if_pos c4,hs]) H1 k1 L1
   | some s=>
    have es0:=es
    rw [hs] at es0
    obtain ⟨sa,so,rfl,esa⟩:=es0
    have esa1:=k1.frz esa
    wtm_at "wp"
    refine bf (At.sqF esa1) (cx (hx s hm c4 hs)) ?_
    wtm_at "wp"
    exact qI (qv _ (by rw [if_pos c4,hs])) (by wtm_at "kp") fun kk=>⟨w,hh,p,k,.ref sa,ac,fw.kp kk,fh.kp kk,ip.kp kk,ik.kp kk,(es.kp kk)⟩
  ·wtm_at "wp"
   rw [decide_eq_true c3]
   wtm_at "wp"
   refine ax (fun c5 => ?_) (fun c5 => ?_)
   ·cases hs:n.sends with
    | none=>
     have es0:=es
     rw [hs] at es0
     cases es0
     wtm_at "wp"
     exact qI (qv 0 (by rw [if_neg c4,if_pos ⟨c5,hs⟩])) (by wtm_at "kp") fun kk=>⟨w,hh,p,k,.non,ac,fw.kp kk,fh.kp kk,ip.kp kk,ik.kp kk,(es.kp kk)⟩
    | some s=>
     have es0:=es
     rw [hs] at es0
     obtain ⟨sa,so,rfl,esa⟩:=es0
     wtm_at "wp"
     exact qv 1 (by rw [if_neg c4,if_neg (fun z=>by rw [hs] at z;cases z.2)]) H1 k1 L1
   ·wtm_at "wp"
    exact qv 1 (by rw [if_neg c4,if_neg (fun z=>c5 z.1)]) H1 k1 L1
 ·wtm_at "wp"
  rw [decide_eq_false c3]
  wtm_at "wp"
  have hdr:n.mode = .dazed∨n.mode = .rest:=by
   cases hm:n.mode with
   | cry=>exact absurd (md_inj.mpr hm) c1
   | free=>exact absurd (md_inj.mpr hm) c2
   | frame=>exact absurd (md_inj.mpr hm) c3
   | dazed=>exact .inl rfl
   | rest=>exact .inr rfl
  have e:n.puts={n with put:=1}:=hdr.elim lz nV
  rw [e] at q
  exact q H1 k1 L1
abbrev qL:Stmt:=(top 68)
abbrev ja (K:PySem.W.Frag) (c:Cs):Sp:=sp1 fun u H Q _=>∃ (a:Addr) (n:Ln),u = .ref a∧LnAt H a n∧n.plain≠[]∧Bits n.plain∧n.plain.length≤400∧(¬ (n.plain.getD 0 0≠0∨Ln.bodyOf n.plain > 80)→Ln.bodyOf n.plain < n.plain.length→((n.plain.length:Int) - Ln.bodyOf n.plain - 1).toNat < n.laid.check.length)∧km H a n.laid (.bl n.fits) Q
theorem sc__law_fits:FnScope ["_law_node", "_law_plain", "_law_body_here"] ["_law_node"] (ah qL):=aR
theorem oO (T:Txt K mg c):dm P w K mg base CX0 3 "_law_fits" ["_law_node"] (ja K c):=by
 refine T.d__law_fits.ok sc__law_fits (fun _ _ _ _ _ _ us hl=>match us,hl with | [_],_=>rfl) gB (fun f cdv A outer s H vs Q E hr h => ?_)
 obtain ⟨v0,rfl,h⟩:=h
 refine ⟨_,(ag (aD (i:=1) sc__law_fits.nd rfl (.inl rfl) (aA (aI hr) (pv 0) am (fun _ _=>rfl)))
   (ag (aD (i:=2) sc__law_fits.nd rfl (.inl rfl) (bV (i9 T) hr ay (aa (pv 1) ae)))
   (ag (aQ (PW.pt (dZ (ai io (bh (aK (K:=K)) (pv 1) af (fun _ _=>rfl)) af (ao _)) (cS (ai mR (pv 2) af (ao _)))))
    (ad (aC ij))
    az)
   (ag (aQ (ai bg (aw (aq (K:=K)) rfl T.len PySem.boot_len (aa (pv 1) ae)) (pv 2) (ao _))
    (ad (aP (aI hr) (pv 0) am (dY (bV (ic T) hr ay (aa (pv 1) ae))) rfl))
    az)
   (ad (aC (CL (bM jB (aw (aq (K:=K)) rfl T.len PySem.boot_len (aa (pv 1) ae)) (pv 2) (ao _)) (jz (bM bg (bh (aK (K:=K)) (pv 1) (lI gE af) (fun _ _=>rfl)) (bh (aK (K:=K)) (aA (aI hr) (pv 0) am (fun _ _=>rfl)) (ap dn (ap dn (aw (aq (K:=K)) rfl T.len PySem.boot_len (aa (pv 1) ae)) (pv 2)) af) (fun _ _=>rfl)) (ao _)))))))))),?_⟩
 try dsimp only [br,Cx.nox,Cx.wish]
 refine ak (s2:=[some v0,none,none]) rfl ?_
 obtain ⟨a,n,rfl,L0,hne,hb,hl,hx,q⟩:=h
 obtain ⟨w,hh,p,k,sv,e0,fw,fh,⟨op,ep⟩,ik,es⟩:=id L0
 have lr:(n.plain.map V.int).length=n.plain.length:=List.length_map _
 have npa:p≠a:=ep.ne e0 (by intro z;cases z)
 wtm_at "wp"
 refine ⟨p,n.plain,rfl,At.sqF ep,by omega,?_⟩
 wtm_at "wp"
 refine bf (At.sqF ep) (show atI _ 0=some (.int (n.plain.getD 0 0)) from cx (j:=0) (List.length_pos_iff.mpr hne)) ?_
 wtm_at "wp"
 have qno:(n.plain.getD 0 0≠0∨Ln.bodyOf n.plain > 80)→Q (.bl false) H:=fun g=>by
  have e1:n.laid=n:=by unfold Ln.laid;rw [if_pos g]
  have e2:n.fits=false:=by unfold Ln.fits;rw [if_pos g]
  rw [e1,e2] at q
  exact q H (Kp.refl _ _) L0
 refine bP (fun c0 => ?_) (fun c0 => ?_)
 ·wtm_at "wp"
  exact qno (.inl c0)
 wtm_at "wp"
 refine ax (fun c1 => ?_) (fun c1 => ?_)
 ·wtm_at "wp"
  exact qno (.inr c1)
 have g:¬ (n.plain.getD 0 0≠0∨Ln.bodyOf n.plain > 80):=fun z=>z.elim (fun z=>z c0) (fun z=>c1 z)
 wtm_at "wp"
 rw [lr]
 refine ax (fun c2 => ?_) (fun c2 => ?_)
 ·wtm_at "wp"
  refine ⟨p,n.plain,rfl,At.sqF ep,hb,by omega,fun r H3 s3 fr er => ?_⟩
  refine bQ er (fun o => ?_)
  have e1:n.laid={n with check:=chk n.plain}:=by unfold Ln.laid;rw [if_neg g,if_pos c2]
  have e2:n.fits=true:=by unfold Ln.fits;rw [if_neg g,decide_eq_true (show (n.plain.length:Int)≤Ln.bodyOf n.plain by omega),Bool.true_or]
  rw [e1,e2] at q
  have na:a≠r:=aB e0 fr
  have eA:At (upd H3 r (.frz o (.lst ((chk n.plain).map V.int)))) a _:=aG na (s3.get e0)
  have kA:Kp [a] H (upd H3 r (.frz o (.lst ((chk n.plain).map V.int)))):=Kp.upF (Same.kp s3) fr
  have eR:At (upd H3 r (.frz o (.lst ((chk n.plain).map V.int)))) r (.frz o (.lst ((chk n.plain).map V.int))):=ac
  have epA:=kA.frz ep
  generalize upd H3 r (.frz o (.lst ((chk n.plain).map V.int)))=H4 at *
  wtm_at "wp"
  rw [lr,decide_eq_true (show (n.plain.length:Int)≤Ln.bodyOf n.plain by omega)]
  wtm_at "wp"
  exact qI q (by wtm_at "kp") fun kk=>⟨w,hh,p,r,sv,ac,fw.kp kk,fh.kp kk,⟨op,kk.frz ep⟩,⟨o,aG na.symm eR⟩,es.kp kk⟩
 ·have e1:n.laid=n:=by unfold Ln.laid;rw [if_neg g,if_neg c2]
  wtm_at "wp"
  rw [lr]
  by_cases c3:(n.plain.length:Int)≤Ln.bodyOf n.plain
  ·have e2:n.fits=true:=by unfold Ln.fits;rw [if_neg g,decide_eq_true c3,Bool.true_or]
   rw [e1,e2] at q
   rw [decide_eq_true c3]
   wtm_at "wp"
   exact q H (Kp.refl _ _) L0
  ·have e2:n.fits=decide (n.plain.getLastD 0=n.check.getD ((n.plain.length:Int) - Ln.bodyOf n.plain - 1).toNat 0):=by unfold Ln.fits;rw [if_neg g,decide_eq_false c3,Bool.false_or,e1]
   have hi:=hx g (by omega)
   rw [e1] at hi
   rw [e1,e2] at q
   rw [decide_eq_false c3]
   obtain ⟨ok,ek⟩:=ik
   wtm_at "wp"
   refine bf (At.sqF ep) (jX hne) ?_
   wtm_at "wp"
   rw [lr]
   refine bf (At.sqF ek) (show atI _ ((n.plain.length:Int) - Ln.bodyOf n.plain - 1)=_ by rw [show (n.plain.length:Int) - Ln.bodyOf n.plain - 1=((((n.plain.length:Int) - Ln.bodyOf n.plain - 1).toNat:Nat):Int) by omega];exact cx hi) ?_
   wtm_at "wp"
   exact q H (Kp.refl _ _) L0
abbrev jo:Stmt:=(top 66)
abbrev iQ (K:PySem.W.Frag) (c:Cs):Sp:=sp2 fun u v H Q _=>∃ (a:Addr) (n:Ln) (b:Int),u = .ref a∧v = .int b∧LnAt H a n∧n.plain.length≤300∧(∀ m,n.meets b=some m→(m.takes b).plain≠[]∧Bits (m.takes b).plain∧(m.takes b).plain.length≤400∧(¬ ((m.takes b).plain.getD 0 0≠0∨Ln.bodyOf (m.takes b).plain > 80)→Ln.bodyOf (m.takes b).plain < (m.takes b).plain.length→(((m.takes b).plain.length:Int) - Ln.bodyOf (m.takes b).plain - 1).toNat < (m.takes b).laid.check.length))∧km H a (n.frameBit b) .non Q
theorem sc__law_frame_bit:FnScope ["_law_node", "_law_bit", "_law_like", "_law_wrong"] ["_law_node", "_law_bit"] (ah jo):=aR
theorem iR (T:Txt K mg c):dm P w K mg base CX0 4 "_law_frame_bit" ["_law_node", "_law_bit"] (iQ K c):=by
 refine T.d__law_frame_bit.ok sc__law_frame_bit (fun _ _ _ _ _ _ us hl=>match us,hl with | [_,_],_=>rfl) fj (fun f cdv A outer s H vs Q E hr h => ?_)
 obtain ⟨v0,v1,rfl,h⟩:=h
 refine ⟨_,(ag (aD (i:=2) sc__law_frame_bit.nd rfl (.inl rfl) (aA (aI hr) (pv 0) am (fun _ _=>rfl)))
   (aZ (aQ (PW.pt (bZ (ai gK (aA (aI hr) (pv 0) am (fun _ _=>rfl)) cc (ao _)) (bK (ai io (pv 1) (aA (aI hr) (pv 0) am (fun _ _=>rfl)) (ao _)))))
    (ag (aQ (PW.pt (dZ (ai bg (pv 1) af (ao _)) (dZ (iU (qZ jB jB af (aw (aq (K:=K)) rfl T.len PySem.boot_len (aa (aA (aI hr) (pv 0) am (fun _ _=>rfl)) ae)) af)) (cS (ai bg (pv 2) af (ao _))))))
     (ag (aH (bV (dW T) hr ay (aa (pv 0) ae)))
     (ad tF))
     az)
    (ad (aP (aI hr) (pv 0) am cc rfl)))
    az)
   (ag (aD (i:=3) sc__law_frame_bit.nd rfl (.inl rfl) (jA (bM bg (pv 2) af (ao _)) (jz (bM bg (pv 1) (aA (aI hr) (pv 0) am (fun _ _=>rfl)) (ao _)))))
   (ag (aQ (ai bg (pv 2) af (ao _))
    (ad (aP (aI hr) (pv 0) am af rfl))
    (ag (aP (aI hr) (pv 0) am (jr (ai bg (pv 1) (aA (aI hr) (pv 0) am (fun _ _=>rfl)) (ao _)) (ap aY (pv 2) af) af) rfl)
    (ad (aP (aI hr) (pv 0) am (dY (ap (ge (K:=K)) (aA (aI hr) (pv 0) am (fun _ _=>rfl)) (bj (aa (pv 1) ae)))) rfl))))
   (ag (aP (aI hr) (pv 0) am (pv 1) rfl)
   (aZ (aP (aI hr) (pv 0) am (ap aY (aA (aI hr) (pv 0) am (fun _ _=>rfl)) af) rfl)
   (ad (aQ (PW.pt (dZ (cC (pv 3)) (cS (iU (cC (bV (oO T) hr ay (aa (pv 0) ae)))))))
    (ad (aH (bV (dW T) hr ay (aa (pv 0) ae))))
    (ad (aQ (PW.pt (bZ (ai bg (aw (aq (K:=K)) rfl T.len PySem.boot_len (aa (aA (aI hr) (pv 0) am (fun _ _=>rfl)) ae)) (ap aY (bV (i9 T) hr ay (aa (aA (aI hr) (pv 0) am (fun _ _=>rfl)) ae)) af) (ao _)) (bK (ai gF (aA (aI hr) (pv 0) am (fun _ _=>rfl)) af (ao _)))))
     (ad (aP (aI hr) (pv 0) am af rfl))
     az)))))))))),?_⟩
 try dsimp only [br,Cx.nox,Cx.wish]
 refine ak (s2:=[some v0,some v1,none,none]) rfl ?_
 obtain ⟨a,n,b,rfl,rfl,L0,hl,hx,q⟩:=h
 obtain ⟨w,hh,p,k,sv,e0,fw,fh,⟨op,ep⟩,ik,es⟩:=id L0
 have lr:(n.plain.map V.int).length=n.plain.length:=List.length_map _
 have npa:p≠a:=ep.ne e0 (by intro z;cases z)
 wtm_at "wp"
 refine bz (fun σ H2=>∃ m,n.meets b=some m∧m.like=n.like∧m.plain=n.plain∧σ=[some (.ref a),some (.int b),some (.int n.like),none]∧Kp [a] H H2∧LnAt H2 a m) ?_ ?_
 ·have go:n.meets b=some n→∃ m,n.meets b=some m∧m.like=n.like∧m.plain=n.plain∧[some (.ref a),some (.int b),some (.int n.like),none]=[some (.ref a),some (.int b),some (V.int n.like),none]∧Kp [a] H H∧LnAt H a m:=fun z=>⟨n,z,rfl,rfl,rfl,Kp.refl _ _,L0⟩
  wtm_at "wp"
  cases hs:n.sends with
  | none=>
   have es0:=es
   rw [hs] at es0
   cases es0
   wtm_at "wp"
   exact go (by unfold Ln.meets;rw [hs])
  | some s=>
   have es0:=es
   rw [hs] at es0
   obtain ⟨sa,so,rfl,esa⟩:=es0
   wtm_at "wp"
   refine bP (fun c1 => ?_) (fun c1 => ?_)
   rotate_left
   ·wtm_at "wp"
    exact go (by unfold Ln.meets;rw [hs];exact if_pos c1)
   have cry:(b=1∨¬ (1≤n.plain.length∧n.plain.length≤11)∨n.like=5)→km H a n.cries .non Q:=fun z=>by
    have e:n.frameBit b=n.cries:=by
     unfold Ln.frameBit Ln.meets
     rw [hs]
     dsimp only
     rw [if_neg c1,if_pos z]
    rw [e] at q
    exact q
   wtm_at "wp"
   have done:∀ H2,km H a n.cries .non Q→Kp [a] H H2→LnAt H2 a n.cries→Q .non H2:=fun H2 q k l=>q H2 k l
   refine ax (fun c2 => ?_) (fun c2 => ?_)
   ·wtm_at "wp"
    refine ⟨a,n,rfl,L0,fun H2 k2 L2 => ?_⟩
    wtm_at "wp"
    exact done H2 (cry (.inl c2)) k2 L2
   wtm_at "wp"
   rw [lr]
   have cried:(b=1∨¬ (1≤n.plain.length∧n.plain.length≤11)∨n.like=5)→∀ N:St→Hp→Prop,CM (tE (iq (dU K c) [] E0 (kr (iT 0) mO))) xX {nx:=N,rt:=Q} [some (.ref a),some (.int b),some (.int n.like),none] H:=fun z N=>by
    wtm_at "wp"
    refine ⟨a,n,rfl,L0,fun H2 k2 L2 => ?_⟩
    wtm_at "wp"
    exact done H2 (cry z) k2 L2
   refine ax (fun c3 => ?_) (fun c3 => ?_)
   ·wtm_at "wp"
    refine bP (fun c4 => ?_) (fun c4 => ?_)
    ·refine tq ?_
     exact cried (.inr (.inl fun z=>c4 (by omega))) _
    wtm_at "wp"
    refine ax (fun c5 => ?_) (fun c5 => ?_)
    ·exact cried (.inr (.inr c5)) _
    wtm_at "wp"
    refine ⟨{n with sends:=none},?_,rfl,rfl,rfl,by wtm_at "kp",?_⟩
    ·unfold Ln.meets
     rw [hs]
     dsimp only
     rw [if_neg c1,if_neg]
     rintro (z | z | z)
     ·exact c2 z
     ·exact z ⟨by omega,by omega⟩
     ·exact c5 z
    ·have kk:∀ d,Kp [a] H (upd H a (.dK d)):=fun d=>Kp.upd (Kp.refl _ _) (by simp) e0 (fun z=>z)
     exact ⟨w,hh,p,k,.non,ac,fw.kp (kk _),fh.kp (kk _),⟨op,(kk _).frz ep⟩,ik.kp (kk _),rfl⟩
   ·exact ⟨_,rfl,by rw [if_pos (show (!false)=true from rfl),if_pos rfl];exact cried (.inr (.inl fun z=>c3 (by omega))) _⟩
 rintro σ H2 ⟨m,hm,ml,mp,rfl,k2,L2⟩
 obtain ⟨w2,hh2,p2,k3,sv2,e2,fw2,fh2,⟨op2,ep2⟩,ik2,es2⟩:=id L2
 obtain ⟨hne,hbp,hlp,hix⟩:=hx m hm
 have np2:p2≠a:=ep2.ne e2 (by intro z;cases z)
 rw [← ml]
 have e2:At H2 a (.dK (lnF (.ref w2) (.ref hh2) (.int m.faults) (.str m.mode.str) (.int m.left) (.ref p2) (.int m.like) (.int m.last) (.int (m.many:Nat)) (.ref k3) (.int m.tail) sv2 (.int m.put))):=e2
 have close:∀ (H3:Hp),Kp [a] H H3→LnAt H3 a (m.takes b)→∃ z:Bool,[some (.ref a),some (.int b),some (V.int m.like),some (.bl (decide (m.like=5∧b=m.last)))]=[some (.ref a),some (.int b),some (V.int m.like),some (.bl z)]∧z=decide (m.like=5∧b=m.last)∧Kp [a] H H3∧LnAt H3 a (m.takes b):=fun H3 k l=>⟨_,rfl,rfl,k,l⟩
 have rest:∀ (σ:St) (H3:Hp),(∃ z:Bool,σ=[some (.ref a),some (.int b),some (V.int m.like),some (.bl z)]∧z=decide (m.like=5∧b=m.last)∧Kp [a] H H3∧LnAt H3 a (m.takes b))→An (tOr (tB (iT 3)) (CK (tB (iq (ja K c) [] E0 (kr (iT 0) mO))))) (tE (iq (dU K c) [] E0 (kr (iT 0) mO)))
   (An (Cu (pf (tOp rEq (tCB (pC K) (kr (uK (iT 0) (tC (V.str (Str.ofString "plain")))) mO)) (tOp (rI0 fun i j=>V.int (i+j)) (iq (i8 K c) [] E0 (kr (uK (iT 0) (tC (V.str (Str.ofString "plain")))) mO)) (tC (V.int 15))))) (pf (tOp (rI0 fun i j=>V.bl (decide (i < j))) (uK (iT 0) (tC (V.str (Str.ofString "like")))) (tC (V.int 5)))))
    (zj (iT 0) (tC (V.str (Str.ofString "tail"))) (tC (V.int 0))) xW) {nx:=fun _ H'=>Q .non H',rt:=Q} σ H3:=by
  rintro σ H3 ⟨z,rfl,hz,k3',L3⟩
  have fin:∀ (n':Ln) (H5:Hp),n.frameBit b=n'→Kp [a] H H5→LnAt H5 a n'→Q .non H5:=fun n' H5 e k l=>q H5 k (by rw [e];exact l)
  cases z with
  | true=>
   wtm_at "wp"
   refine ⟨a,_,rfl,L3,fun H4 k4 L4 => ?_⟩
   wtm_at "wp"
   exact fin _ H4 (by unfold Ln.frameBit;rw [hm];dsimp only;rw [if_pos (of_decide_eq_true hz.symm)]) (k3'.trans k4) L4
  | false=>
   have hz':=of_decide_eq_false hz.symm
   wtm_at "wp"
   refine ⟨a,_,rfl,L3,hne,hbp,hlp,hix,fun H4 k4 L4 => ?_⟩
   have fe:(m.takes b).fits=true→n.frameBit b=if ((m.takes b).laid.plain.length:Int)=Ln.bodyOf (m.takes b).laid.plain+15∧(m.takes b).laid.like < 5 then {(m.takes b).laid with tail:=0} else (m.takes b).laid:=fun hf=>by
    unfold Ln.frameBit;rw [hm];dsimp only;rw [if_neg hz',hf,if_neg (by decide)]
   cases hf:(m.takes b).fits with
   | false=>
    wtm_at "wp"
    refine ⟨a,_,rfl,L4,fun H5 k5 L5 => ?_⟩
    wtm_at "wp"
    exact fin _ H5 (by unfold Ln.frameBit;rw [hm];dsimp only;rw [if_neg hz',hf,if_pos rfl]) ((k3'.trans k4).trans k5) L5
   | true=>
    have fe:=fe hf
    have lpl:(m.takes b).laid.plain=(m.takes b).plain:=by unfold Ln.laid;split;rfl;split <;> rfl
    rw [← lpl] at hlp
    generalize (m.takes b).laid=t at *
    obtain ⟨w4,hh4,p4,kc4,sv4,e4,fw4,fh4,⟨op4,ep4⟩,ik4,es4⟩:=id L4
    have np4:p4≠a:=ep4.ne e4 (by intro z;cases z)
    have lt:(t.plain.map V.int).length=t.plain.length:=List.length_map _
    wtm_at "wp"
    refine ⟨p4,t.plain,rfl,At.sqF ep4,by omega,?_⟩
    wtm_at "wp"
    rw [lt]
    refine ax (fun c1 => ?_) (fun c1 => ?_)
    ·wtm_at "wp"
     refine ax (fun c2 => ?_) (fun c2 => ?_)
     ·wtm_at "wp"
      have kk:∀ d,Kp [a] H4 (upd H4 a (.dK d)):=fun d=>Kp.upd (Kp.refl _ _) (by simp) e4 (fun z=>z)
      exact fin {t with tail:=0} _ (by rw [fe,if_pos ⟨c1,c2⟩]) ((k3'.trans k4).trans (kk _)) ⟨w4,hh4,p4,kc4,sv4,ac,fw4.kp (kk _),fh4.kp (kk _),⟨op4,(kk _).frz ep4⟩,ik4.kp (kk _),es4.kp (kk _)⟩
     ·wtm_at "wp"
      exact fin t _ (by rw [fe,if_neg (fun z=>c2 z.2)]) (k3'.trans k4) L4
    ·wtm_at "wp"
     exact fin t _ (by rw [fe,if_neg (fun z=>c1 z.1)]) (k3'.trans k4) L4
 wtm_at "wp"
 by_cases c5:m.like=5
 ·rw [decide_eq_true c5]
  have et:m.takes b={m with like:=1,last:=b,many:=m.many+1}:=by unfold Ln.takes;rw [if_pos c5]
  wtm_at "wp"
  rw [decide_eq_true c5]
  wtm_at "wp"
  refine bz (fun σ H3=>∃ z:Bool,σ=[some (.ref a),some (.int b),some (V.int m.like),some (.bl z)]∧z=decide (m.like=5∧b=m.last)∧Kp [a] H H3∧LnAt H3 a (m.takes b)) ?_ rest
  wtm_at "wp"
  refine ⟨_,rfl,decide_eq_decide.mpr (show b=m.last↔(m.like=5∧b=m.last) from ⟨fun z=>⟨c5,z⟩,fun z=>z.2⟩),by wtm_at "kp",?_⟩
  rw [et]
  have kk:∀ d1 d2 d3,Kp [a] H2 (upd (upd (upd H2 a (.dK d1)) a (.dK d2)) a (.dK d3)):=fun d1 d2 d3=>Kp.upd (Kp.upd (Kp.upd (Kp.refl _ _) (by simp) e2 (fun z=>z)) (by simp) ac (fun z=>z)) (by simp) ac (fun z=>z)
  exact ⟨w2,hh2,p2,k3,sv2,ac,fw2.kp (kk _ _ _),fh2.kp (kk _ _ _),⟨op2,(kk _ _ _).frz ep2⟩,ik2.kp (kk _ _ _),es2.kp (kk _ _ _)⟩
 ·rw [decide_eq_false c5]
  have lp:(m.plain.map V.int).length=m.plain.length:=List.length_map _
  have hlm:m.plain.length≤300:=by rw [mp];exact hl
  have et:m.takes b={m with like:=if b=m.last then m.like+1 else 1,plain:=m.plain++[b],last:=b,many:=m.many+1}:=by unfold Ln.takes;rw [if_neg c5]
  wtm_at "wp"
  rw [decide_eq_false c5]
  wtm_at "wp"
  refine ax (fun c6 => ?_) (fun c6 => ?_)
  ·wtm_at "wp"
   obtain ⟨H3,hH3⟩:∃ H3,H3=upd H2 a (.dK (lnF (.ref w2) (.ref hh2) (.int m.faults) (.str m.mode.str) (.int m.left) (.ref p2) (.int (m.like+1)) (.int m.last) (.int (m.many:Nat)) (.ref k3) (.int m.tail) sv2 (.int m.put))):=⟨_,rfl⟩
   rw [← hH3]
   have kA:Kp [a] H2 H3:=by rw [hH3];exact Kp.upd (Kp.refl _ _) (by simp) e2 (fun z=>z)
   have eA:At H3 a (.dK (lnF (.ref w2) (.ref hh2) (.int m.faults) (.str m.mode.str) (.int m.left) (.ref p2) (.int (m.like+1)) (.int m.last) (.int (m.many:Nat)) (.ref k3) (.int m.tail) sv2 (.int m.put))):=by rw [hH3];exact ac
   clear hH3
   have epA:=kA.frz ep2
   refine ⟨small (show 1≤1000 by decide),fun q1 hq1 => ?_⟩
   refine dH (At.sqF (aE hq1 epA)) (At.sqL ac) (by rw [lp,List.length_singleton];omega) (fun q2 hq2 => ?_)
   refine bQ ac (fun o => ?_)
   rw [da]
   have nq:q2≠a:=(aB (aE hq1 eA) hq2).symm
   wtm_at "wp"
   refine bz (fun σ H3=>∃ z:Bool,σ=[some (.ref a),some (.int b),some (V.int m.like),some (.bl z)]∧z=decide (m.like=5∧b=m.last)∧Kp [a] H H3∧LnAt H3 a (m.takes b)) ?_ rest
   wtm_at "wp"
   have kB:∀ o1 o2 d1 d2 d3,Kp [a] H2 (upd (upd (upd (upd (upd H3 q1 o1) q2 o2) a (.dK d1)) a (.dK d2)) a (.dK d3)):=fun o1 o2 d1 d2 d3=>by
    have hq2':aS (upd H3 q1 o1) q2:=by
     have h0:upd H3 q1 (.lst [V.int b]) q2=none:=hq2
     have n12:q2≠q1:=fun z=>by rw [z,bA] at h0;cases h0
     show upd H3 q1 o1 q2=none
     rw [aX n12] at h0 ⊢
     exact h0
    exact Kp.upd (Kp.upd (Kp.upd (Kp.new (Kp.new kA hq1) hq2') (by simp) (aE hq2' (aE hq1 eA)) (fun z=>z)) (by simp) ac (fun z=>z)) (by simp) ac (fun z=>z)
   refine ⟨_,rfl,(decide_eq_false (fun z=>c5 z.1)).symm,k2.trans (kB _ _ _ _ _),?_⟩
   rw [et,if_pos c6]
   exact ⟨w2,hh2,q2,k3,sv2,ac,fw2.kp (kB _ _ _ _ _),fh2.kp (kB _ _ _ _ _),⟨o,aG nq (aG nq (aG nq (by rw [List.map_append];exact ac)))⟩,ik2.kp (kB _ _ _ _ _),es2.kp (kB _ _ _ _ _)⟩
  ·wtm_at "wp"
   obtain ⟨H3,hH3⟩:∃ H3,H3=upd H2 a (.dK (lnF (.ref w2) (.ref hh2) (.int m.faults) (.str m.mode.str) (.int m.left) (.ref p2) (.int 1) (.int m.last) (.int (m.many:Nat)) (.ref k3) (.int m.tail) sv2 (.int m.put))):=⟨_,rfl⟩
   rw [← hH3]
   have kA:Kp [a] H2 H3:=by rw [hH3];exact Kp.upd (Kp.refl _ _) (by simp) e2 (fun z=>z)
   have eA:At H3 a (.dK (lnF (.ref w2) (.ref hh2) (.int m.faults) (.str m.mode.str) (.int m.left) (.ref p2) (.int 1) (.int m.last) (.int (m.many:Nat)) (.ref k3) (.int m.tail) sv2 (.int m.put))):=by rw [hH3];exact ac
   clear hH3
   have epA:=kA.frz ep2
   refine ⟨small (show 1≤1000 by decide),fun q1 hq1 => ?_⟩
   refine dH (At.sqF (aE hq1 epA)) (At.sqL ac) (by rw [lp,List.length_singleton];omega) (fun q2 hq2 => ?_)
   refine bQ ac (fun o => ?_)
   rw [da]
   have nq:q2≠a:=(aB (aE hq1 eA) hq2).symm
   wtm_at "wp"
   refine bz (fun σ H3=>∃ z:Bool,σ=[some (.ref a),some (.int b),some (V.int m.like),some (.bl z)]∧z=decide (m.like=5∧b=m.last)∧Kp [a] H H3∧LnAt H3 a (m.takes b)) ?_ rest
   wtm_at "wp"
   have kB:∀ o1 o2 d1 d2 d3,Kp [a] H2 (upd (upd (upd (upd (upd H3 q1 o1) q2 o2) a (.dK d1)) a (.dK d2)) a (.dK d3)):=fun o1 o2 d1 d2 d3=>by
    have hq2':aS (upd H3 q1 o1) q2:=by
     have h0:upd H3 q1 (.lst [V.int b]) q2=none:=hq2
     have n12:q2≠q1:=fun z=>by rw [z,bA] at h0;cases h0
     show upd H3 q1 o1 q2=none
     rw [aX n12] at h0 ⊢
     exact h0
    exact Kp.upd (Kp.upd (Kp.upd (Kp.new (Kp.new kA hq1) hq2') (by simp) (aE hq2' (aE hq1 eA)) (fun z=>z)) (by simp) ac (fun z=>z)) (by simp) ac (fun z=>z)
   refine ⟨_,rfl,(decide_eq_false (fun z=>c5 z.1)).symm,k2.trans (kB _ _ _ _ _),?_⟩
   rw [et,if_neg c6]
   exact ⟨w2,hh2,q2,k3,sv2,ac,fw2.kp (kB _ _ _ _ _),fh2.kp (kB _ _ _ _ _),⟨o,aG nq (aG nq (aG nq (by rw [List.map_append];exact ac)))⟩,ik2.kp (kB _ _ _ _ _),es2.kp (kB _ _ _ _ _)⟩
theorem vD:∀ l:List Int,l.foldl (fun n b=>2 * n+b) 0=bG l:=fun l=>by
 unfold bG
 congr 1
 funext n b
 omega
def Ad (l:List Int):Int:=l.foldl (fun n b=>2 * n+b) 0
theorem oP {l:List Int} {i:Nat} {b:Int} (h:l[i]? = some b):Ad (l.take (i+1))=2 * Ad (l.take i)+b:=eE (f:=fun n b=>2 * n+b) (a:=(0:Int)) h
abbrev qM:Stmt:=(top 70)
abbrev oQ (K:PySem.W.Frag) (c:Cs):Sp:=sp1 fun u H Q _=>∃ (a:Addr) (ps:List Int),u = .ref a∧SqL K H a (ps.map V.int)∧Bits ps∧ps.length≤400∧ps.length=aU ps+15∧(∀ v H',Same H H'→FrAt H' v (aL ps,cg ps)→Q v H')
theorem sc__law_read:FnScope ["_law_plain", "_law_name", "_law_bit", "_law_row", "_law_k", "_law_byte"] ["_law_plain"] (ah qM):=aR
theorem jb (T:Txt K mg c):dm P w K mg base CX0 1 "_law_read" ["_law_plain"] (oQ K c):=by
 refine T.d__law_read.ok sc__law_read (fun _ _ _ _ _ _ us hl=>match us,hl with | [_],_=>rfl) gB (fun f cdv A outer s H vs Q E hr h => ?_)
 obtain ⟨v0,rfl,h⟩:=h
 refine ⟨_,(ag (aD (i:=1) sc__law_read.nd rfl (.inl rfl) af)
   (aZ (bL PassesOwn.never rfl (aV (K:=K) (bt (bv (K:=K)) (pv 0) (bo af) (bo af))) (bc (i:=2) sc__law_read.nd rfl (.inl rfl))
    (ad (aD (i:=1) sc__law_read.nd rfl (.inl rfl) (ap aY (ap cG af (pv 1)) (pv 2)))))
   (ag (aD (i:=3) sc__law_read.nd rfl (.inl rfl) (bj ae))
   (ag (bL PassesOwn.never rfl (bH rfl T.range (aa (ap cu (ap dn (aw (aq (K:=K)) rfl T.len PySem.boot_len (aa (pv 0) ae)) af) af) ae)) (bc (i:=4) sc__law_read.nd rfl (.inl rfl))
    (ag (aD (i:=5) sc__law_read.nd rfl (.inl rfl) af)
    (aZ (bL PassesOwn.never rfl (aV (K:=K) (bt (bv (K:=K)) (pv 0) (bo (ap aY af (ap cG af (pv 4)))) (bo (ap aY af (ap cG af (pv 4)))))) (bc (i:=2) sc__law_read.nd rfl (.inl rfl))
     (ad (aD (i:=5) sc__law_read.nd rfl (.inl rfl) (ap aY (ap cG af (pv 5)) (pv 2)))))
    (ad (aH (cr (K:=K) PySem.F.plainAttrs_list PySem.F.slot_list_append PySem.F.type_list_append bN (pv 3) (aa (pv 5) ae)))))))
   (uL (ad (aC (cH (aa (pv 1) (aa (pv 3) ae)))))))))),?_⟩
 try dsimp only [br,Cx.nox,Cx.wish]
 refine ak (s2:=[some v0,none,none,none,none,none]) rfl ?_
 obtain ⟨a,ps,rfl,hS,hb,hl,he,q⟩:=h
 have lr:(ps.map V.int).length=ps.length:=List.length_map _
 wtm_at "wp"
 refine bz (fun σ H2=>∃ v:Option V,σ=[some (.ref a),some (.int (aL ps)),v,none,none,none]∧Same H H2) ?_ ?_
 ·refine cw ?_
  wtm_at "wp"
  refine cK hS (show jF (ps.map V.int) (some 1) (some 12)=((ps.drop 1).take 11).map V.int from B2 ps 1 12) (fun p1 hp1 => ?_)
  have e1:At (upd H p1 (.lst (((ps.drop 1).take 11).map V.int))) p1 (.lst (((ps.drop 1).take 11).map V.int)):=ac
  have s1:Same H (upd H p1 (.lst (((ps.drop 1).take 11).map V.int))):=au hp1 _
  generalize upd H p1 (.lst (((ps.drop 1).take 11).map V.int))=H1 at *
  refine bW (fun i σ H2=>∃ v:Option V,σ=[some (.ref a),some (.int (Ad (((ps.drop 1).take 11).take i))),v,none,none,none]∧H2=H1) (At.sqL e1) ⟨none,rfl,rfl⟩ (fun i σ H2 _ ⟨_,_,e⟩=>e ▸ At.sqL e1) ?_ ?_
  ·rintro i y σ H2 hi ⟨v,rfl,rfl⟩
   obtain ⟨b,hb,rfl⟩:=ce hi
   have hn:=oP hb
   wtm_at "wp"
   refine ⟨some (.int b),?_,rfl⟩
   rw [hn]
  ·rintro σ H2 ⟨v,rfl,rfl⟩
   refine ⟨v,?_,s1⟩
   rw [List.take_of_length_le (by rw [List.length_map];exact Nat.le_refl _)]
   unfold Ad
   rw [vD]
   rfl
 rintro σ H1 ⟨v1,rfl,s1⟩
 wtm_at "wp"
 refine ⟨small (show 0≤1000 by decide),fun r hr0 => ?_⟩
 have fr:aS H r:=s1.fr hr0
 have s2:Same H (upd H1 r (.lst [])):=s1.new hr0
 have er:At (upd H1 r (.lst [])) r (.lst []):=ac
 generalize upd H1 r (.lst [])=H2 at *
 wtm_at "wp"
 refine dF ?_
 wtm_at "wp"
 rw [lr]
 have c0:=i4 hb
 have ec:(((ps.length:Int) - 31) / 8).toNat=(cnt ps).toNat:=by unfold aU at he;omega
 refine cW (cnt ps).toNat (fun i σ H3=>∃ (v4 v5 v6:Option V),σ=[some (.ref a),some (.int (aL ps)),v4,some (.ref r),v5,v6]∧Same H H3∧At H3 r (.lst (((List.range i).map fun j=>bG ((ps.drop (16+8 * j)).take 8)).map V.int))) ec (by omega) ⟨_,_,_,rfl,s2,er⟩ ?_ ?_
 ·clear s2 er
  rintro i σ H3 hi ⟨v4,v5,v6,rfl,s3,e3⟩
  wtm_at "wp"
  refine bz (fun σ H4=>∃ (v:Option V),σ=[some (.ref a),some (.int (aL ps)),v,some (.ref r),some (.int (i:Int)),some (.int (bG ((ps.drop (16+8 * i)).take 8)))]∧Same H3 H4) ?_ ?_
  ·refine cw ?_
   wtm_at "wp"
   refine cK (s3.seq hS) (show jF (ps.map V.int) (some (16+8 * (i:Int))) (some (24+8 * (i:Int)))=((ps.drop (16+8 * i)).take 8).map V.int by
    rw [show (16:Int)+8 * (i:Int)=((16+8 * i:Nat):Int) by omega,show (24:Int)+8 * (i:Int)=((24+8 * i:Nat):Int) by omega,B2]
    congr 2
    omega) (fun p1 hp1 => ?_)
   have e1:At (upd H3 p1 (.lst (((ps.drop (16+8 * i)).take 8).map V.int))) p1 (.lst (((ps.drop (16+8 * i)).take 8).map V.int)):=ac
   have s4:Same H3 (upd H3 p1 (.lst (((ps.drop (16+8 * i)).take 8).map V.int))):=au hp1 _
   generalize upd H3 p1 (.lst (((ps.drop (16+8 * i)).take 8).map V.int))=H4 at *
   refine bW (fun k σ H5=>∃ v:Option V,σ=[some (.ref a),some (.int (aL ps)),v,some (.ref r),some (.int (i:Int)),some (.int (Ad (((ps.drop (16+8 * i)).take 8).take k)))]∧H5=H4) (At.sqL e1) ⟨_,rfl,rfl⟩ (fun i σ H2 _ ⟨_,_,e⟩=>e ▸ At.sqL e1) ?_ ?_
   ·rintro k y σ H5 hi ⟨v,rfl,rfl⟩
    obtain ⟨b,hb,rfl⟩:=ce hi
    have hn:=oP hb
    wtm_at "wp"
    refine ⟨some (.int b),?_,rfl⟩
    rw [hn]
   ·rintro σ H5 ⟨v,rfl,rfl⟩
    refine ⟨v,?_,s4⟩
    rw [List.take_of_length_le (by rw [List.length_map];exact Nat.le_refl _)]
    unfold Ad
    rw [vD]
  rintro σ H4 ⟨v,rfl,s4⟩
  wtm_at "wp"
  refine bO (s4.get e3) (bu (by rw [List.length_map,List.length_map,List.length_range];unfold aU at he;omega)) ?_
  refine ⟨_,_,_,rfl,(s3.trans s4).upF fr,?_⟩
  rw [List.range_succ,List.map_append,List.map_append]
  exact ac
 ·rintro σ H3 ⟨v4,v5,v6,rfl,s3,e3⟩
  refine uM e3 (fun o => ?_)
  have s4:=s3.upF (o := .frz o (.lst (((List.range (cnt ps).toNat).map fun j=>bG ((ps.drop (16+8 * j)).take 8)).map V.int))) fr
  have e4:At (upd H3 r (.frz o (.lst (((List.range (cnt ps).toNat).map fun j=>bG ((ps.drop (16+8 * j)).take 8)).map V.int)))) r (.frz o (.lst ((cg ps).map V.int))):=ac
  generalize upd H3 r (.frz o (.lst (((List.range (cnt ps).toNat).map fun j=>bG ((ps.drop (16+8 * j)).take 8)).map V.int)))=H4 at *
  wtm_at "wp"
  refine ⟨small (show 2≤1000 by decide),fun t ht => ?_⟩
  wtm_at "wp"
  exact q _ _ (s4.new ht) ⟨t,r,o,rfl,ac,aE ht e4⟩
theorem xS {cn:TT} {t u:TS} {D:L2.Ends} {s:St} {H H1:Hp} (v:Bool) (h1:∀ R:Bool→Hp→Prop,R v H1→cn s H R) (h2:if v=true then t D s H1 else u D s H1):An cn t u D s H:=h1 _ h2
theorem LnAt.put {H:Hp} {a:Addr} {n:Ln} {d:List (Key×V)} (L:LnAt H a n):Kp [a] H (L2.upd H a (.dK d)):=by
 obtain ⟨w,h,p,k,sv,e,_⟩:=L.ex
 exact Kp.upd (Kp.refl _ _) (by simp) e (fun z=>z)
abbrev ko:Stmt:=(top 69)
abbrev jp (K:PySem.W.Frag) (c:Cs):Sp:=sp2 fun u v H Q _=>∃ (a:Addr) (n:Ln) (b:Int),u = .ref a∧v = .int b∧LnAt H a n∧Bits n.plain∧n.plain.length≤400∧n.plain.length=aU n.plain+15∧n.waits.length≤900∧n.heard.length≤4000∧(n.sends≠none→aL n.plain∈n.waits.map (·.1))∧km H a (n.tailBit b) .non Q
theorem sc__law_tail_bit:FnScope ["_law_node", "_law_bit", "_law_tail", "_law_spot"] ["_law_node", "_law_bit"] (ah ko):=aR
theorem jq (T:Txt K mg c):dm P w K mg base CX0 2 "_law_tail_bit" ["_law_node", "_law_bit"] (jp K c):=by
 refine T.d__law_tail_bit.ok sc__law_tail_bit (fun _ _ _ _ _ _ us hl=>match us,hl with | [_,_],_=>rfl) fj (fun f cdv A outer s H vs Q E hr h => ?_)
 obtain ⟨v0,v1,rfl,h⟩:=h
 refine ⟨_,(ag (aD (i:=2) sc__law_tail_bit.nd rfl (.inl rfl) (aA (aI hr) (pv 0) am (fun _ _=>rfl)))
   (aZ (aP (aI hr) (pv 0) am (ap aY (pv 2) af) rfl)
   (ad (aQ (PW.pt (dZ (PW.pt (bZ (ai bg (pv 1) af (ao _)) (bK (ai io (pv 2) af (ao _))))) (cS (PW.pt (bZ (ai bg (pv 1) af (ao _)) (bZ (ai bg (pv 2) af (ao _)) (bK (ai gK (aA (aI hr) (pv 0) am (fun _ _=>rfl)) cc (ao _)))))))))
    (ad (aH (bV (dW T) hr ay (aa (pv 0) ae))))
    (ad (aQ (ai bg (pv 2) af (ao _))
     (aZ (aQ (ai iw (aA (aI hr) (pv 0) am (fun _ _=>rfl)) cc (ao _))
      (ad (aP (aI hr) (pv 0) am (dY (ap (ge (K:=K)) (aA (aI hr) (pv 0) am (fun _ _=>rfl)) (bj (aa (bV (jb T) hr ay (aa (aA (aI hr) (pv 0) am (fun _ _=>rfl)) ae)) ae)))) rfl))
      (ag (aD (i:=3) sc__law_tail_bit.nd rfl (.inl rfl) (cr (K:=K) PySem.F.plainAttrs_list PySem.F.slot_list_index PySem.F.type_list_index (nI (K:=K)) (cP [] [] (aV (K:=K) (aA (aI hr) (pv 0) am (fun _ _=>rfl))) (fun fp s H=>(bh (bR (K:=K)) (pv 0) af (fun _ _=>rfl)))) (aa (bh (bR (K:=K)) (bV (jb T) hr ay (aa (aA (aI hr) (pv 0) am (fun _ _=>rfl)) ae)) af (fun _ _=>rfl)) ae)))
      (ad (aP (aI hr) (pv 0) am (dY (ap (ge (K:=K)) (bt (bv (K:=K)) (aA (aI hr) (pv 0) am (fun _ _=>rfl)) cO (bo (pv 3))) (bt (bv (K:=K)) (aA (aI hr) (pv 0) am (fun _ _=>rfl)) (bo (ap aY (pv 3) af)) cO))) rfl))))
     (ag (aP (aI hr) (pv 0) am cc rfl)
     (ag (aP (aI hr) (pv 0) am am rfl)
     (ad (aP (aI hr) (pv 0) am af rfl)))))
     az)))))),?_⟩
 try dsimp only [br,Cx.nox,Cx.wish]
 refine ak (s2:=[some v0,some v1,none,none]) rfl ?_
 obtain ⟨a,n,b,rfl,rfl,L0,hb,hl,he,hw,hhl,hx,q⟩:=h
 obtain ⟨w,hh,p,k,sv,e0,fw,fh,ip,ik,es⟩:=id L0
 wtm_at "wp"
 refine bz (fun σ H1=>σ=[some (.ref a),some (.int b),some (.int n.tail),none]∧Kp [a] H H1∧LnAt H1 a {n with tail:=n.tail+1}) ?_ ?_
 ·wtm_at "wp"
  have kk:=fun d=>L0.put (d:=d)
  exact ⟨rfl,kk _,w,hh,p,k,sv,ac,fw.kp (kk _),fh.kp (kk _),ip.kp (kk _),ik.kp (kk _),es.kp (kk _)⟩
 clear e0 fw fh ip ik es
 rintro σ H1 ⟨rfl,k1,L1⟩
 obtain ⟨w,hh,p,k,sv,e1,⟨wv,wo,ew,fw⟩,⟨hv,ho,eh,fh⟩,⟨po,ep⟩,ik,es⟩:=id L1
 have es':SnAt H1 sv n.sends:=es
 refine xS (H1:=H1) (decide ((b=0∧n.tail≠1)∨(b=1∧n.tail=1∧n.sends≠none))) (fun R r => ?_) ?_
 ·wtm_at "wp"
  refine ax (fun c1 => ?_) (fun c1 => ?_)
  ·wtm_at "wp"
   refine bP (fun c2 => ?_) (fun c2 => ?_)
   ·rw [decide_eq_true (.inl ⟨c1,c2⟩)] at r
    wtm_at "wp"
    exact r
   ·rw [decide_eq_false (by rintro (z | z);exact z.2 c2;omega)] at r
    wtm_at "wp"
    refine ax (fun c3=>by omega) (fun c3 => ?_)
    wtm_at "wp"
    exact r
  ·wtm_at "wp"
   refine ax (fun c3 => ?_) (fun c3 => ?_)
   ·wtm_at "wp"
    refine ax (fun c4 => ?_) (fun c4 => ?_)
    ·cases hs:n.sends with
     | none=>
      rw [decide_eq_false (by rintro (z | z);exact c1 z.1;exact z.2.2 hs)] at r
      rw [hs] at es'
      cases es'
      wtm_at "wp"
      exact r
     | some s=>
      rw [decide_eq_true (.inr ⟨c3,c4,by rw [hs];intro z;cases z⟩)] at r
      rw [hs] at es'
      obtain ⟨sa,so,rfl,esa⟩:=es'
      wtm_at "wp"
      exact r
    ·rw [decide_eq_false (by rintro (z | z);exact c1 z.1;exact c4 z.2.1)] at r
     wtm_at "wp"
     exact r
   ·rw [decide_eq_false (by rintro (z | z);exact c1 z.1;exact c3 z.1)] at r
    wtm_at "wp"
    exact r
 unfold Ln.tailBit at q
 refine ax (fun c1 => ?_) (fun c1 => ?_)
 ·rw [if_pos c1] at q
  wtm_at "wp"
  refine ⟨a,_,rfl,L1,fun H2 k2 L2 => ?_⟩
  wtm_at "wp"
  exact q H2 (k1.trans k2) L2
 rw [if_neg c1] at q
 wtm_at "wp"
 refine ax (fun c2 => ?_) (fun c2 => ?_)
 rotate_left
 ·rw [if_neg c2] at q
  wtm_at "wp"
  exact q H1 k1 L1
 rw [if_pos c2] at q
 refine bz (fun σ H2=>∃ (v:Option V) (w3 h3:Addr) (ws hs:List Fr),σ=[some (.ref a),some (.int b),some (.int n.tail),v]∧Kp [a] H1 H2∧At H2 a (.dK (lnF (.ref w3) (.ref h3) (.int n.faults) (.str n.mode.str) (.int n.left) (.ref p) (.int n.like) (.int n.last) (.int (n.many:Nat)) (.ref k) (.int (n.tail+1)) sv (.int n.put)))∧FL H2 w3 ws∧FL H2 h3 hs ∧
  ({n with tail:=n.tail+1}:Ln).ends={n with tail:=n.tail+1,waits:=ws,heard:=hs,sends:=none,mode := .rest,left:=3}) ?_ ?_
 ·cases hs:n.sends with
  | none=>
   rw [hs] at es'
   cases es'
   wtm_at "wp"
   refine ⟨p,n.plain,rfl,At.sqF ep,hb,hl,he,fun v2 H2 s2 f2 => ?_⟩
   wtm_at "wp"
   refine ⟨small (show 1≤1000 by decide),fun p3 hp3 => ?_⟩
   have s3:=s2.new (o := .lst [v2]) hp3
   have f3:FrAt (upd H2 p3 (.lst [v2])) v2 (aL n.plain,cg n.plain):=f2.kp (S:=[]) (Same.kp (au hp3 _))
   have e3:At (upd H2 p3 (.lst [v2])) p3 (.lst [v2]):=ac
   generalize upd H2 p3 (.lst [v2])=H3 at *
   have hlen:=fh.len
   refine dH (At.sqF (s3.get eh)) (At.sqL e3) (by rw [hlen,List.length_singleton];show n.heard.length+1≤5000;omega) (fun p4 hp4 => ?_)
   refine bQ ac (fun o4 => ?_)
   rw [da]
   have s4:=s3.new (o := .frz o4 (.lst (hv++[v2]))) hp4
   have e4:At (upd H3 p4 (.frz o4 (.lst (hv++[v2])))) p4 (.frz o4 (.lst (hv++[v2]))):=ac
   have f4:FrAt (upd H3 p4 (.frz o4 (.lst (hv++[v2])))) v2 (aL n.plain,cg n.plain):=f3.kp (S:=[]) (Same.kp (au hp4 _))
   have n4:p4≠a:=(aB (s3.get e1) hp4).symm
   generalize upd H3 p4 (.frz o4 (.lst (hv++[v2])))=H4 at *
   have e14:=s4.get e1
   wtm_at "wp"
   have kk:∀ d,Kp [a] H1 (upd H4 a (.dK d)):=fun d=>Kp.upd (Same.kp s4) (by simp) e14 (fun z=>z)
   have k4:∀ d,Kp [a] H4 (upd H4 a (.dK d)):=fun d=>Kp.upd (Kp.refl _ _) (by simp) e14 (fun z=>z)
   exact ⟨_,w,p4,n.waits,n.heard++[(aL n.plain,cg n.plain)],rfl,kk _,ac,FL.kp ⟨wv,wo,ew,fw⟩ (kk _),⟨_,o4,aG n4 e4,j5 (fh.kp (kk _)) (.cons (f4.kp (k4 _)) .nil)⟩,by unfold Ln.ends;dsimp only⟩
  | some s=>
   have hname:=hx (by rw [hs];intro z;cases z)
   rw [hs] at es'
   obtain ⟨sa,so,rfl,esa⟩:=es'
   have wlen:=fw.len
   have wlen':wv.length=n.waits.length:=wlen
   wtm_at "wp"
   refine b9 ?_
   wtm_at "wp"
   refine db (zC H1) (At.sqF ew) (small (by omega)) (fun i x H' R hx s1 hR => ?_) (fun D Hf s1 fD eD => ?_)
   ·obtain ⟨f,hf,t,r,o,rfl,a,b⟩:=eO fw hx
    show tOp _ _ _ [some (.ref t)] _ _
    wtm_at "wp"
    have:=hR H' (Same.refl _)
    rw [j6 ⟨t,r,o,rfl,a,b⟩] at this
    exact this
   rw [j7 fw] at eD
   have eD':At Hf D (.lst ((n.waits.map (·.1)).map V.int)):=eD
   have epf:=s1.get ep
   have e1f:=s1.get e1
   wtm_at "wp"
   refine ⟨p,n.plain,rfl,At.sqF epf,hb,hl,he,fun v2 H2 s2 f2 => ?_⟩
   obtain ⟨t2,r2,o2,rfl,et2,er2⟩:=f2
   have et2:At H2 t2 (.tup [.int (aL n.plain),.ref r2]):=et2
   wtm_at "wp"
   refine rD (ns:=n.waits.map (·.1)) (At.sqL (s2.get eD')) hname ?_
   have s12:=s1.trans s2
   have e12:=s12.get e1
   have ew2:=s12.get ew
   wtm_at "wp"
   refine cK (At.sqF ew2) (rA wv _) (fun p3 hp3 => ?_)
   have s3:=s12.new (o := .lst (wv.take ((n.waits.map (·.1)).idxOf (aL n.plain)))) hp3
   have e3:At (upd H2 p3 (.lst (wv.take ((n.waits.map (·.1)).idxOf (aL n.plain))))) p3 (.lst (wv.take ((n.waits.map (·.1)).idxOf (aL n.plain)))):=ac
   generalize upd H2 p3 (.lst (wv.take ((n.waits.map (·.1)).idxOf (aL n.plain))))=H3 at *
   have e13:=s3.get e1
   have ew3:=s3.get ew
   wtm_at "wp"
   refine cK (ys:=wv.drop ((n.waits.map (·.1)).idxOf (aL n.plain)+1)) (At.sqF ew3) (by rw [show (((n.waits.map (·.1)).idxOf (aL n.plain):Nat):Int)+1=(((n.waits.map (·.1)).idxOf (aL n.plain)+1:Nat):Int) by omega,fk]) (fun p4 hp4 => ?_)
   have s4:=s3.new (o := .lst (wv.drop ((n.waits.map (·.1)).idxOf (aL n.plain)+1))) hp4
   have e34:At (upd H3 p4 (.lst (wv.drop ((n.waits.map (·.1)).idxOf (aL n.plain)+1)))) p3 _:=aE hp4 e3
   have e44:At (upd H3 p4 (.lst (wv.drop ((n.waits.map (·.1)).idxOf (aL n.plain)+1)))) p4 (.lst (wv.drop ((n.waits.map (·.1)).idxOf (aL n.plain)+1))):=ac
   generalize upd H3 p4 (.lst (wv.drop ((n.waits.map (·.1)).idxOf (aL n.plain)+1)))=H4 at *
   refine dH (At.sqL e34) (At.sqL e44) (by rw [List.length_take,List.length_drop];omega) (fun p5 hp5 => ?_)
   refine bQ ac (fun o5 => ?_)
   rw [da,← List.eraseIdx_eq_take_drop_succ]
   have s5:=s4.new (o := .frz o5 (.lst (wv.eraseIdx ((n.waits.map (·.1)).idxOf (aL n.plain))))) hp5
   have e5:At (upd H4 p5 (.frz o5 (.lst (wv.eraseIdx ((n.waits.map (·.1)).idxOf (aL n.plain)))))) p5 (.frz o5 (.lst (wv.eraseIdx ((n.waits.map (·.1)).idxOf (aL n.plain))))):=ac
   have n5:p5≠a:=(aB (s4.get e1) hp5).symm
   generalize upd H4 p5 (.frz o5 (.lst (wv.eraseIdx ((n.waits.map (·.1)).idxOf (aL n.plain)))))=H5 at *
   have e15:=s5.get e1
   wtm_at "wp"
   have kk:∀ d,Kp [a] H1 (upd H5 a (.dK d)):=fun d=>Kp.upd (Same.kp s5) (by simp) e15 (fun z=>z)
   have ff:∀ d,Frs (upd H5 a (.dK d)) (wv.eraseIdx ((n.waits.map (·.1)).idxOf (aL n.plain))) (n.waits.eraseIdx ((n.waits.map (·.1)).idxOf (aL n.plain))):=fun d=>mv _ (Frs.kp (show Frs H1 wv n.waits from fw) (kk d))
   exact ⟨_,p5,hh,n.waits.eraseIdx ((n.waits.map (·.1)).idxOf (aL n.plain)),n.heard,rfl,kk _,ac,⟨_,o5,aG n5 e5,ff _⟩,FL.kp ⟨hv,ho,eh,fh⟩ (kk _),by unfold Ln.ends;dsimp only⟩
 rintro σ H2 ⟨v,w3,h3,ws,hs,rfl,k2,e2,fw2,fh2,ee⟩
 rw [ee] at q
 wtm_at "wp"
 have k3:∀ d1 d2 d3,Kp [a] H2 (upd (upd (upd H2 a (.dK d1)) a (.dK d2)) a (.dK d3)):=fun d1 d2 d3=>Kp.upd (Kp.upd (Kp.upd (Kp.refl _ _) (by simp) e2 (fun z=>z)) (by simp) ac (fun z=>z)) (by simp) ac (fun z=>z)
 exact q _ (k1.trans (k2.trans (k3 _ _ _))) ⟨w3,h3,p,k,.non,ac,fw2.kp (k3 _ _ _),fh2.kp (k3 _ _ _),⟨po,(k3 _ _ _).frz (k2.frz ep)⟩,IL.kp ik (k2.trans (k3 _ _ _)),rfl⟩
abbrev tf:Stmt:=(top 62)
abbrev qN (K:PySem.W.Frag) (c:Cs):Sp:=sp0 fun H Q _=>∀ a H',Same H H'→aS H a→LnAt H' a Ln.new→Q (.ref a) H'
theorem sc__law_new:FnScope ["_law_found"] [] (ah tf):=aR
theorem qO (T:Txt K mg c):dm P w K mg base CX0 1 "_law_new" [] (qN K c):=by
 refine T.d__law_new.ok sc__law_new (by intro _ _ _ _ _ _ us hl;cases us with | nil=>rfl | cons _ _=>cases hl) DY (fun f cdv A outer s H vs Q E hr h => ?_)
 obtain ⟨rfl,h⟩:=h
 refine' ⟨_,?dsp,?go⟩
 case dsp=>
  refine' ag ?h1 ?h2
  case h1=>
   refine' aD (i:=0) ?hN ?hi ?hx ?he (hs := ?hs) (hf := ?hf)
   case he=>exact l8
   case hN=>exact sc__law_new.nd
   case hi=>rfl
   case hx=>exact Or.inl rfl
   case hs=>rfl
   case hf=>first | exact Or.inl rfl | exact Or.inr rfl
  case h2=>
   refine' ag ?h3 ?h4
   case h3=>
    refine' aH ?he1 (hs := ?hs1)
    case he1=>
     refine' cr (K:=K) PySem.F.plainAttrs_dict PySem.F.slot_dict_update PySem.F.type_dict_update sx ?ho ?ha (hK := ?k1) (hbase := ?k2) (hfew := ?k3) (hline := ?k4) (hs := ?k5) (hplain := ?k6)
     case ho=>exact pv 0
     case ha=>
      refine' aa ?ha2 ?hr2 (hs := ?hs2)
      case ha2=>exact l8
      case hr2=>exact ae
      case hs2=>rfl
     all_goals rfl
    case hs1=>rfl
   case h4=>exact ad (aC (pv 0))
 try dsimp only [br,Cx.nox,Cx.wish]
 refine ak (s2:=[none]) rfl ?_
 wtm_at "wp"
 refine pM (fun d hd => ?_)
 wtm_at "wp"
 refine ⟨small (show 0≤1000 by decide),fun w hw => ?_⟩
 refine bQ ac (fun ow => ?_)
 rw [da]
 wtm_at "wp"
 refine ⟨small (show 0≤1000 by decide),fun hh hhh => ?_⟩
 refine bQ ac (fun oh => ?_)
 rw [da]
 wtm_at "wp"
 refine l7 (kvs:=[(.inr "waits",.ref w),(.inr "heard",.ref hh),(.inr "faults",.int 0),(.inr "mode",.str "free"),(.inr "left",.int 0)]) (by wtm_at "hA") (by exact Nat.le_of_ble_eq_true rfl) zV ?_
 obtain ⟨H1,hH1⟩:∃ H1,H1=upd (upd (upd (upd H d (.dK [])) w (.frz ow (.lst []))) hh (.frz oh (.lst []))) d (.dK [(.inr "waits",.ref w),(.inr "heard",.ref hh),(.inr "faults",.int 0),(.inr "mode",.str "free"),(.inr "left",.int 0)]):=⟨_,rfl⟩
 rw [← hH1]
 have s1:Same H H1:=by rw [hH1];exact (((au hd _).new hw).new hhh).upF hd
 have e1:At H1 d (.dK [(.inr "waits",.ref w),(.inr "heard",.ref hh),(.inr "faults",.int 0),(.inr "mode",.str "free"),(.inr "left",.int 0)]):=by rw [hH1];exact ac
 have ew1:At H1 w (.frz ow (.lst [])):=by rw [hH1];wtm_at "hA"
 have eh1:At H1 hh (.frz oh (.lst [])):=by rw [hH1];wtm_at "hA"
 clear hH1
 wtm_at "wp"
 refine ⟨zu e1,?_⟩
 wtm_at "wp"
 refine pM (fun d2 hd2 => ?_)
 wtm_at "wp"
 refine ⟨small (show 0≤1000 by decide),fun p hp => ?_⟩
 refine bQ ac (fun op => ?_)
 rw [da]
 wtm_at "wp"
 refine ⟨small (show 0≤1000 by decide),fun k hk => ?_⟩
 refine bQ ac (fun ok => ?_)
 rw [da]
 wtm_at "wp"
 refine l7 (kvs:=[(.inr "plain",.ref p),(.inr "like",.int 0),(.inr "last",.int 2),(.inr "many",.int 0),(.inr "check",.ref k),(.inr "tail",.int (-1)),(.inr "sends",.non),(.inr "put",.int 1)]) (by wtm_at "hA") (by exact Nat.le_of_ble_eq_true rfl) zW ?_
 obtain ⟨H2,hH2⟩:∃ H2,H2=upd (upd (upd (upd H1 d2 (.dK [])) p (.frz op (.lst []))) k (.frz ok (.lst []))) d2 (.dK [(.inr "plain",.ref p),(.inr "like",.int 0),(.inr "last",.int 2),(.inr "many",.int 0),(.inr "check",.ref k),(.inr "tail",.int (-1)),(.inr "sends",.non),(.inr "put",.int 1)]):=⟨_,rfl⟩
 rw [← hH2]
 have s2:Same H1 H2:=by rw [hH2];exact (((au hd2 _).new hp).new hk).upF hd2
 have e2:At H2 d2 (.dK [(.inr "plain",.ref p),(.inr "like",.int 0),(.inr "last",.int 2),(.inr "many",.int 0),(.inr "check",.ref k),(.inr "tail",.int (-1)),(.inr "sends",.non),(.inr "put",.int 1)]):=by rw [hH2];exact ac
 have ep2:At H2 p (.frz op (.lst [])):=by rw [hH2];wtm_at "hA"
 have ek2:At H2 k (.frz ok (.lst [])):=by rw [hH2];wtm_at "hA"
 clear hH2
 have ed:=s2.get e1
 have n12:d≠d2:=aB e1 hd2
 wtm_at "wp"
 refine zt ed e2 n12 (by exact Nat.le_of_ble_eq_true rfl) ?_
 rw [Ck]
 wtm_at "wp"
 have fz:∀ {x:Addr} {o:Obj} {u:List (Key×V)},At H2 x (.frz o (.lst []))→At (upd H2 d (.dK u)) x (.frz o (.lst [])):=fun e=>aG (e.ne ed (by intro z;cases z)) e
 exact h d _ ((s1.trans s2).upF hd) hd ⟨w,hh,p,k,.non,ac,⟨[],ow,fz (s2.get ew1),.nil⟩,⟨[],oh,fz (s2.get eh1),.nil⟩,⟨op,fz ep2⟩,⟨ok,fz ek2⟩,rfl⟩
abbrev oR:Stmt:=(top 71)
abbrev mL (K:PySem.W.Frag) (c:Cs):Sp:=sp2 fun u v H Q _=>∃ (a:Addr) (n:Ln) (b:Int),u = .ref a∧v = .int b∧LnAt H a n∧HearOk n b∧km H a (n.hears b) .non Q
theorem sc__law_hears:FnScope ["_law_node", "_law_bit", "_law_after"] ["_law_node", "_law_bit"] (ah oR):=aR
theorem mM (T:Txt K mg c):dm P w K mg base CX0 5 "_law_hears" ["_law_node", "_law_bit"] (mL K c):=by
 refine T.d__law_hears.ok sc__law_hears (fun _ _ _ _ _ _ us hl=>match us,hl with | [_,_],_=>rfl) fj (fun f cdv A outer s H vs Q E hr h => ?_)
 obtain ⟨v0,v1,rfl,h⟩:=h
 refine' ⟨_,(aZ (aQ (PW.pt (bZ (ai (ix (K:=K)) (aA (aI hr) (pv 0) am (fun _ _=>rfl)) (cH (aa am (aa am ae))) (by with_unfolding_all rfl)) (bK (ai bg (pv 1) af (ao _)))))
    (ad (aH (bV (ig T) hr ay (aa (pv 0) ae))))
    az)
   (ad (aQ (ai bg (aA (aI hr) (pv 0) am (fun _ _=>rfl)) am (ao _))
    (ad (aQ (ai gF (aA (aI hr) (pv 0) am (fun _ _=>rfl)) af (ao _))
     (ad (aH (bV (iR T) hr ay (aa (pv 0) (aa (pv 1) ae)))))
     (ad (aH (bV (jq T) hr ay (aa (pv 0) (aa (pv 1) ae)))))))
    (ad (aQ (ai io (aA (aI hr) (pv 0) am (fun _ _=>rfl)) am (ao _))
     (ag (aP (aI hr) (pv 0) am (ap dn (aA (aI hr) (pv 0) am (fun _ _=>rfl)) af) rfl)
     (aZ (aQ (PW.pt (bZ (ai bg (aA (aI hr) (pv 0) am (fun _ _=>rfl)) am (ao _)) (bK (ai bg (pv 1) af (ao _)))))
      (ad (aP (aI hr) (pv 0) am af rfl))
      az)
     (ad (aQ (ai bg (aA (aI hr) (pv 0) am (fun _ _=>rfl)) af (ao _))
      ?dsp
      az))))
     az))))),?go⟩
 case dsp=>
  refine' ag ?h1 ?h2
  case h1=>
   refine' aD (i:=2) ?hN ?hi ?hx ?he (hs := ?hs) (hf := ?hf)
   case he=>
    refine' aA ?hu ?ho ?hk ?hsl
    case hu=>exact aI hr
    case ho=>exact l8
    case hk=>exact aA (aI hr) (pv 0) am (fun _ _=>rfl)
    case hsl=>exact fun _ _=>rfl
   case hN=>exact sc__law_hears.nd
   case hi=>rfl
   case hx=>exact Or.inl rfl
   case hs=>rfl
   case hf=>first | exact Or.inl rfl | exact Or.inr rfl
  case h2=>exact (ag (aP (aI hr) (pv 0) am (bh (bR (K:=K)) (pv 2) af (fun _ _=>rfl)) rfl) (ad (aP (aI hr) (pv 0) am (bh (bR (K:=K)) (pv 2) af (fun _ _=>rfl)) rfl)))
 try dsimp only [br,Cx.nox,Cx.wish]
 refine ak (s2:=[some v0,some v1,none]) rfl ?_
 obtain ⟨a,n,b,rfl,rfl,L0,hk,q⟩:=h
 refine bz (fun σ H2=>σ=[some (.ref a),some (.int b),none]∧Kp [a] H H2∧∃ m:Ln,LnAt H2 a m∧GoOk m b∧n.hears b=m.goes b) ?_ ?_
 ·obtain ⟨w,hh,p,k,sv,e0,fw,fh,ip,ik,es⟩:=id L0
  wtm_at "wp"
  refine ⟨small (show 2≤1000 by decide),fun t ht => ?_⟩
  have k1:=Kp.new (o := .tup [V.str (Str.ofString "free"),V.str (Str.ofString "rest")]) (Kp.refl [a] H) ht
  have e1:At (upd H t (.tup [V.str (Str.ofString "free"),V.str (Str.ofString "rest")])) t (.tup [V.str (Str.ofString "free"),V.str (Str.ofString "rest")]):=ac
  have L1:LnAt (upd H t (.tup [V.str (Str.ofString "free"),V.str (Str.ofString "rest")])) a n:=L0.kp (S:=[]) (Kp.new (Kp.refl _ _) ht) List.not_mem_nil
  generalize upd H t (.tup [V.str (Str.ofString "free"),V.str (Str.ofString "rest")])=H1 at *
  refine De (.inr (At.sqT e1)) rfl rfl ?_
  by_cases c1:n.mode = .free∨n.mode = .rest
  ·rw [show inV (.str n.mode.str) [V.str (Str.ofString "free"),V.str (Str.ofString "rest")]=true by rcases c1 with z | z <;> rw [z] <;> decide]
   rw [if_neg (show ¬ (false=true) by decide)]
   wtm_at "wp"
   refine ax (fun c2 => ?_) (fun c2 => ?_)
   ·wtm_at "wp"
    refine ⟨a,n,rfl,L1,fun H2 k2 L2 => ?_⟩
    wtm_at "wp"
    exact ⟨rfl,k1.trans k2,n.start,L2,pW hk c1 c2⟩
   ·wtm_at "wp"
    exact ⟨rfl,k1,n,L1,rS hk fun z=>c2 z.2⟩
  ·rw [show inV (.str n.mode.str) [V.str (Str.ofString "free"),V.str (Str.ofString "rest")]=false by
    cases hm:n.mode with
    | free=>exact absurd (.inl hm) c1
    | rest=>exact absurd (.inr hm) c1
    | _=>decide]
   wtm_at "wp"
   exact ⟨rfl,k1,n,L1,rS hk fun z=>c1 z.1⟩
 rintro σ H2 ⟨rfl,k2,m,L2,hg,he⟩
 rw [he] at q
 clear he hk L0
 obtain ⟨w,hh,p,k,sv,e0,fw,fh,ip,ik,es⟩:=id L2
 have done:∀ (n':Ln) (H5:Hp),m.goes b=n'→Kp [a] H2 H5→LnAt H5 a n'→Q .non H5:=fun n' H5 e k l=>q H5 (k2.trans k) (by rw [e];exact l)
 clear q
 wtm_at "wp"
 refine ax (fun c1 => ?_) (fun c1 => ?_)
 ·have hm:m.mode = .frame:=jy c1
  have gf:=sI (b:=b) hm
  unfold Ln.inFrame at gf
  wtm_at "wp"
  refine ax (fun c2 => ?_) (fun c2 => ?_)
  ·have f:=hg.fb hm c2
   rw [if_pos c2] at gf
   wtm_at "wp"
   refine ⟨a,m,b,rfl,rfl,L2,f.le,f.ok,fun H3 k3 L3 => ?_⟩
   wtm_at "wp"
   exact done _ H3 gf k3 L3
  ·have f:=hg.tb hm c2
   rw [if_neg c2] at gf
   wtm_at "wp"
   refine ⟨a,m,b,rfl,rfl,L2,f.bits,f.le,f.whole,f.ws,f.hs,f.nm,fun H3 k3 L3 => ?_⟩
   wtm_at "wp"
   exact done _ H3 gf k3 L3
 have m1:¬ m.mode = .frame:=fun z=>c1 (by rw [z];rfl)
 wtm_at "wp"
 refine bP (fun c2 => ?_) (fun c2 => ?_)
 rotate_left
 ·wtm_at "wp"
  exact done m H2 (vi (zX c2)) (Kp.refl _ _) L2
 have m2:¬ m.mode = .free:=fun z=>c2 (by rw [z];rfl)
 have gc:=pX (b:=b) m1 m2
 wtm_at "wp"
 have kk:=fun d=>L2.put (d:=d)
 refine bz (fun σ H3=>σ=[some (.ref a),some (.int b),none]∧Kp [a] H2 H3∧LnAt H3 a {m with left:=m.less b}) ?_ ?_
 ·have e3:At (upd H2 a (.dK (lnF (.ref w) (.ref hh) (.int m.faults) (.str m.mode.str) (.int (m.left - 1)) (.ref p) (.int m.like) (.int m.last) (.int (m.many:Nat)) (.ref k) (.int m.tail) sv (.int m.put)))) a _:=ac
  have k3:=kk (lnF (.ref w) (.ref hh) (.int m.faults) (.str m.mode.str) (.int (m.left - 1)) (.ref p) (.int m.like) (.int m.last) (.int (m.many:Nat)) (.ref k) (.int m.tail) sv (.int m.put))
  generalize upd H2 a (.dK (lnF (.ref w) (.ref hh) (.int m.faults) (.str m.mode.str) (.int (m.left - 1)) (.ref p) (.int m.like) (.int m.last) (.int (m.many:Nat)) (.ref k) (.int m.tail) sv (.int m.put)))=H3 at *
  have stay:¬ (m.mode = .dazed∧b=0)→LnAt H3 a {m with left:=m.less b}:=fun z=>by
   rw [show m.less b=m.left - 1 from if_neg z]
   exact ⟨w,hh,p,k,sv,e3,fw.kp k3,fh.kp k3,ip.kp k3,ik.kp k3,es.kp k3⟩
  wtm_at "wp"
  refine ax (fun c3 => ?_) (fun c3 => ?_)
  ·have m3:m.mode = .dazed:=(md_inj (b := .dazed)).mp c3
   wtm_at "wp"
   refine ax (fun c4 => ?_) (fun c4 => ?_)
   ·wtm_at "wp"
    have k4:=fun d=>k3.trans (Kp.upd (o := .dK d) (Kp.refl [a] H3) (by simp) e3 (fun z=>z))
    refine ⟨rfl,k4 _,?_⟩
    rw [show m.less b=8 from if_pos ⟨m3,c4⟩]
    exact ⟨w,hh,p,k,sv,ac,fw.kp (k4 _),fh.kp (k4 _),ip.kp (k4 _),ik.kp (k4 _),es.kp (k4 _)⟩
   ·wtm_at "wp"
    exact ⟨rfl,k3,stay fun z=>c4 z.2⟩
  ·wtm_at "wp"
   exact ⟨rfl,k3,stay fun z=>c3 (by rw [z.1];rfl)⟩
 rintro σ H3 ⟨rfl,k3,L3⟩
 clear fw fh ip ik es e0 kk
 obtain ⟨w,hh,p,k,sv,e0,fw,fh,ip,ik,es⟩:=id L3
 have e0:At H3 a (.dK (lnF (.ref w) (.ref hh) (.int m.faults) (.str m.mode.str) (.int (m.less b)) (.ref p) (.int m.like) (.int m.last) (.int (m.many:Nat)) (.ref k) (.int m.tail) sv (.int m.put))):=e0
 wtm_at "wp"
 refine ax (fun c3 => ?_) (fun c3 => ?_)
 rotate_left
 ·wtm_at "wp"
  exact done _ H3 (by rw [gc,if_neg c3]) k3 L3
 rw [if_pos c3] at gc
 wtm_at "wp"
 refine pM (fun d hd => ?_)
 wtm_at "wp"
 refine ⟨small (show 2≤1000 by decide),fun t1 h1 => ?_⟩
 wtm_at "wp"
 refine ⟨small (show 2≤1000 by decide),fun t2 h2 => ?_⟩
 wtm_at "wp"
 refine ⟨small (show 2≤1000 by decide),fun t3 h3 => ?_⟩
 wtm_at "wp"
 refine l7 (kvs:=[(.inr "cry",.ref t1),(.inr "dazed",.ref t2),(.inr "rest",.ref t3)]) (kvs':=[(.inr "cry",.ref t1),(.inr "dazed",.ref t2),(.inr "rest",.ref t3)]) (by wtm_at "hA") (by exact Nat.le_of_ble_eq_true rfl) (by with_unfolding_all rfl) ?_
 obtain ⟨H4,hH4⟩:∃ H4,H4=upd (upd (upd (upd (upd H3 d (.dK [])) t1 (.tup [.str "dazed",.int 8])) t2 (.tup [.str "rest",.int 3])) t3 (.tup [.str "free",.int 0])) d (.dK [(.inr "cry",.ref t1),(.inr "dazed",.ref t2),(.inr "rest",.ref t3)]):=⟨_,rfl⟩
 rw [← hH4]
 have s4:Same H3 H4:=by rw [hH4];exact ((((au hd _).new h1).new h2).new h3).upF hd
 have ed4:At H4 d (.dK [(.inr "cry",.ref t1),(.inr "dazed",.ref t2),(.inr "rest",.ref t3)]):=by rw [hH4];exact ac
 have et1:At H4 t1 (.tup [.str "dazed",.int 8]):=by rw [hH4];wtm_at "hA"
 have et2:At H4 t2 (.tup [.str "rest",.int 3]):=by rw [hH4];wtm_at "hA"
 have et3:At H4 t3 (.tup [.str "free",.int 0]):=by rw [hH4];wtm_at "hA"
 clear hH4
 have e4:=s4.get e0
 have k4:Kp [a] H3 H4:=Same.kp s4
 have n1:t1≠a:=et1.ne e4 (by intro z;cases z)
 have n2:t2≠a:=et2.ne e4 (by intro z;cases z)
 have n3:t3≠a:=et3.ne e4 (by intro z;cases z)
 have kz:∀ d1 d2,Kp [a] H3 (upd (upd H4 a (.dK d1)) a (.dK d2)):=fun d1 d2=>k4.trans (Kp.upd (Kp.upd (Kp.refl _ _) (by simp) e4 (fun z=>z)) (by simp) ac (fun z=>z))
 wtm_at "wp"
 cases hm:m.mode with
 | frame=>exact absurd hm m1
 | free=>exact absurd hm m2
 | cry=>
  refine jt ed4 rfl ?_
  wtm_at "wp"
  exact done {m with mode := .dazed,left:=8} _ (by rw [gc,hm];rfl) (k3.trans (kz _ _)) ⟨w,hh,p,k,sv,ac,fw.kp (kz _ _),fh.kp (kz _ _),ip.kp (kz _ _),ik.kp (kz _ _),es.kp (kz _ _)⟩
 | dazed=>
  refine jt ed4 rfl ?_
  wtm_at "wp"
  exact done {m with mode := .rest,left:=3} _ (by rw [gc,hm];rfl) (k3.trans (kz _ _)) ⟨w,hh,p,k,sv,ac,fw.kp (kz _ _),fh.kp (kz _ _),ip.kp (kz _ _),ik.kp (kz _ _),es.kp (kz _ _)⟩
 | rest=>
  refine jt ed4 rfl ?_
  wtm_at "wp"
  exact done {m with mode := .free,left:=0} _ (by rw [gc,hm];rfl) (k3.trans (kz _ _)) ⟨w,hh,p,k,sv,ac,fw.kp (kz _ _),fh.kp (kz _ _),ip.kp (kz _ _),ik.kp (kz _ _),es.kp (kz _ _)⟩
structure LnsAt (H:Hp) (as:List Addr) (ns:List Ln):Prop where
 len:as.length=ns.length
 nd:as.Nodup
 at_:∀ (i:Nat) (a:Addr) (n:Ln),as[i]? = some a→ns[i]? = some n→LnAt H a n
theorem LnsAt.kp {S:List Addr} {H H':Hp} {as:List Addr} {ns:List Ln} (h:LnsAt H as ns) (k:Kp S H H') (hs:∀ a∈as,a∉S):LnsAt H' as ns:=
 ⟨h.len,h.nd,fun i a n e1 e2=>(h.at_ i a n e1 e2).kp k (hs a (List.mem_of_getElem? e1))⟩
theorem LnsAt.get {H:Hp} {as:List Addr} {ns:List Ln} (h:LnsAt H as ns) {i:Nat} {a:Addr} (e:as[i]? = some a):∃ n,ns[i]? = some n∧LnAt H a n:=by
 have hi:i < ns.length:=by rw [← h.len];exact (List.getElem?_eq_some_iff.mp e).1
 exact ⟨ns[i],List.getElem?_eq_getElem hi,h.at_ i a _ e (List.getElem?_eq_getElem hi)⟩
theorem LnsAt.set {H H':Hp} {as:List Addr} {ns:List Ln} {i:Nat} {a:Addr} {n':Ln} (h:LnsAt H as ns) (e:as[i]? = some a) (k:Kp [a] H H') (l:LnAt H' a n'):LnsAt H' as (ns.set i n'):=by
 refine ⟨by rw [List.length_set];exact h.len,h.nd,fun j b m e1 e2 => ?_⟩
 by_cases c:i=j
 ·subst c
  rw [e] at e1
  cases e1
  rw [List.getElem?_set_self (by rw [← h.len];exact (List.getElem?_eq_some_iff.mp e).1)] at e2
  cases e2
  exact l
 ·rw [List.getElem?_set_ne c] at e2
  refine (h.at_ j b m e1 e2).kp k (aM fun z=>c ?_)
  subst z
  exact (List.getElem?_inj (List.getElem?_eq_some_iff.mp e).1 h.nd).mp (e.trans e1.symm)
theorem LnsAt.live {H:Hp} {as:List Addr} {ns:List Ln} (h:LnsAt H as ns) {a:Addr} (e:a∈as):∃ d,At H a (.dK d):=by
 obtain ⟨i,e⟩:=List.mem_iff_getElem?.mp e
 obtain ⟨n,_,w,hh,p,k,sv,e0,_⟩:=h.get e
 exact ⟨_,e0⟩
theorem LnsAt.new {H:Hp} {as:List Addr} {ns:List Ln} (h:LnsAt H as ns) {p:Addr} (hp:aS H p):p∉as:=fun z=>by
 obtain ⟨d,e⟩:=h.live z
 exact (aJ hp e) rfl
theorem Kp.of1 {H H':Hp} {a:Addr} {as:List Addr} {i:Nat} (k:Kp [a] H H') (e:as[i]? = some a):Kp as H H':=k.mono fun x hx=>by rw [List.mem_singleton.mp hx];exact List.mem_of_getElem? e
abbrev qP:Stmt:=(top 72)
abbrev oS (K:PySem.W.Frag) (c:Cs):Sp:=sp2 fun u v H Q _=>∃ (l:Addr) (o:Obj) (as:List Addr) (ns:List Ln) (flip:Int),u = .ref l∧v = .int flip∧At H l (.frz o (.lst (as.map V.ref)))∧LnsAt H as ns∧ns≠[]∧ns.length≤8∧WireOk ns flip∧(∀ H',Kp as H H'→LnsAt H' as (gQ ns flip)→Q (.int (di ns flip)) H')
theorem sc__law_wire:FnScope ["_law_nodes", "_law_flip", "_law_bit", "_law_node"] ["_law_nodes", "_law_flip"] (ah qP):=aR
theorem oU (T:Txt K mg c):dm P w K mg base CX0 6 "_law_wire" ["_law_nodes", "_law_flip"] (oS K c):=by
 refine T.d__law_wire.ok sc__law_wire (fun _ _ _ _ _ _ us hl=>match us,hl with | [_,_],_=>rfl) fj (fun f cdv A outer s H vs Q E hr h => ?_)
 obtain ⟨v0,v1,rfl,h⟩:=h
 refine ⟨_,(ag (aD (i:=2) sc__law_wire.nd rfl (.inl rfl) (aw (gM rfl) rfl T.min PyProof.Rows.boot_min (aa (cP [] [] (aV (K:=K) (pv 0)) (fun fp s H=>(bV (oN T) hr ay (aa (pv 0) ae)))) ae)))
   (ag (aD (i:=2) sc__law_wire.nd rfl (.inl rfl) (ap bC (ap aY (pv 2) (pv 1)) af))
   (aZ (bL PassesOwn.never rfl (aV (K:=K) (pv 0)) (bc (i:=3) sc__law_wire.nd rfl (.inl rfl))
    (ad (aH (bV (mM T) hr ay (aa (pv 3) (aa (pv 2) ae))))))
   (ad (aC (pv 2)))))),?_⟩
 try dsimp only [br,Cx.nox,Cx.wish]
 refine ak (s2:=[some v0,some v1,none,none]) rfl ?_
 obtain ⟨l,o,as,ns,flip,rfl,rfl,el,L0,hne,h8,wo,q⟩:=h
 have hlen:=L0.len
 have la:(as.map V.ref).length=as.length:=List.length_map _
 wtm_at "wp"
 refine b9 ?_
 wtm_at "wp"
 refine gN (xs:=as.map V.ref) (fun D i ys H2=>Kp as H H2∧aS H D∧At H2 D (.lst ys)∧ys=(((ns.take i).map Ln.puts).map (·.put)).map V.int∧ys.length≤i∧LnsAt H2 as (tu Ln.puts i ns)) (At.sqF el) (by rw [la];exact small (by omega)) (fun D hD => ?_) (fun D i ys H2 hi ⟨k2,fD,eD,ey,hl,L2⟩=>⟨eD,At.sqF (k2.frz el),hl⟩) (fun D i x ys H2 hx ⟨k2,fD,eD,ey,hl,L2⟩ => ?_) (fun D ys H2 ⟨k2,fD,eD,ey,hl,L2⟩ => ?_)
 ·exact ⟨Same.kp (au hD _),hD,ac,rfl,Nat.le_refl _,by rw [ib];exact L0.kp (S:=[]) (Same.kp (au hD _)) fun _ _=>List.not_mem_nil⟩
 ·rw [List.getElem?_map] at hx
  cases ha:as[i]? with
  | none=>rw [ha] at hx;cases hx
  | some a=>
   rw [ha] at hx
   cases hx
   have hi:i < as.length:=(List.getElem?_eq_some_iff.mp ha).1
   have hin:i < ns.length:=by omega
   have en:=List.getElem?_eq_getElem hin
   obtain ⟨u1,u2⟩:=mz Ln.puts en
   have Ln1:=L2.at_ i a _ ha u1
   have po:=wo.put _ (List.getElem_mem hin)
   show iq _ _ _ _ [some (.ref a)] _ _
   wtm_at "wp"
   refine ⟨_,rfl,a,_,rfl,Ln1,po.ws,po.many,fun H3 k3 L3 => ?_⟩
   have L4:=L2.set ha k3 L3
   rw [u2] at L4
   have nD:D∉as:=L0.new fD
   have eD3:At H3 D (.lst ys):=k3.get (aM fun z=>nD (by rw [z];exact List.mem_of_getElem? ha)) eD
   have kD:Kp [D] H3 (upd H3 D (.lst (ys++[.int (ns[i]).puts.put]))):=(Kp.refl _ _).upd (by simp) eD3 (fun z=>z)
   have k23:=k2.trans (k3.of1 ha)
   refine pK (by rw [la];exact hi) eD3 ⟨k23.upF fD,fD,ac,?_,by rw [List.length_append,List.length_singleton];omega,L4.kp kD fun x hx=>aM fun z=>nD (z ▸ hx)⟩
   rw [cy en,List.map_append,List.map_append,List.map_append,← ey]
   rfl
 rw [la,hlen,jw] at L2
 rw [la,hlen,List.take_of_length_le (Nat.le_refl _)] at ey
 rw [ey] at eD
 have bp:Bits ((ns.map Ln.puts).map (·.put)):=fun x hx=>by
  obtain ⟨e,he,rfl⟩:=List.mem_map.mp hx
  obtain ⟨n,hn,rfl⟩:=List.mem_map.mp he
  exact (wo.put n hn).bit
 wtm_at "wp"
 refine ⟨D,_,rfl,eD,?_,fun m m1 m2 => ?_⟩
 ·intro z
  have:=congrArg List.length z
  rw [List.length_map,List.length_map] at this
  exact hne (List.length_eq_zero_iff.mp this)
 have em:=vx bp m1 m2
 wtm_at "wp"
 have eb:(m+flip) % 2=di ns flip:=by unfold di;rw [em]
 rw [eb]
 have hear:=wo.hear
 have q:∀ H',Kp as H H'→LnsAt H' as ((ns.map Ln.puts).map (·.hears (di ns flip)))→Q (.int (di ns flip)) H':=q
 generalize di ns flip=b at *
 have hml:(ns.map Ln.puts).length=as.length:=by rw [List.length_map];omega
 refine bz (fun σ H4=>∃ v:Option V,σ=[some (.ref l),some (.int flip),some (.int b),v]∧Kp as H H4∧LnsAt H4 as ((ns.map Ln.puts).map (·.hears b))) ?_ ?_
 ·refine cw ?_
  have el2:=k2.frz el
  wtm_at "wp"
  refine bW (xs:=as.map V.ref) (fun i σ H4=>∃ v:Option V,σ=[some (.ref l),some (.int flip),some (.int b),v]∧Kp as H H4∧LnsAt H4 as (tu (fun n=>n.hears b) i (ns.map Ln.puts))) (At.sqF el2)
   ⟨_,rfl,k2,by rw [ib];exact L2⟩ (fun i σ H4 _ ⟨_,_,k4,_⟩=>At.sqF (k4.frz el)) ?_ ?_
  ·rintro i y σ H4 hi ⟨v,rfl,k4,L4⟩
   rw [List.getElem?_map] at hi
   cases ha:as[i]? with
   | none=>rw [ha] at hi;cases hi
   | some a=>
    rw [ha] at hi
    cases hi
    have hia:i < as.length:=(List.getElem?_eq_some_iff.mp ha).1
    have hin:i < ns.length:=by omega
    have en:(ns.map Ln.puts)[i]? = some ns[i].puts:=by rw [List.getElem?_map,List.getElem?_eq_getElem hin];rfl
    obtain ⟨u1,u2⟩:=mz (fun n=>Ln.hears n b) en
    wtm_at "wp"
    refine ⟨a,_,b,rfl,rfl,L4.at_ i a _ ha u1,hear _ (List.getElem_mem hin),fun H5 k5 L5 => ?_⟩
    have L6:=L4.set ha k5 L5
    rw [u2] at L6
    wtm_at "wp"
    exact ⟨_,rfl,k4.trans (k5.of1 ha),L6⟩
  ·rintro σ H4 ⟨v,rfl,k4,L4⟩
   rw [la,← hml,jw] at L4
   exact ⟨_,rfl,k4,L4⟩
 rintro σ H4 ⟨v4,rfl,k4,L4⟩
 wtm_at "wp"
 exact q H4 k4 L4
def okB (v:V):V:=match v with
 | .int b => .bl (decide (0≤b) && decide (b≤255))
 | _ => .non
theorem zY (row:List Int):(row.map V.int).map okB=(row.map fun b=>decide (0≤b) && decide (b≤255)).map V.bl:=by
 rw [List.map_map,List.map_map];rfl
theorem tj (row:List Int):(row.map fun b=>decide (0≤b) && decide (b≤255)).all id=true↔∀ b∈row,0≤b∧b≤255:=by
 rw [List.all_eq_true]
 constructor
 ·intro h b hb
  have:=h _ (List.mem_map.mpr ⟨b,hb,rfl⟩)
  simpa using this
 ·intro h z hz
  obtain ⟨b,hb,rfl⟩:=List.mem_map.mp hz
  simpa using h b hb
theorem Cl {H:Hp} {p:Addr} {o o':HO} (e:o=o'):At (L2.upd H p o) p o':=e ▸ ac
abbrev qQ:Stmt:=(top 73)
abbrev oV (K:PySem.W.Frag) (c:Cs):Sp:=sp4 fun u v w x H Q _=>∃ (l r:Addr) (o:Obj) (as:List Addr) (ns:List Ln) (i name:Int) (row:List Int),u = .ref l∧v = .int i∧w = .int name∧x = .ref r∧At H l (.frz o (.lst (as.map V.ref)))∧LnsAt H as ns∧ns.length≤8∧(∀ n∈ns,n.waits.length≤100)∧SqL K H r (row.map V.int)∧row.length≤900 ∧
 (¬ (0≤i∧i < ns.length)→Q (.str "node") H) ∧
 (∀ (k:Nat) n,i=(k:Nat)→ns[k]? = some n→((¬ iZ name row∨jV ns k name=true)→∀ H',Same H H'→Q (.str "frame") H') ∧
  (iZ name row→jV ns k name=false→∀ H',Kp as H H'→LnsAt H' as (ns.set k (n.wait (name,row)))→Q (.str "ok") H'))
theorem sc__law_send:FnScope ["_law_nodes", "_law_at", "_law_name", "_law_row", "_law_names", "_law_k", "_law_good", "_law_waits", "_law_spot"] ["_law_nodes", "_law_at", "_law_name", "_law_row"] (ah qQ):=aR
theorem oW (T:Txt K mg c):dm P w K mg base CX0 1 "_law_send" ["_law_nodes", "_law_at", "_law_name", "_law_row"] (oV K c):=by
 refine T.d__law_send.ok sc__law_send (fun _ _ _ _ _ _ us hl=>match us,hl with | [_,_,_,_],_=>rfl) Dz (fun f cdv A outer s H vs Q E hr h => ?_)
 obtain ⟨v0,v1,v2,v3,rfl,h⟩:=h
 refine ⟨_,(aZ (aQ (iU (qZ jB gF af (pv 1) (aw (aq (K:=K)) rfl T.len PySem.boot_len (aa (pv 0) ae))))
    (ad (aC am))
    az)
   (ag (aD (i:=4) sc__law_send.nd rfl (by first | exact Or.inl rfl | exact Or.inr rfl) (bj ae))
   (aZ (bL PassesOwn.never rfl (bH rfl T.range (aa (aw (aq (K:=K)) rfl T.len PySem.boot_len (aa (pv 0) ae)) ae)) (bc (i:=5) sc__law_send.nd rfl (by first | exact Or.inl rfl | exact Or.inr rfl))
    (ad (aD (i:=4) sc__law_send.nd rfl (by first | exact Or.inl rfl | exact Or.inr rfl) (ap (ge (K:=K)) (pv 4) (ap nh (cP [] [] (aV (K:=K) (aA (aI hr) (bh (aK (K:=K)) (pv 0) (pv 5) (fun _ _=>rfl)) am (fun _ _=>rfl))) (fun fp s H=>(bh (bR (K:=K)) (pv 0) af (fun _ _=>rfl)))) (cJ nz rfl T.int PyProof.Rows.boot_int (aa (bM io (pv 5) (pv 1) (ao _)) ae)))))))
   (aZ (aD (i:=6) sc__law_send.nd rfl (by first | exact Or.inl rfl | exact Or.inr rfl) (jA (qY jB jB af (pv 2) af) (jA (bM jB (aw (aq (K:=K)) rfl T.len PySem.boot_len (aa (pv 3) ae)) af (ao _)) (jz (aw (pk rfl) rfl T.all PyProof.Rows.boot_all (aa (cP [] [] (aV (K:=K) (pv 3)) (fun fp s H=>(qY jB jB af (pv 0) af))) ae))))))
   (ag (aQ (PW.pt (dZ (iU (cC (pv 6))) (cS (ai (ix (K:=K)) (pv 2) (pv 4) (by with_unfolding_all rfl)))))
    (ad (aC am))
    az)
   (ag (aD (i:=7) sc__law_send.nd rfl (by first | exact Or.inl rfl | exact Or.inr rfl) (aA (aI hr) (bh (aK (K:=K)) (pv 0) (pv 1) (fun _ _=>rfl)) am (fun _ _=>rfl)))
   (ag (aD (i:=8) sc__law_send.nd rfl (by first | exact Or.inl rfl | exact Or.inr rfl) (aw (aq (K:=K)) rfl T.len PySem.boot_len (aa (vX ["_law_name"] [2] (aV (K:=K) (pv 7)) (fun fp s H=>(ai jB (bh (bR (K:=K)) (pv 1) af (fun _ _=>rfl)) (pv 0) (ao _))) (fun fp s H=>(pv 1))) ae)))
   (ag (aP (aI hr) (bh (aK (K:=K)) (pv 0) (pv 1) (fun _ _=>rfl)) am (dY (ap (ge (K:=K)) (ap (ge (K:=K)) (bt (bv (K:=K)) (pv 7) cO (bo (pv 8))) (bj (aa (cH (aa (pv 2) (aa (dY (cJ (de (K:=K)) rfl T.list PyProof.Rows.boot_list (aa (pv 3) ae))) ae))) ae))) (bt (bv (K:=K)) (pv 7) (bo (pv 8)) cO))) rfl)
   (ad (aC am)))))))))),?_⟩
 try dsimp only [br,Cx.nox,Cx.wish]
 refine ak (s2:=[some v0,some v1,some v2,some v3,none,none,none,none,none]) rfl ?_
 obtain ⟨l,r,o,as,ns,i,name,row,rfl,rfl,rfl,rfl,el,L0,h8,hw,hS,hrl,qn,qg⟩:=h
 have hlen:=L0.len
 have la:(as.map V.ref).length=as.length:=List.length_map _
 have lr:(row.map V.int).length=row.length:=List.length_map _
 refine bz (fun σ H2=>σ=[some (.ref l),some (.int i),some (.int name),some (.ref r),none,none,none,none,none]∧H2=H∧0≤i∧i < ns.length) ?_ ?_
 ·wtm_at "wp"
  refine ax (fun c1 => ?_) (fun c1 => ?_)
  ·wtm_at "wp"
   rw [la]
   refine bP (fun c2 => ?_) (fun c2 => ?_)
   ·wtm_at "wp"
    exact qn (fun z=>c2 (by omega))
   ·wtm_at "wp"
    exact ⟨rfl,rfl,c1,by omega⟩
  ·wtm_at "wp"
   exact qn (fun z=>c1 z.1)
 rintro σ H2 ⟨rfl,rfl,i0,i1⟩
 obtain ⟨k,rfl⟩:∃ k:Nat,i=(k:Int):=⟨i.toNat,by omega⟩
 have hk:k < ns.length:=by omega
 have hka:k < as.length:=by omega
 obtain ⟨qf,qo⟩:=qg k ns[k] rfl (List.getElem?_eq_getElem hk)
 clear qn qg i0 i1
 wtm_at "wp"
 refine ⟨small (show 0≤1000 by decide),fun p0 hp0 => ?_⟩
 have s0:Same H2 (upd H2 p0 (.lst [])):=au hp0 _
 have e0:At (upd H2 p0 (.lst [])) p0 (.lst ((sJ ns k 0).map V.int)):=ac
 generalize upd H2 p0 (.lst [])=H3 at *
 wtm_at "wp"
 refine bz (fun σ H4=>∃ (v:Option V) (p:Addr),σ=[some (.ref l),some (.int (k:Int)),some (.int name),some (.ref r),some (.ref p),v,none,none,none]∧Same H2 H4∧At H4 p (.lst ((sJ ns k ns.length).map V.int))) ?_ ?_
 ·have el3:=s0.get el
  refine dF ?_
  wtm_at "wp"
  rw [la]
  refine cW ns.length (fun j σ H4=>∃ (v:Option V) (p:Addr),σ=[some (.ref l),some (.int (k:Int)),some (.int name),some (.ref r),some (.ref p),v,none,none,none]∧Same H2 H4∧At H4 p (.lst ((sJ ns k j).map V.int))) (by omega) (by omega) ⟨none,p0,rfl,s0,e0⟩ ?_ ?_
  ·rintro j σ H4 hj ⟨v,p,rfl,s4,e4⟩
   have hja:j < as.length:=by omega
   have ea:=List.getElem?_eq_getElem hja
   have Lj:=(L0.at_ j _ _ ea (List.getElem?_eq_getElem hj)).kp (S:=[]) (Same.kp s4) List.not_mem_nil
   obtain ⟨w,hh,p1,k1,sv,ed,⟨wv,wo,ew,fw⟩,fh,ip,ik,es⟩:=id Lj
   have wlen:wv.length=ns[j].waits.length:=fw.len
   have hwj:=hw _ (List.getElem_mem hj)
   have el4:=s4.get el
   wtm_at "wp"
   refine b9 ?_
   wtm_at "wp"
   refine bf (At.sqF el4) (dE (by rw [List.getElem?_map,ea];rfl)) ?_
   wtm_at "wp"
   refine db (zC H4) (At.sqF ew) (small (by omega)) (fun i x H' R hx s1 hR => ?_) (fun D Hf s1 fD eD => ?_)
   ·obtain ⟨f,hf,t,r,o,rfl,a,b⟩:=eO fw hx
    show tOp _ _ _ [some (.ref t)] _ _
    wtm_at "wp"
    have:=hR H' (Same.refl _)
    rw [j6 ⟨t,r,o,rfl,a,b⟩] at this
    exact this
   rw [j7 fw] at eD
   have eD':At Hf D (.lst ((ns[j].waits.map (·.1)).map V.int)):=eD
   have nl:=rV (k:=k) hw j
   have nl8:j * 100≤800:=by omega
   have gd:ns.getD j Ln.new=ns[j]:=by rw [List.getD_eq_getElem?_getD,List.getElem?_eq_getElem hj];rfl
   wtm_at "wp"
   have nm1:sJ ns k (j+1)=sJ ns k j++(if j=k then [] else ns[j].waits.map (·.1)):=by rw [← gd];rfl
   by_cases cjk:j=k
   ·rw [show (if (!decide ((j:Int)=(k:Int)))=true then (1:Int) else 0)=0 by rw [decide_eq_true (by omega)];rfl]
    refine kZ eD' (by decide) (by decide) (Nat.zero_le _) (fun p6 hp6 => ?_)
    refine dH (At.sqL (aE hp6 (s1.get e4))) (At.sqL ac) (by show _+0≤5000;rw [List.length_map];omega) (fun p7 hp7 => ?_)
    wtm_at "wp"
    refine ⟨_,p7,rfl,((s4.trans s1).new hp6).new hp7,?_⟩
    rw [nm1,if_pos cjk,List.append_nil]
    exact Cl (by show HO.lst (_++[])=_;rw [List.append_nil])
   ·rw [show (if (!decide ((j:Int)=(k:Int)))=true then (1:Int) else 0)=1 by rw [decide_eq_false (by omega)];rfl]
    refine kZ eD' (by decide) (by decide) (small (by show _ * 1≤1000;rw [List.length_map,List.length_map];omega)) (fun p6 hp6 => ?_)
    refine dH (At.sqL (aE hp6 (s1.get e4))) (At.sqL ac) (by show _+(_++[]).length≤5000;rw [List.append_nil,List.length_map,List.length_map,List.length_map];omega) (fun p7 hp7 => ?_)
    wtm_at "wp"
    refine ⟨_,p7,rfl,((s4.trans s1).new hp6).new hp7,?_⟩
    rw [nm1,if_neg cjk,List.map_append]
    exact Cl (by show HO.lst (_++(_++[]))=_;rw [List.append_nil])
  ·rintro σ H4 ⟨v,p,rfl,s4,e4⟩
   exact ⟨v,p,rfl,s4,e4⟩
 rintro σ H4 ⟨v4,p4,rfl,s4,e4⟩
 have hS4:=s4.seq hS
 refine bz (fun σ H5=>∃ gd:Bool,σ=[some (.ref l),some (.int (k:Int)),some (.int name),some (.ref r),some (.ref p4),v4,some (.bl gd),none,none]∧Same H4 H5∧(gd=true↔iZ name row)) ?_ ?_
 ·wtm_at "wp"
  refine ax (fun c1 => ?_) (fun c1 => ?_)
  rotate_left
  ·wtm_at "wp"
   exact ⟨false,rfl,Same.refl _,fun z=>(by cases z),fun z=>absurd z.1.1 c1⟩
  wtm_at "wp"
  refine ax (fun c2 => ?_) (fun c2 => ?_)
  rotate_left
  ·wtm_at "wp"
   exact ⟨false,rfl,Same.refl _,fun z=>(by cases z),fun z=>absurd z.1.2 c2⟩
  wtm_at "wp"
  rw [lr]
  refine ax (fun c3 => ?_) (fun c3 => ?_)
  rotate_left
  ·wtm_at "wp"
   exact ⟨false,rfl,Same.refl _,fun z=>(by cases z),fun z=>absurd z.2.1 (by omega)⟩
  wtm_at "wp"
  refine b9 ?_
  wtm_at "wp"
  refine db okB hS4 (by rw [lr];exact small (by omega)) (fun i x H' R hx s7 hR => ?_) (fun D H7 s7 fD eD => ?_)
  ·obtain ⟨b,hb,rfl⟩:=ce hx
   show qX _ _ _ _ _ [some (.int b)] _ _
   wtm_at "wp"
   refine ax (fun d1 => ?_) (fun d1 => ?_)
   ·wtm_at "wp"
    have:R (.bl (decide (0≤b) && decide (b≤255))) H':=hR H' (Same.refl _)
    rw [decide_eq_true d1] at this
    exact this
   ·have:R (.bl (decide (0≤b) && decide (b≤255))) H':=hR H' (Same.refl _)
    rw [decide_eq_false d1] at this
    exact this
  rw [zY] at eD
  wtm_at "wp"
  refine ⟨D,_,rfl,eD,?_⟩
  wtm_at "wp"
  refine ⟨_,rfl,s7,(tj row).trans ⟨fun z=>⟨⟨c1,c2⟩,by omega,z⟩,fun z=>z.2.2⟩⟩
 rintro σ H5 ⟨g,rfl,s5,hg⟩
 wtm_at "wp"
 have e5:=s5.get e4
 have s25:=s4.trans s5
 have frame:(¬ iZ name row∨jV ns k name=true)→Q (.str "frame") H5:=fun z=>qf z H5 s25
 cases g with
 | false=>
  wtm_at "wp"
  exact frame (.inl fun z=>(by cases hg.mpr z))
 | true=>
  have good:=hg.mp rfl
  wtm_at "wp"
  refine xH (l:=sJ ns k ns.length) (.inl (At.sqL e5)) ?_
  by_cases hel:name∈sJ ns k ns.length
  ·rw [decide_eq_true hel]
   wtm_at "wp"
   exact frame (.inr (decide_eq_true hel))
  ·rw [decide_eq_false hel]
   have q1:=qo good (decide_eq_false hel)
   clear qo qf frame
   have ea:=List.getElem?_eq_getElem hka
   have Lk:=(L0.at_ k _ _ ea (List.getElem?_eq_getElem hk)).kp (S:=[]) (Same.kp s25) List.not_mem_nil
   have hwk:=hw _ (List.getElem_mem hk)
   have el5:=s25.get el
   have L5:=L0.kp (S:=[]) (Same.kp s25) fun _ _=>List.not_mem_nil
   generalize hn:ns[k]=n at *
   generalize ha:as[k]=a at *
   obtain ⟨w,hh,p1,k1,sv,ed,⟨wv,wo,ew,fw⟩,fh,ip,ik,es⟩:=id Lk
   have wlen:wv.length=n.waits.length:=fw.len
   wtm_at "wp"
   refine bf (At.sqF el5) (dE (by rw [List.getElem?_map,ea];rfl)) ?_
   wtm_at "wp"
   refine b9 ?_
   wtm_at "wp"
   refine uF (xs:=wv) (fun D i ys H6=>Same H5 H6∧aS H5 D∧At H6 D (.lst ys)∧ys.length=((n.waits.take i).filter fun f=>decide (f.1≤name)).length∧ys.length≤i) (At.sqF ew) (small (by omega)) (fun D hD=>⟨au hD _,hD,ac,rfl,Nat.le_refl _⟩) (fun D i ys H6 hi ⟨s6,fD,eD,hy,hl⟩=>⟨eD,At.sqF (s6.get ew),hl⟩) (fun D i x ys H6 hx ⟨s6,fD,eD,hy,hl⟩ => ?_) (fun D ys H6 ⟨s6,fD,eD,hy,hl⟩ => ?_)
   ·obtain ⟨f,hf,t,rr,oo,rfl,a1,b1⟩:=eO fw hx
    have hi:i < wv.length:=(List.getElem?_eq_some_iff.mp hx).1
    have hf:n.waits[i]? = some f:=hf
    have a6:=s6.get a1
    have hsn:((n.waits.take (i+1)).filter fun f=>decide (f.1≤name)).length=ys.length+(if f.1≤name then 1 else 0):=by
     rw [cy hf,List.filter_append,List.length_append,← hy]
     split
     ·rename_i z;rw [List.filter_cons_of_pos (by simpa using z)];rfl
     ·rename_i z;rw [List.filter_cons_of_neg (by simpa using z)];rfl
    show pf _ [some (.int name),some (.ref t)] _ _
    wtm_at "wp"
    refine ax (fun c4 => ?_) (fun c4 => ?_)
    ·rw [if_pos c4] at hsn
     show iT 1 [some (.int name),some (.ref t)] _ _
     wtm_at "wp"
     exact pK hi eD ⟨s6.upF fD,fD,ac,by rw [hsn,List.length_append];rfl,by rw [List.length_append,List.length_singleton];omega⟩
    ·rw [if_neg c4] at hsn
     exact DQ hi eD ⟨s6,fD,eD,hsn.symm,by omega⟩
   rw [wlen,List.take_of_length_le (Nat.le_refl _)] at hy
   have hy':ys.length=(n.waits.filter fun g=>decide (g.1≤name)).length:=hy
   clear hy
   have e6:=s6.get ed
   have ew6:=s6.get ew
   have el6:=s6.get el5
   have eD6:=eD
   have fw6:Frs H6 wv n.waits:=fw.kp (S:=[]) (Same.kp s6)
   have hS6:=(s25.trans s6).seq hS
   wtm_at "wp"
   rw [hy']
   have hsp:(n.waits.filter fun g=>decide (g.1≤name)).length≤n.waits.length:=List.length_filter_le _ _
   unfold Ln.wait at q1
   generalize (n.waits.filter fun g=>decide (g.1≤name)).length=sp at *
   wtm_at "wp"
   refine cK (At.sqF ew6) (rA wv sp) (fun b1 hb1 => ?_)
   wtm_at "wp"
   intro b2 hb2
   refine bQ ac (fun o2 => ?_)
   rw [da]
   wtm_at "wp"
   refine ⟨small (show 2≤1000 by decide),fun t3 ht3 => ?_⟩
   wtm_at "wp"
   refine ⟨small (show 1≤1000 by decide),fun b4 hb4 => ?_⟩
   obtain ⟨H7,hH7⟩:∃ H7,H7=upd (upd (upd (upd H6 b1 (.lst (wv.take sp))) b2 (.frz o2 (.lst (row.map V.int)))) t3 (.tup [.int name,.ref b2])) b4 (.lst [.ref t3]):=⟨_,rfl⟩
   rw [← hH7]
   have s7:Same H6 H7:=by rw [hH7];exact (((au hb1 _).new hb2).new ht3).new hb4
   have c1:At H7 b1 (.lst (wv.take sp)):=by rw [hH7];wtm_at "hA"
   have c4:At H7 b4 (.lst [.ref t3]):=by rw [hH7];exact ac
   have f7:FrAt H7 (.ref t3) (name,row):=⟨t3,b2,o2,rfl,by rw [hH7];wtm_at "hA",by rw [hH7];wtm_at "hA"⟩
   clear hH7
   refine dH (At.sqL c1) (At.sqL c4) (by rw [List.length_take,List.length_singleton];omega) (fun b5 hb5 => ?_)
   wtm_at "wp"
   refine cK (At.sqF (aE hb5 (s7.get ew6))) (fk wv sp) (fun b6 hb6 => ?_)
   refine dH (At.sqL (aE hb6 ac)) (At.sqL ac) (by rw [List.length_append,List.length_take,List.length_drop,List.length_singleton];omega) (fun b7 hb7 => ?_)
   refine bQ ac (fun o7 => ?_)
   rw [da]
   obtain ⟨H8,hH8⟩:∃ H8,H8=upd (upd (upd H7 b5 (.lst (wv.take sp++[.ref t3]))) b6 (.lst (wv.drop sp))) b7 (.frz o7 (.lst (wv.take sp++[.ref t3]++wv.drop sp))):=⟨_,rfl⟩
   rw [← hH8]
   have s8:Same H7 H8:=by rw [hH8];exact ((au hb5 _).new hb6).new hb7
   have c7:At H8 b7 (.frz o7 (.lst (wv.take sp++[.ref t3]++wv.drop sp))):=by rw [hH8];exact ac
   clear hH8
   have e8:=s8.get (s7.get e6)
   have el8:=s8.get (s7.get el6)
   have n7:b7≠a:=c7.ne e8 (by intro z;cases z)
   wtm_at "wp"
   refine bf (At.sqF el8) (dE (by rw [List.getElem?_map,ea];rfl)) ?_
   wtm_at "wp"
   have s28:Same H2 H8:=((s25.trans s6).trans s7).trans s8
   have kk:∀ d,Kp [a] H8 (upd H8 a (.dK d)):=fun d=>Kp.upd (Kp.refl _ _) (by simp) e8 (fun z=>z)
   have k2:∀ d,Kp [a] H5 (upd H8 a (.dK d)):=fun d=>(Same.kp ((s6.trans s7).trans s8)).trans (kk d)
   have L8:=L0.kp (S:=[]) (Same.kp s28) fun _ _=>List.not_mem_nil
   exact q1 _ ((Same.kp s28).trans ((kk _).of1 ea)) (L8.set ea (kk _) ⟨b7,hh,p1,k1,sv,ac,⟨_,o7,aG n7 c7,j5 (j5 (qh sp (fw.kp (k2 _))) (.cons (f7.kp ((Same.kp s8).trans (kk _))) .nil)) (qi sp (fw.kp (k2 _)))⟩,fh.kp (k2 _),ip.kp (k2 _),ik.kp (k2 _),es.kp (k2 _)⟩)
abbrev qR:Stmt:=(top 74)
abbrev oX (K:PySem.W.Frag) (c:Cs):Sp:=sp4 fun u v w x H Q _=>∃ (b a:Addr) (F as:List Addr) (ds:List Nd) (t:Nat) (i name:Int) (row:List Int),u = .ref b∧v = .int i∧w = .int name∧x = .ref a∧BusAt c H b F as ds t∧as.length≤8∧(∀ d∈ds,d.qu.length≤900)∧SqL K H a (row.map V.int) ∧
 i.natAbs.log2 < 1920∧name.natAbs.log2 < 1920∧(∀ b∈row,b.natAbs.log2 < 1920) ∧
 (¬ (0≤i∧i < as.length)→∀ H',Same H H'→Q (.str "node") H') ∧
 (∀ (k:Nat) d,i=(k:Nat)→ds[k]? = some d→((¬ iZ name row∨cq ds k name=true)→∀ H',Same H H'→Q (.str "frame") H') ∧
  (iZ name row→cq ds k name=false→zD c H b F as (ds.set k (d.letWait (name,row))) t (.str "ok") Q))
theorem sc__law_told:FnScope ["_law_bus", "_law_at", "_law_name", "_law_row", "_law_kept", "e", "_law_kinds"] ["_law_bus", "_law_at", "_law_name", "_law_row"] (ah qR):=aR
theorem oY (T:Txt K mg c):dm P w K mg base CX0 4 "_law_told" ["_law_bus", "_law_at", "_law_name", "_law_row"] (oX K c):=by
 refine T.d__law_told.ok sc__law_told (fun _ _ _ _ _ _ us hl=>match us,hl with | [_,_,_,_],_=>rfl) Dz (fun f cdv A outer s H vs Q E hr h => ?_)
 obtain ⟨v0,v1,v2,v3,rfl,h⟩:=h
 refine ⟨_,(ag (aD (i:=4) sc__law_told.nd rfl (.inl rfl) cc)
   (aZ (y7 (K:=K) (iz:=4) (ie:=5) (E9 (zH T) hr (aa (pv 0) (aa (pv 1) (aa (pv 2) (aa (pv 3) ae))))) rfl rfl rfl T.m_BusError T.t_BusError T.l_BusError T.b_BusError sc__law_told.nd rfl rfl rfl (.inl rfl))
   (ag (aQ (ai iw (pv 4) cc (ao _))
    (ad (aC am))
    az)
   (ag (aD (i:=6) sc__law_told.nd rfl (.inl rfl) (bj (aa (aw (gL (K:=K)) rfl T.isI PyProof.Rows.boot_isinstance (aa (pv 4) (aa (pgr T.m_NoNode) ae))) (aa (aw (gL (K:=K)) rfl T.isI PyProof.Rows.boot_isinstance (aa (pv 4) (aa (pgr T.m_BadFrame) ae))) (aa (aw (gL (K:=K)) rfl T.isI PyProof.Rows.boot_isinstance (aa (pv 4) (aa (pgr T.m_BadBits) ae))) ae)))))
   (ag (aQ (PW.pt (dZ (ai io (cr (K:=K) PySem.F.plainAttrs_list PySem.F.slot_list_count PySem.F.type_list_count wX (pv 6) (aa ij ae)) af (ao _)) (cS (iU (cC (aw (gL (K:=K)) rfl T.isI PyProof.Rows.boot_isinstance (aa (pv 4) (aa (pty T.valueError zd) ae))))))))
    (ad (aC am))
    az)
   (ad (aC (bh (aK (K:=K)) (bj (aa am (aa am (aa am ae)))) (cr (K:=K) PySem.F.plainAttrs_list PySem.F.slot_list_index PySem.F.type_list_index uQ (pv 6) (aa ij ae)) (fun _ _=>rfl))))))))),?_⟩
 try dsimp only [br,Cx.nox,Cx.wish]
 refine ak (s2:=[some v0,some v1,some v2,some v3,none,none,none]) rfl ?_
 obtain ⟨b,a,F,as,ds,t,i,name,row,rfl,rfl,rfl,rfl,h,h8,hfew,hS,hli,hln,hlr,qn,qg⟩:=h
 wtm_at "wp"
 refine bz (fun σ H2=>∃ kept,σ=[some (.ref b),some (.int i),some (.int name),some (.ref a),some kept,none,none]∧((kept = .non∧Q (.str "ok") H2)∨∃ ea,kept = .ref ea∧((At H2 ea (vH ea c.N)∧∀ H',Same H2 H'→Q (.str "node") H')∨(At H2 ea (vH ea c.F)∧∀ H',Same H2 H'→Q (.str "frame") H')))) ?_ ?_
 ·wtm_at "wp"
  refine ⟨b,a,F,as,ds,t,i,name,row,rfl,rfl,rfl,rfl,h,h8,hfew,hS,hli,hln,hlr,fun z => ?_,fun k d ek ed => ?_⟩
  ·refine ⟨c.N,rfl,T.r_NoNode,fun ea fea => ?_⟩
   exact ⟨.ref ea,rfl,.inr ⟨ea,rfl,.inl ⟨ac,fun H' s=>qn z H' ((au fea _).trans s)⟩⟩⟩
  ·obtain ⟨g1,g2⟩:=qg k d ek ed
   refine ⟨fun g => ?_,fun g e H1 s1 => ?_,fun g e H1 F1 k1 h1 f1 => ?_⟩
   ·refine ⟨c.F,rfl,T.r_BadFrame,fun ea fea => ?_⟩
    exact ⟨.ref ea,rfl,.inr ⟨ea,rfl,.inr ⟨ac,fun H' s=>g1 (.inl g) H' ((au fea _).trans s)⟩⟩⟩
   ·refine ⟨c.F,rfl,T.r_BadFrame,fun ea fea => ?_⟩
    exact ⟨.ref ea,rfl,.inr ⟨ea,rfl,.inr ⟨ac,fun H' s=>g1 (.inr e) H' ((s1.new fea).trans s)⟩⟩⟩
   ·exact ⟨.non,rfl,.inl ⟨rfl,g2 g e H1 F1 k1 h1 f1⟩⟩
 rintro σ H2 ⟨kept,rfl,⟨rfl,q⟩ | ⟨ea,rfl,hc⟩⟩
 ·wtm_at "wp"
  exact q
 wtm_at "wp"
 rcases hc with ⟨ee,q⟩ | ⟨ee,q⟩
 ·refine ⟨ea,c.N,_,_,_,rfl,⟨_,ee⟩,T.e_NoNode,rfl,T.i_NoNode_NoNode,?_⟩
  wtm_at "wp"
  refine ⟨ea,c.N,_,_,_,rfl,⟨_,ee⟩,T.e_NoNode,rfl,T.i_NoNode_BadFrame,?_⟩
  wtm_at "wp"
  refine ⟨ea,c.N,_,_,_,rfl,⟨_,ee⟩,T.e_NoNode,rfl,T.i_NoNode_BadBits,?_⟩
  wtm_at "wp"
  refine ⟨small (show 3≤1000 by decide),fun p hp => ?_⟩
  have s3:Same H2 (upd H2 p (.lst [.bl true,.bl false,.bl false])):=au hp _
  have e3:At (upd H2 p (.lst [.bl true,.bl false,.bl false])) p (.lst ([true,false,false].map V.bl)):=ac
  generalize upd H2 p (.lst [.bl true,.bl false,.bl false])=H3 at *
  have ee3:=s3.get ee
  wtm_at "wp"
  refine nM e3 ?_
  wtm_at "wp"
  refine bP (fun c1=>absurd (by decide) c1) (fun _ => ?_)
  wtm_at "wp"
  refine ⟨ea,c.N,_,_,_,rfl,⟨_,ee3⟩,T.e_NoNode,rfl,T.i_NoNode_V,?_⟩
  wtm_at "wp"
  refine ⟨small (show 3≤1000 by decide),fun p2 hp2 => ?_⟩
  wtm_at "wp"
  refine nN (aE hp2 e3) (by decide) ?_
  refine bf (At.sqL ac) (show atI _ _=some (.str "node") from rfl) ?_
  wtm_at "wp"
  exact q _ (s3.new hp2)
 ·refine ⟨ea,c.F,_,_,_,rfl,⟨_,ee⟩,T.e_BadFrame,rfl,T.i_BadFrame_NoNode,?_⟩
  wtm_at "wp"
  refine ⟨ea,c.F,_,_,_,rfl,⟨_,ee⟩,T.e_BadFrame,rfl,T.i_BadFrame_BadFrame,?_⟩
  wtm_at "wp"
  refine ⟨ea,c.F,_,_,_,rfl,⟨_,ee⟩,T.e_BadFrame,rfl,T.i_BadFrame_BadBits,?_⟩
  wtm_at "wp"
  refine ⟨small (show 3≤1000 by decide),fun p hp => ?_⟩
  have s3:Same H2 (upd H2 p (.lst [.bl false,.bl true,.bl false])):=au hp _
  have e3:At (upd H2 p (.lst [.bl false,.bl true,.bl false])) p (.lst ([false,true,false].map V.bl)):=ac
  generalize upd H2 p (.lst [.bl false,.bl true,.bl false])=H3 at *
  have ee3:=s3.get ee
  wtm_at "wp"
  refine nM e3 ?_
  wtm_at "wp"
  refine bP (fun c1=>absurd (by decide) c1) (fun _ => ?_)
  wtm_at "wp"
  refine ⟨ea,c.F,_,_,_,rfl,⟨_,ee3⟩,T.e_BadFrame,rfl,T.i_BadFrame_V,?_⟩
  wtm_at "wp"
  refine ⟨small (show 3≤1000 by decide),fun p2 hp2 => ?_⟩
  wtm_at "wp"
  refine nN (aE hp2 e3) (by decide) ?_
  refine bf (At.sqL ac) (show atI _ _=some (.str "frame") from rfl) ?_
  wtm_at "wp"
  exact q _ (s3.new hp2)
theorem Cm {K:PySem.W.Frag} {H0 H:Hp} {v:V} {f:Fr}:Cp H0 H v f→TFr K H v f:=fun ⟨t,r,e,a,b,_⟩=>⟨t,r,e,At.sqT a,At.sqL b⟩
theorem Cn {K:PySem.W.Frag} {H:Hp} {v:V} {f:Fr}:FrAt H v f→TFr K H v f:=fun ⟨t,r,_,e,a,b⟩=>⟨t,r,e,At.sqT a,At.sqF b⟩
theorem ii {K:PySem.W.Frag} {H0 H:Hp} {a b:Addr} {us vs:List V} {fs:List Fr} {o:Obj} {Q:VK} (ea:At H a (.lst us)) (pa:Paired (Cp H0 H) us fs) (eb:At H b (.frz o (.lst vs))) (pb:Frs H vs fs) (h:Q (.bl false) H):Bv K (.ref a) (.ref b) H Q:=by
 refine wY (fs:=fs) (At.sqL ea) (At.sqF eb) (Paired.length pa) pb.len (fun j x f ex ef => ?_) (fun j x f ex ef => ?_) h
 ·obtain ⟨y,ey,hy⟩:=eO pa ex
  rw [ef] at ey
  cases ey
  exact Cm hy
 ·obtain ⟨y,ey,hy⟩:=eO pb ex
  rw [ef] at ey
  cases ey
  exact Cn hy
def Chgd (H0 H:Hp) (C:Addr) (m:Nat) (v:V):Prop:=∃ t r n xs,v = .ref t∧At H t (.tup [.int n,.ref r])∧aS H0 r∧At H r (.lst xs)∧xs.length≤m∧r≠C
theorem Chgd.append {H0 H:Hp} {m:Nat} {v y:V} {r' C:Addr} {xs':List V} (h:Chgd H0 H C m v) (e':At H r' (.lst xs')) (hl:xs'.length≤m):Chgd H0 (L2.upd H r' (.lst (xs'++[y]))) C (m+1) v:=by
 obtain ⟨t,r,n,xs,rfl,et,fr,er,hx,nc⟩:=h
 have nt:t≠r':=et.ne e' (by intro z;cases z)
 by_cases c:r=r'
 ·subst c
  exact ⟨t,r,n,xs'++[y],rfl,aG nt et,fr,ac,by rw [List.length_append,List.length_singleton];omega,nc⟩
 ·exact ⟨t,r,n,xs,rfl,aG nt et,fr,aG c er,by omega,nc⟩
theorem Chgd.of {H0 H1 H2 H:Hp} {v:V} {f:Fr} {m:Nat} {C:Addr} {o:HO} (h:Cp H1 H2 v f) (s0:Same H0 H1) (s:Same H2 H) (hC:aS H C) (hl:f.2.length≤m):Chgd H0 (L2.upd H C o) C m v:=by
 obtain ⟨t,r,rfl,a,b,_,fr⟩:=h
 exact ⟨t,r,f.1,_,rfl,aE hC (s.get a),s0.fr fr,aE hC (s.get b),by rw [List.length_map];exact hl,aB (s.get b) hC⟩
abbrev qS:Stmt:=(top 75)
abbrev oZ (K:PySem.W.Frag) (c:Cs):Sp:=sp2 fun u v H Q _=>∃ (b l:Addr) (F as bs:List Addr) (ds:List Nd) (ns:List Ln) (t:Nat) (o:Obj),u = .ref b∧v = .ref l∧BusAt c H b F as ds t∧as.length≤8∧At H l (.frz o (.lst (bs.map V.ref)))∧LnsAt H bs ns∧AllSim ds ns∧Few 100 400 ds∧(∀ d∈ds,∀ f∈d.tk++d.qu,f.2.length≤8)∧(∀ H',Same H H'→Q (.bl true) H')
theorem sc__law_same:FnScope ["_law_bus", "_law_nodes", "_law_at", "_law_node", "_law_told_here", "_law_frame_here"] ["_law_bus", "_law_nodes"] (ah qS):=aR
theorem o0 (T:Txt K mg c):dm P w K mg base CX0 3 "_law_same" ["_law_bus", "_law_nodes"] (oZ K c):=by
 refine T.d__law_same.ok sc__law_same (fun _ _ _ _ _ _ us hl=>match us,hl with | [_,_],_=>rfl) fj (fun f cdv A outer s H vs Q E hr h => ?_)
 obtain ⟨v0,v1,rfl,h⟩:=h
 refine ⟨_,(ag (bL PassesOwn.never rfl (bH rfl T.range (aa (aw (aq (K:=K)) rfl T.len PySem.boot_len (aa (pv 1) ae)) ae)) (bc (i:=2) sc__law_same.nd rfl (.inl rfl))
    (ag (aD (i:=3) sc__law_same.nd rfl (.inl rfl) (bh (aK (K:=K)) (pv 1) (pv 2) (fun _ _=>rfl)))
    (ag (aD (i:=4) sc__law_same.nd rfl (.inl rfl) (d7 T.k_Bus (i7 T) hr ay (pv 0) (aa (pv 2) ae)))
    (aZ (aQ (PW.pt (dZ (ai (iy (K:=K) hr) (pv 4) (aA (aI hr) (pv 3) am (fun _ _=>rfl)) (ao _)) (dZ (ai (iy (K:=K) hr) (d7 T.k_Bus (eY T) hr ay (pv 0) (aa (pv 2) ae)) (aA (aI hr) (pv 3) am (fun _ _=>rfl)) (ao _)) (cS (ai io (d7 T.k_Bus (qC T) hr ay (pv 0) (aa (pv 2) ae)) (aA (aI hr) (pv 3) am (fun _ _=>rfl)) (ao _))))))
     (ad (aC ij))
     az)
    (aZ (aQ (PW.pt (dZ (iU (cC (bV (mD T) hr ay (aa (d7 T.k_Bus (hW T) hr ay (pv 0) (aa (pv 2) ae)) ae)))) (cS (ai io (d7 T.k_Bus (hW T) hr ay (pv 0) (aa (pv 2) ae)) (aA (aI hr) (pv 3) am (fun _ _=>rfl)) (ao _)))))
     (ad (aC ij))
     az)
    (aZ (bL PassesOwn.never rfl (aV (K:=K) (ap (ge (K:=K)) (pv 4) (d7 T.k_Bus (eY T) hr ay (pv 0) (aa (pv 2) ae)))) (bc (i:=5) sc__law_same.nd rfl (.inl rfl))
     (ad (aH (cr (K:=K) PySem.F.plainAttrs_list PySem.F.slot_list_append PySem.F.type_list_append bN (bh (bR (K:=K)) (pv 5) af (fun _ _=>rfl)) (aa af ae)))))
    (ad (aQ (PW.pt (dZ (ai (iy (K:=K) hr) (d7 T.k_Bus (i7 T) hr ay (pv 0) (aa (pv 2) ae)) (aA (aI hr) (pv 3) am (fun _ _=>rfl)) (ao _)) (cS (ai (iy (K:=K) hr) (d7 T.k_Bus (eY T) hr ay (pv 0) (aa (pv 2) ae)) (aA (aI hr) (pv 3) am (fun _ _=>rfl)) (ao _)))))
     (ad (aC ij))
     az))))))))
   (ad (aC ij))),?_⟩
 try dsimp only [br,Cx.nox,Cx.wish]
 refine ak (s2:=[some v0,some v1,none,none,none,none]) rfl ?_
 obtain ⟨b,l,F,as,bs,ds,ns,t,o,rfl,rfl,h,h8,el,L0,sim,few,hf8,q⟩:=h
 have hlen:=L0.len
 have slen:=sim.len
 have alen:=h.len
 have lb:(bs.map V.ref).length=bs.length:=List.length_map _
 wtm_at "wp"
 refine dF ?_
 wtm_at "wp"
 rw [lb]
 refine cW ns.length (fun i σ H2=>∃ v2 v3 v4 v5:Option V,σ=[some (.ref b),some (.ref l),v2,v3,v4,v5]∧Same H H2) (by omega) (by omega) ⟨_,_,_,_,rfl,Same.refl _⟩ ?_ ?_
 rotate_left
 ·rintro σ H2 ⟨v2,v3,v4,v5,rfl,s2⟩
  wtm_at "wp"
  exact q H2 s2
 rintro i σ H2 hi ⟨v2,v3,v4,v5,rfl,s2⟩
 have hib:i < bs.length:=by omega
 have hid:i < ds.length:=by omega
 have eb:=List.getElem?_eq_getElem hib
 have ed:=List.getElem?_eq_getElem hid
 have en:=List.getElem?_eq_getElem hi
 have sm:=sim.at_ i _ _ ed en
 obtain ⟨f1,f2⟩:=few _ (List.getElem_mem hid)
 have L2:=(L0.at_ i _ _ eb en).kp (S:=[]) (Same.kp s2) List.not_mem_nil
 have h2:=h.same s2
 have hf8:=hf8 _ (List.getElem_mem hid)
 have el2:=s2.get el
 clear L0 el few sim hlen slen h
 generalize ns[i]=n at *
 generalize bs[i]=a at *
 generalize ds[i]=d at *
 obtain ⟨w,hh,p,k,sv,e0,⟨wv,wo,ew,fw⟩,⟨hv,ho,eh,fh⟩,ip,ik,es⟩:=id L2
 rw [sm.waits] at fw
 rw [sm.heard] at fh
 clear ip ik es L2
 obtain ⟨dx,lx,ox,nx,e1,_⟩:=h2.ex
 wtm_at "wp"
 refine bf (At.sqF el2) (dE (by rw [List.getElem?_map,eb];rfl)) ?_
 wtm_at "wp"
 refine ⟨b,F,as,ds,t,i,d,rfl,rfl,h2,h8,ed,by omega,fun D us H3 s3 fD eD pD => ?_⟩
 wtm_at "wp"
 have h3:=h2.same s3
 have e03:=s3.get e0
 have e13:=s3.get e1
 have kw:∀ {H':Hp},Same H2 H'→Frs H' wv d.qu:=fun s=>fw.kp (S:=[]) (Same.kp s)
 have kh:∀ {H':Hp},Same H2 H'→Frs H' hv d.tk:=fun s=>fh.kp (S:=[]) (Same.kp s)
 refine bz (fun σ H4=>σ=[some (.ref b),some (.ref l),some (.int (i:Int)),some (.ref a),some (.ref D),v5]∧Same H3 H4) ?_ ?_
 ·wtm_at "wp"
  refine ii eD pD (s3.get eh) (kh s3) ?_
  wtm_at "wp"
  refine ⟨b,F,as,ds,t,i,d,rfl,rfl,h3,h8,ed,by omega,fun D4 us4 H4 s4 fD4 eD4 pD4 => ?_⟩
  have e04:=s4.get e03
  have e14:=s4.get e13
  wtm_at "wp"
  refine ii eD4 pD4 ((s3.trans s4).get ew) (kw (s3.trans s4)) ?_
  wtm_at "wp"
  refine ⟨b,F,as,ds,t,i,d,rfl,rfl,h3.same s4,h8,ed,?_⟩
  wtm_at "wp"
  rw [sm.mode]
  refine bP (fun z=>absurd rfl z) (fun _ => ?_)
  wtm_at "wp"
  exact ⟨rfl,s4⟩
 rintro σ H4 ⟨rfl,s4⟩
 have h4:=h3.same s4
 have e04:=s4.get e03
 have e14:=s4.get e13
 refine bz (fun σ H5=>σ=[some (.ref b),some (.ref l),some (.int (i:Int)),some (.ref a),some (.ref D),v5]∧H5=H4) ?_ ?_
 ·wtm_at "wp"
  refine ⟨b,F,as,ds,t,i,d,rfl,rfl,h4,h8,ed,?_⟩
  wtm_at "wp"
  refine ⟨b,F,as,ds,t,i,d,rfl,rfl,h4,h8,ed,?_⟩
  wtm_at "wp"
  rw [sm.faults]
  refine bP (fun z=>absurd rfl z) (fun _ => ?_)
  wtm_at "wp"
  exact ⟨rfl,rfl⟩
 rintro σ H5 ⟨rfl,rfl⟩
 refine bz (fun σ H6=>∃ v5':Option V,σ=[some (.ref b),some (.ref l),some (.int (i:Int)),some (.ref a),some (.ref D),v5']∧Same H2 H6) ?_ ?_
 ·refine cw ?_
  wtm_at "wp"
  refine ⟨b,F,as,ds,t,i,d,rfl,rfl,h4,h8,ed,by omega,fun D6 us6 H6 s6 fD6 eD6 pD6 => ?_⟩
  have s26:=(s3.trans s4).trans s6
  have l1:=Paired.length pD
  have l2:=Paired.length pD6
  refine dH (At.sqL ((s4.trans s6).get eD)) (At.sqL eD6) (by omega) (fun C hC => ?_)
  have all:∀ v∈us++us6,Chgd H2 (upd H6 C (.lst (us++us6))) C 8 v:=fun v hv=>by
   rcases List.mem_append.mp hv with z | z
   ·obtain ⟨j,e⟩:=List.mem_iff_getElem?.mp z
    obtain ⟨f,ef,cp⟩:=eO pD e
    exact Chgd.of cp (Same.refl _) (s4.trans s6) hC (hf8 f (List.mem_append.mpr (.inl (List.mem_of_getElem? ef))))
   ·obtain ⟨j,e⟩:=List.mem_iff_getElem?.mp z
    obtain ⟨f,ef,cp⟩:=eO pD6 e
    exact Chgd.of cp (s3.trans s4) (Same.refl _) hC (hf8 f (List.mem_append.mpr (.inr (List.mem_of_getElem? ef))))
  have eC:At (upd H6 C (.lst (us++us6))) C (.lst (us++us6)):=ac
  have s7:=s26.new (o := .lst (us++us6)) hC
  have fC:aS H2 C:=s26.fr hC
  generalize upd H6 C (.lst (us++us6))=H7 at *
  refine bW (xs:=us++us6) (fun j σ H8=>∃ v5':Option V,σ=[some (.ref b),some (.ref l),some (.int (i:Int)),some (.ref a),some (.ref D),v5']∧Same H2 H8∧At H8 C (.lst (us++us6))∧∀ v∈us++us6,Chgd H2 H8 C (8+j) v) (At.sqL eC) ⟨v5,rfl,s7,eC,all⟩ (fun j σ H8 _ ⟨_,_,_,e,_⟩=>At.sqL e) ?_ ?_
  ·rintro j y σ H8 hy ⟨v,rfl,s8,eC8,al⟩
   have hj:=(List.getElem?_eq_some_iff.mp hy).1
   rw [List.length_append] at hj
   obtain ⟨t1,r1,n1,xs,rfl,et,fr,er,hl,nc⟩:=al y (List.mem_of_getElem? hy)
   wtm_at "wp"
   refine bO er (bu (by omega)) ?_
   exact ⟨_,rfl,s8.upF fr,aG nc.symm eC8,fun v hv=>(al v hv).append er hl⟩
  ·rintro σ H8 ⟨v,rfl,s8,eC8,al⟩
   exact ⟨v,rfl,s8⟩
 rintro σ H6 ⟨v5,rfl,s6⟩
 have h6:=h2.same s6
 have e06:=s6.get e0
 have e16:=s6.get e1
 wtm_at "wp"
 refine ⟨b,F,as,ds,t,i,d,rfl,rfl,h6,h8,ed,by omega,fun D7 us7 H7 s7 fD7 eD7 pD7 => ?_⟩
 have e07:=s7.get e06
 have e17:=s7.get e16
 have s27:=s6.trans s7
 wtm_at "wp"
 refine ii eD7 pD7 (s27.get eh) (kh s27) ?_
 wtm_at "wp"
 refine ⟨b,F,as,ds,t,i,d,rfl,rfl,h6.same s7,h8,ed,by omega,fun D8 us8 H8 s8 fD8 eD8 pD8 => ?_⟩
 have e08:=s8.get e07
 wtm_at "wp"
 refine ii eD8 pD8 ((s27.trans s8).get ew) (kw (s27.trans s8)) ?_
 wtm_at "wp"
 exact ⟨_,_,_,_,rfl,s2.trans (s27.trans s8)⟩
theorem vE {S:List Addr} {H0 H H':Hp} (s:Same H0 H) (k:Kp S H H') (n:∀ x∈S,aS H0 x):Same H0 H':=fun x o e=>k.ot x o (fun z=>(aJ (n x z) e) rfl) (s x o e)
structure Both (c:Cs) (H0 H:Hp) (b l:Addr) (F as bs:List Addr) (o:Obj) (ds:List Nd) (ls:List Ln) (t:Nat):Prop where
 same:Same H0 H
 bus:BusAt c H b F as ds t
 el:At H l (.frz o (.lst (bs.map V.ref)))
 law:LnsAt H bs ls
 newF:∀ x∈F,aS H0 x
 newB:∀ x∈bs,aS H0 x
 apart:∀ x∈F,x∉bs
section
variable {c:Cs} {H0 H H':Hp} {b l:Addr} {F F' as bs:List Addr} {o:Obj} {ds ds':List Nd} {ls ls':List Ln} {t t':Nat}
theorem Both.more (h:Both c H0 H b l F as bs o ds ls t) (s:Same H H'):Both c H0 H' b l F as bs o ds ls t:=
 ⟨h.same.trans s,h.bus.same s,s.get h.el,h.law.kp (S:=[]) (Same.kp s) fun _ _=>List.not_mem_nil,h.newF,h.newB,h.apart⟩
theorem Both.nF (h:Both c H0 H b l F as bs o ds ls t) {p:Addr} (hp:aS H p):p∉F:=fun z=>by
 obtain ⟨u,e,_⟩:=h.bus.live p z
 exact (aJ hp e) rfl
theorem Both.nB (h:Both c H0 H b l F as bs o ds ls t) {p:Addr} (hp:aS H p):p∉bs:=h.law.new hp
theorem Both.busTo (h:Both c H0 H b l F as bs o ds ls t) (k:Kp F H H') (h':BusAt c H' b F' as ds' t') (f:∀ x∈F',x∈F∨aS H x):Both c H0 H' b l F' as bs o ds' ls t'∧(∀ p u,At H p u→p∉F→At H' p u∧p∉F'):=by
 refine ⟨⟨vE h.same k h.newF,h',k.frz h.el,h.law.kp k fun a ha z=>h.apart a z ha,fun x hx => ?_,h.newB,fun x hx => ?_⟩,fun p u e n=>⟨k.get n e,fun z => ?_⟩⟩
 ·rcases f x hx with z | z
  ·exact h.newF x z
  ·exact h.same.fr z
 ·rcases f x hx with z | z
  ·exact h.apart x z
  ·exact h.law.new z
 ·rcases f p z with y | y
  ·exact n y
  ·exact (aJ y e) rfl
theorem Both.lawTo (h:Both c H0 H b l F as bs o ds ls t) (k:Kp bs H H') (h':LnsAt H' bs ls'):Both c H0 H' b l F as bs o ds ls' t:=
 ⟨vE h.same k h.newB,h.bus.kp k h.apart,k.frz h.el,h',h.newF,h.newB,h.apart⟩
theorem Both.upd (h:Both c H0 H b l F as bs o ds ls t) {p:Addr} {u v:HO} (e:At H p u) (hu:¬ Im u) (n0:aS H0 p) (n1:p∉F) (n2:p∉bs):Both c H0 (L2.upd H p v) b l F as bs o ds ls t:=by
 have k:Kp [p] H (L2.upd H p v):=(Kp.refl _ _).upd (by simp) e hu
 refine ⟨h.same.upF n0,h.bus.kp k fun x hx=>aM fun z=>n1 (z ▸ hx),k.frz h.el,h.law.kp k fun x hx=>aM fun z=>n2 (z ▸ hx),h.newF,h.newB,h.apart⟩
end
theorem vF {ds:List Nd} {ls:List Ln} (h:AllSim ds ls) (k:Nat) (name:Int):cq ds k name=jV ls k name:=by
 unfold cq jV
 rw [Bool.eq_iff_iff,List.any_eq_true,decide_eq_true_iff,rT]
 have hl:=h.len
 constructor
 ·rintro ⟨d,hd,hn⟩
  have hn:=of_decide_eq_true hn
  have:∃ i,i≠k∧ds[i]? = some d:=by
   rcases List.mem_append.mp hd with z | z
   ·obtain ⟨i,e⟩:=List.mem_iff_getElem?.mp z
    rw [List.getElem?_take] at e
    split at e
    ·exact ⟨i,by omega,e⟩
    ·cases e
   ·obtain ⟨i,e⟩:=List.mem_iff_getElem?.mp z
    rw [List.getElem?_drop] at e
    exact ⟨k+1+i,by omega,e⟩
  obtain ⟨i,hi,e⟩:=this
  have hlt:=(List.getElem?_eq_some_iff.mp e).1
  have en:=List.getElem?_eq_getElem (show i < ls.length by omega)
  have s:=h.at_ i d _ e en
  refine ⟨i,by omega,hi,?_⟩
  rw [List.getD_eq_getElem?_getD,en]
  show name∈ls[i].waits.map (·.1)
  rw [s.waits]
  exact hn
 ·rintro ⟨i,h1,h2,h3⟩
  have en:=List.getElem?_eq_getElem h1
  have ed:=List.getElem?_eq_getElem (show i < ds.length by omega)
  have s:=h.at_ i _ _ ed en
  rw [List.getD_eq_getElem?_getD,en] at h3
  have h3:name∈ls[i].waits.map (·.1):=h3
  rw [s.waits] at h3
  refine ⟨_,List.mem_append.mpr ?_,decide_eq_true h3⟩
  rcases Nat.lt_or_ge i k with z | z
  ·exact .inl (List.mem_iff_getElem?.mpr ⟨i,by rw [List.getElem?_take,if_pos z];exact ed⟩)
  ·exact .inr (List.mem_iff_getElem?.mpr ⟨i - (k+1),by rw [List.getElem?_drop,show k+1+(i - (k+1))=i by omega];exact ed⟩)
theorem LnsAt.nil {H:Hp}:LnsAt H [] []:=⟨rfl,List.nodup_nil,fun i a n e=>by simp at e⟩
theorem LnsAt.snoc {H:Hp} {bs:List Addr} {ls:List Ln} {a:Addr} {n:Ln} (h:LnsAt H bs ls) (l:LnAt H a n) (na:a∉bs):LnsAt H (bs++[a]) (ls++[n]):=by
 have hl:=h.len
 refine ⟨by rw [List.length_append,List.length_append,h.len];rfl,?_,fun i b m e1 e2 => ?_⟩
 ·rw [List.nodup_append]
  exact ⟨h.nd,by simp,fun x hx y hy z=>na (by rw [← List.mem_singleton.mp hy,← z];exact hx)⟩
 ·rcases Nat.lt_or_ge i bs.length with z | z
  ·rw [List.getElem?_append_left z] at e1
   rw [List.getElem?_append_left (by omega)] at e2
   exact h.at_ i b m e1 e2
  ·rw [List.getElem?_append_right z] at e1
   rw [List.getElem?_append_right (by omega)] at e2
   have h0:i - bs.length=0:=by
    have:=(List.getElem?_eq_some_iff.mp e1).1
    simp at this
    omega
   rw [h0] at e1
   rw [← hl,h0] at e2
   cases e1
   cases e2
   exact l
theorem Co (z:Int) (k:Bool) (x m:Int):∃ y,atI [V.int x,V.int x,V.int (-1),V.int m] (z % 4 * (if k then 1 else 0))=some (V.int y)∧(y=x∨y = -1∨y=m):=by
 have:z % 4=0∨z % 4=1∨z % 4=2∨z % 4=3:=by omega
 cases k
 ·exact ⟨x,by rw [if_neg (by decide),Int.mul_zero];rfl,.inl rfl⟩
 ·rw [if_pos rfl,Int.mul_one]
  rcases this with e | e | e | e <;> rw [e]
  ·exact ⟨x,rfl,.inl rfl⟩
  ·exact ⟨x,rfl,.inl rfl⟩
  ·exact ⟨-1,rfl,.inr (.inl rfl)⟩
  ·exact ⟨m,rfl,.inr (.inr rfl)⟩
theorem Cq (z:Int):∃ y:Int,atI [V.int (-1),V.int 2048] (z % 2)=some (V.int y) ∧ -1≤y∧y≤2048:=by
 have:z % 2=0∨z % 2=1:=by omega
 rcases this with e | e <;> rw [e]
 ·exact ⟨-1,rfl,by decide,by decide⟩
 ·exact ⟨2048,rfl,by decide,by decide⟩
theorem zZ (z:Int):∃ y:Int,atI [V.int 0,V.int 0,V.int 1,V.int 2] (z % 4)=some (V.int y)∧0≤y∧y≤2:=by
 have:z % 4=0∨z % 4=1∨z % 4=2∨z % 4=3:=by omega
 rcases this with e | e | e | e <;> rw [e]
 ·exact ⟨0,rfl,by decide,by decide⟩
 ·exact ⟨0,rfl,by decide,by decide⟩
 ·exact ⟨1,rfl,by decide,by decide⟩
 ·exact ⟨2,rfl,by decide,by decide⟩
theorem Aa {n:Nat} {z:Int} (h0:0≤z) (hn:0 < n):ixN n (z % (n:Int))=some (z % (n:Int)).toNat:=by
 have h1:=Int.emod_nonneg z (show (n:Int)≠0 by omega)
 have h2:=Int.emod_lt_of_pos z (show (0:Int) < n by omega)
 have:=uk (n:=n) (j:=(z % (n:Int)).toNat) (by omega)
 rw [show (((z % (n:Int)).toNat:Nat):Int)=z % (n:Int) by omega] at this
 exact this
theorem Ff (n:Nat):(List.replicate n [V.int 0]).flatten=(List.replicate n (0:Int)).map V.int:=by
 induction n with
 | zero=>rfl
 | succ n ih=>rw [List.replicate_succ,List.replicate_succ,List.flatten_cons,List.map_cons,ih];rfl
theorem Bits.set {l:List Int} {i:Nat} (h:Bits l):Bits (l.set i 1):=fun b hb=>by
 rcases List.mem_or_eq_of_mem_set hb with z | z
 ·exact h b z
 ·exact .inr z
abbrev Cr:Stmt:=(top 76)
abbrev vG (K:PySem.W.Frag) (c:Cs):Sp:=sp1 fun v H Q _=>∃ (a:Addr) (ns:List Int),v = .ref a∧SqL K H a (ns.map V.int)∧∀ H',Q (.bl true) H'
theorem sc_law:FnScope ["_law_script", "_law_many", "_law_bus", "_law_nodes", "_law_time", "_law_turn", "_law_number", "_law_name", "_law_row", "_law_at", "_law_flips", "_law_k", "_law_due"] ["_law_script"] (ah Cr):=aR
theorem Ct {f:Addr} {fd:FuncData} (T:Txt K mg c) (F:Fun K "law" "law" Cr f fd):FnOk P w K mg base CX0 12 f fd ["_law_script"] (vG K c):=by
 refine F.ok sc_law gB (fun cdv A outer s H vs Q E hr h => ?_)
 obtain ⟨v0,rfl,h⟩:=h
 refine ⟨_,(ag (aD (i:=1) sc_law.nd rfl (by first | exact Or.inl rfl | exact Or.inr rfl) (ap aY af (ap bC (bV (bU T) hr ay (aa (pv 0) (aa af ae))) af)))
   (ag (aD (i:=2) sc_law.nd rfl (by first | exact Or.inl rfl | exact Or.inr rfl) (DI (ki T) hr T.m_Bus ay (aa (pv 1) ae)))
   (ag (aD (i:=3) sc_law.nd rfl (by first | exact Or.inl rfl | exact Or.inr rfl) (cP [] [] (bH rfl T.range (aa (pv 1) ae)) (fun fp s H=>(DH (qO T) hr ay))))
   (uL (ag (aD (i:=4) sc_law.nd rfl (by first | exact Or.inl rfl | exact Or.inr rfl) af)
   (ag (bL PassesOwn.never rfl (bH rfl T.range (aa (ap aY af (ap bC (bV (bU T) hr ay (aa (pv 0) (aa af ae))) af)) ae)) (bc (i:=5) sc_law.nd rfl (by first | exact Or.inl rfl | exact Or.inr rfl))
    (ag (aD (i:=6) sc_law.nd rfl (by first | exact Or.inl rfl | exact Or.inr rfl) (bV (bU T) hr ay (aa (pv 0) (aa (ap aY af (ap cG af (pv 5))) ae))))
    (ag (tG (bV (mH T) hr ay (aa (pv 0) (aa (ap aY af (ap cG af (pv 5))) (aa af ae)))) (y8 (K:=K) rfl (qT (bc (i:=7) sc_law.nd rfl (by first | exact Or.inl rfl | exact Or.inr rfl)) (qT (bc (i:=8) sc_law.nd rfl (by first | exact Or.inl rfl | exact Or.inr rfl)) xY))))
    (ag (aD (i:=9) sc_law.nd rfl (by first | exact Or.inl rfl | exact Or.inr rfl) (bh (aK (K:=K)) (bj (aa (ap bC (ap cu (pv 6) af) (pv 1)) (aa (ap bC (ap cu (pv 6) af) (pv 1)) (aa (lI gE af) (aa (pv 1) ae))))) (ap cG (ap bC (pv 6) af) (cJ nz rfl T.int PyProof.Rows.boot_int (aa (bM bg (ap bC (ap cu (pv 6) af) af) af (ao _)) ae))) (fun _ _=>rfl)))
    (aZ (aQ (ai bg (ap bC (ap cu (pv 6) af) af) af (ao _))
     (ad (aD (i:=7) sc_law.nd rfl (by first | exact Or.inl rfl | exact Or.inr rfl) (bh (aK (K:=K)) (bj (aa (lI gE af) (aa af ae))) (ap bC (ap cu (pv 6) af) af) (fun _ _=>rfl))))
     az)
    (aZ (aQ (ai io (bV (oY T) hr ay (aa (pv 2) (aa (pv 9) (aa (pv 7) (aa (pv 8) ae))))) (bV (oW T) hr ay (aa (pv 3) (aa (pv 9) (aa (pv 7) (aa (pv 8) ae))))) (ao _))
     (ad (aC ij))
     az)
    (ag (aD (i:=10) sc_law.nd rfl (by first | exact Or.inl rfl | exact Or.inr rfl) (ap nh (bj (aa af ae)) (ap bC (bV (bU T) hr ay (aa (pv 0) (aa (ap aY af (ap cG af (pv 5))) ae))) af)))
    (aZ (bL PassesOwn.never rfl (bH rfl T.range (aa (bh (aK (K:=K)) (bj (aa af (aa af (aa af (aa af ae))))) (ap bC (bV (bU T) hr ay (aa (pv 0) (aa (ap aY af (ap cG af (pv 5))) ae))) af) (fun _ _=>rfl)) ae)) (bc (i:=11) sc_law.nd rfl (by first | exact Or.inl rfl | exact Or.inr rfl))
     (ad (aQ (lV (K:=K) (pv 10) (fun _=>rfl))
      (ad (tG af (xu (pv 10) (ap bC (ap cu (bV (bU T) hr ay (aa (pv 0) (aa (ap aY (ap aY af (ap cG af (pv 5))) (pv 11)) ae))) af) (aw (aq (K:=K)) rfl T.len PySem.boot_len (aa (pv 10) ae))) rg)))
      az)))
    (aZ (pI (i:=12) (fv:=["_law_nodes"]) (js:=[3]) sc_law.nd rfl (by first | exact Or.inl rfl | exact Or.inr rfl) (aV (K:=K) (pv 10))  (fun fp s H=>(bV (oU T) hr ay (aa (pv 0) (aa (pv 1) ae)))))
    (ag (aD (i:=4) sc_law.nd rfl (by first | exact Or.inl rfl | exact Or.inr rfl) (ap aY (pv 4) (aw (aq (K:=K)) rfl T.len PySem.boot_len (aa (pv 10) ae))))
    (aZ (aQ (PW.pt (bZ (ai bg (ap bC (pv 5) af) af (ao _)) (bK (lV (K:=K) (pv 10) (fun _=>rfl)))))
     (ad (aQ (PW.pt (dZ (ai io (bV (vz T) hr ay (aa (pv 2) (aa (bh (aK (K:=K)) (pv 10) af (fun _ _=>rfl)) ae))) (bh (aK (K:=K)) (pv 12) af (fun _ _=>rfl)) (ao _)) (cS (ai (iy (K:=K) hr) (bV (xR T) hr ay (aa (pv 2) (aa (bt (bv (K:=K)) (pv 10) (bo af) cO) ae))) (bt (bv (K:=K)) (pv 12) (bo af) cO) (ao _)))))
      (ad (aC ij))
      az))
     (ad (aQ (ai (iy (K:=K) hr) (bV (xR T) hr ay (aa (pv 2) (aa (cJ (de (K:=K)) rfl T.list PyProof.Rows.boot_list (aa (pv 10) ae)) ae))) (pv 12) (ao _))
      (ad (aC ij))
      az)))
    (ad (aQ (PW.pt (dZ (ai io (ku T.k_Bus (qx T) hr ay (pv 2)) (pv 4) (ao _)) (cS (iU (cC (bV (o0 T) hr ay (aa (pv 2) (aa (pv 3) ae))))))))
     (ad (aC ij))
     az)))))))))))))
   (ad (aC ij)))))))),?_⟩
 try dsimp only [br,Cx.nox,Cx.wish]
 refine ak (s2:=[some v0,none,none,none,none,none,none,none,none,none,none,none,none]) rfl ?_
 obtain ⟨a,ns,rfl,hS,q⟩:=h
 wtm_at "wp"
 refine ⟨a,ns,0,rfl,rfl,hS,fun z0 y0 y1 => ?_⟩
 obtain ⟨m,hm⟩:∃ m:Nat,1+z0 % 3=(m:Int):=⟨(1+z0 % 3).toNat,by omega⟩
 have m1:1≤m:=by omega
 have m3:m≤3:=by omega
 wtm_at "wp"
 rw [hm]
 wtm_at "wp"
 intro b dx hb hdx ndx
 refine ⟨_,_,rfl,b,dx,m,rfl,rfl,ac,m1,by omega,fun H1 F as k1 f1 la h1=>⟨rfl,?_⟩⟩
 have s1:Same H H1:=Chg.made hb hdx k1
 have nF:∀ x∈F,aS H x:=fun x hx=>by
  rcases f1 x hx with rfl | z
  ·exact hb
  ·exact wJ z
 wtm_at "wp"
 refine lT ?_
 wtm_at "wp"
 refine nK m (fun D i ys H2=>∃ bs:List Addr,Same H1 H2∧At H2 D (.lst ys)∧aS H1 D∧ys=bs.map V.ref∧bs.length=i∧LnsAt H2 bs (List.replicate i Ln.new)∧∀ x∈bs,aS H1 x∧x≠D) (by omega) (by omega) (small (by omega))
  (fun D hD=>⟨[],au hD _,ac,hD,rfl,rfl,LnsAt.nil,fun x hx=>(by cases hx)⟩) (fun D i ys H2 hi ⟨bs,s2,e2,f2,ey,hl,L2,n2⟩=>⟨e2,by rw [ey,List.length_map,hl];exact Nat.le_refl _⟩) (fun D i ys H2 hi ⟨bs,s2,e2,f2,ey,hl,L2,n2⟩ => ?_) (fun D ys H2 ⟨bs,s2,e2,f2,ey,hl,L2,n2⟩ => ?_)
 ·wtm_at "wp"
  refine ⟨rfl,fun x H3 s3 fx Lx => ?_⟩
  have eD:=s3.get e2
  have nx:x∉bs:=L2.new fx
  have nxD:x≠D:=(aJ fx e2).symm
  have kD:Kp [D] H3 (upd H3 D (.lst (ys++[.ref x]))):=(Kp.refl _ _).upd (by simp) eD (fun z=>z)
  have nb:∀ y∈bs++[x],aS H1 y∧y≠D:=fun y hy=>by
   rcases List.mem_append.mp hy with z | z
   ·exact n2 y z
   ·rw [List.mem_singleton.mp z];exact ⟨s2.fr fx,nxD⟩
  refine pK hi eD ⟨bs++[x],(s2.trans s3).upF f2,ac,f2,by rw [ey,List.map_append];rfl,by rw [List.length_append,hl];rfl,?_,nb⟩
  rw [List.replicate_succ']
  exact ((L2.kp (S:=[]) (Same.kp s3) fun _ _=>List.not_mem_nil).snoc Lx nx).kp kD fun y hy=>aM (nb y hy).2
 rw [ey] at e2
 refine uM e2 (fun o => ?_)
 rw [show (([some (.ref a),some (.int (m:Int)),some (.ref b),none,none,none,none,none,none,none,none,none,none]:St).set 3 (some (.ref D)))=[some (.ref a),some (.int (m:Int)),some (.ref b),some (.ref D),none,none,none,none,none,none,none,none,none] from rfl]
 have k3:Kp [D] H2 (upd H2 D (.frz o (.lst (bs.map V.ref)))):=(Kp.refl _ _).upd (by simp) e2 (fun z=>z)
 have B:Both c H (upd H2 D (.frz o (.lst (bs.map V.ref)))) b D F as bs o (List.replicate m Nd.new) (List.replicate m Ln.new) 0:=by
  refine ⟨s1.trans (s2.upF f2),(h1.same s2).kp k3 fun x hx=>aM fun z => ?_,ac,L2.kp k3 fun x hx=>aM (n2 x hx).2,nF,fun x hx=>s1.fr (n2 x hx).1,fun x hx z => ?_⟩
  ·obtain ⟨u,e,_⟩:=h1.live x hx
   subst z
   exact (aJ f2 e) rfl
  ·obtain ⟨u,e,_⟩:=h1.live x hx
   exact (aJ (n2 x z).1 e) rfl
 generalize upd H2 D (.frz o (.lst (bs.map V.ref)))=H3 at *
 clear k3 s2 e2 f2 L2 n2 ey k1 f1 h1 nF
 wtm_at "wp"
 refine dF ?_
 wtm_at "wp"
 refine ⟨a,ns,1,rfl,rfl,B.same.seq hS,fun z1 x0 x1 => ?_⟩
 wtm_at "wp"
 refine cW (1+z1 % 6).toNat (fun i σ H4=>∃ (F:List Addr) (ds:List Nd) (ls:List Ln) (t:Nat) (v5 v6 v7 v8 v9 v10 v11 v12:Option V),σ=[some (.ref a),some (.int (m:Int)),some (.ref b),some (.ref D),some (.int (t:Nat)),v5,v6,v7,v8,v9,v10,v11,v12]∧Both c H H4 b D F as bs o ds ls t∧Alike ds ls i (40 * i)) rfl (by omega) ⟨F,_,_,0,none,none,none,none,none,none,none,none,rfl,B,Alike.start m⟩ ?_ ?_
 rotate_left
 ·rintro σ H4 ⟨F4,ds,ls,t,v5,v6,v7,v8,v9,v10,v11,v12,rfl,B4,A4⟩
  wtm_at "wp"
  exact q _
 rintro i σ H4 hi ⟨F4,ds,ls,t,v5,v6,v7,v8,v9,v10,v11,v12,rfl,B4,A4⟩
 clear B
 wtm_at "wp"
 refine ⟨a,ns,_,rfl,rfl,B4.same.seq hS,fun z2 u0 u1 => ?_⟩
 wtm_at "wp"
 refine ⟨a,ns,_,1,rfl,rfl,rfl,B4.same.seq hS,by decide,fun name0 row tr r H5 s5 ft fr et er g hl => ?_⟩
 have B5:=B4.more s5
 have rF:=B4.nF fr
 have rB:=B4.nB fr
 have fr0:=B4.same.fr fr
 wtm_at "wp"
 refine ⟨small (show 4≤1000 by decide),fun p6 hp6 => ?_⟩
 wtm_at "wp"
 obtain ⟨at_,hat,hcs⟩:=Co z2 (decide (z2 / 64 % 8=0)) (z2 / 3 % (m:Int)) (m:Int)
 refine bf (At.sqL ac) hat ?_
 have hat1 : -1≤at_∧at_≤3:=by
  have:=Int.emod_nonneg (z2 / 3) (show (m:Int)≠0 by omega)
  have:=Int.emod_lt_of_pos (z2 / 3) (show 0 < (m:Int) by omega)
  omega
 have s6:=au (o := .lst [.int (z2 / 3 % (m:Int)),.int (z2 / 3 % (m:Int)),.int (-1),.int (m:Int)]) hp6
 have B6:=B5.more s6
 have er6:=s6.get er
 generalize upd H5 p6 (.lst [.int (z2 / 3 % (m:Int)),.int (z2 / 3 % (m:Int)),.int (-1),.int (m:Int)])=H6 at *
 clear hat hcs s6 B5
 wtm_at "wp"
 refine bz (fun σ H7=>∃ name:Int,σ=[some (.ref a),some (.int (m:Int)),some (.ref b),some (.ref D),some (.int (t:Nat)),some (.int (i:Int)),some (.int z2),some (.int name),some (.ref r),some (.int at_),v10,v11,v12]∧Both c H H7 b D F4 as bs o ds ls t∧At H7 r (.lst (row.map V.int)) ∧ -1≤name∧name≤2048) ?_ ?_
 ·wtm_at "wp"
  refine ax (fun c1 => ?_) (fun c1 => ?_)
  ·wtm_at "wp"
   refine ⟨small (show 2≤1000 by decide),fun p7 hp7 => ?_⟩
   wtm_at "wp"
   obtain ⟨nm,hnm,n1,n2⟩:=Cq (z2 / 5000)
   refine bf (At.sqL ac) hnm ?_
   wtm_at "wp"
   exact ⟨nm,rfl,B6.more (au hp7 _),aE hp7 er6,n1,n2⟩
  ·wtm_at "wp"
   have:=g.1
   exact ⟨name0,rfl,B6,er6,by omega,by omega⟩
 rintro σ H7 ⟨name,rfl,B7,er7,n1,n2⟩
 have hbl:=B7.bus.len
 have hsl:=A4.sim.len
 have hll:=B7.law.len
 have hq:∀ n∈ls,n.waits.length≤100:=fun n hn=>by
  obtain ⟨d,hd,s⟩:=A4.sim.mem hn
  have:=(A4.few d hd).1
  rw [s.waits]
  omega
 refine bz (fun σ H8=>∃ F8 ds8 ls8,σ=[some (.ref a),some (.int (m:Int)),some (.ref b),some (.ref D),some (.int (t:Nat)),some (.int (i:Int)),some (.int z2),some (.int name),some (.ref r),some (.int at_),v10,v11,v12]∧Both c H H8 b D F8 as bs o ds8 ls8 t∧Alike ds8 ls8 (i+1) (40 * i)) ?_ ?_
 ·wtm_at "wp"
  refine ⟨b,r,F4,as,ds,t,at_,name,row,rfl,rfl,rfl,rfl,B7.bus,by omega,fun d hd=>by have:=(A4.few d hd).1;omega,At.sqL er7,cj hat1.1 (by omega),cj n1 (by omega),fun y hy=>cj (by have:=g.2.2 y hy;omega) (by have:=g.2.2 y hy;omega),fun z H8 s8 => ?_,fun k d ek ed=>⟨fun z H8 s8 => ?_,fun g' e' H8 F8 k8 h8 f8 => ?_⟩⟩
  ·have B8:=B7.more s8
   wtm_at "wp"
   refine ⟨D,r,o,bs,ls,at_,name,row,rfl,rfl,rfl,rfl,B8.el,B8.law,by omega,hq,At.sqL (s8.get er7),by omega,fun _ => ?_,fun k n ek en=>absurd ⟨by omega,by have:=(List.getElem?_eq_some_iff.mp en).1;omega⟩ z⟩
   wtm_at "wp"
   refine bP (fun z=>absurd rfl z) (fun _ => ?_)
   wtm_at "wp"
   exact ⟨F4,ds,ls,rfl,B8,A4.mono (by omega) (Nat.le_refl _)⟩
  ·have B8:=B7.more s8
   have hk:=(List.getElem?_eq_some_iff.mp ed).1
   wtm_at "wp"
   refine ⟨D,r,o,bs,ls,at_,name,row,rfl,rfl,rfl,rfl,B8.el,B8.law,by omega,hq,At.sqL (s8.get er7),by omega,fun y=>absurd ⟨by omega,by omega⟩ y,fun k2 n ek2 en=>⟨fun _ H9 s9 => ?_,fun g2 e2 => ?_⟩⟩
   ·wtm_at "wp"
    refine bP (fun z=>absurd rfl z) (fun _ => ?_)
    wtm_at "wp"
    exact ⟨F4,ds,ls,rfl,B8.more s9,A4.mono (by omega) (Nat.le_refl _)⟩
   ·obtain rfl:k2=k:=by omega
    rw [← vF A4.sim] at e2
    rcases z with y | y
    ·exact absurd g2 y
    ·rw [y] at e2;cases e2
  ·obtain ⟨B8,kp8⟩:=B7.busTo k8 h8 f8
   have er8:=(kp8 r _ er7 rF).1
   have hk:=(List.getElem?_eq_some_iff.mp ed).1
   wtm_at "wp"
   refine ⟨D,r,o,bs,ls,at_,name,row,rfl,rfl,rfl,rfl,B8.el,B8.law,by omega,hq,At.sqL er8,by omega,fun y=>absurd ⟨by omega,by omega⟩ y,fun k2 n ek2 en=>⟨fun y H9 s9 => ?_,fun g2 e2 H9 k9 L9 => ?_⟩⟩
   ·obtain rfl:k2=k:=by omega
    rw [← vF A4.sim,e'] at y
    rcases y with y | y
    ·exact absurd g' y
    ·cases y
   ·obtain rfl:k2=k:=by omega
    wtm_at "wp"
    refine bP (fun z=>absurd rfl z) (fun _ => ?_)
    wtm_at "wp"
    exact ⟨F8,_,_,rfl,B8.lawTo k9 L9,A4.wait ed en g'⟩
 clear B7 A4 hq hsl hbl hll er7 B6 er6
 rintro σ H8 ⟨F8,ds8,ls8,rfl,B8,A8⟩
 wtm_at "wp"
 refine ⟨small (show 1≤1000 by decide),fun p9 hp9 => ?_⟩
 wtm_at "wp"
 refine ⟨a,ns,_,rfl,rfl,(B8.same.new hp9).seq hS,fun z3 w0 w1 => ?_⟩
 wtm_at "wp"
 refine kZ ac (by omega) (by omega) (small (by rw [List.length_singleton];omega)) (fun f hf => ?_)
 rw [Ff]
 have B9:=(B8.more (au hp9 (.lst [.int 0]))).more (au hf (.lst ((List.replicate (z3 % 41).toNat (0:Int)).map V.int)))
 have fF:=(B8.more (au hp9 (.lst [.int 0]))).nF hf
 have fB:=(B8.more (au hp9 (.lst [.int 0]))).nB hf
 have fH:=(B8.more (au hp9 (.lst [.int 0]))).same.fr hf
 have ef:At (upd (upd H8 p9 (.lst [.int 0])) f (.lst ((List.replicate (z3 % 41).toNat (0:Int)).map V.int))) f _:=ac
 generalize upd (upd H8 p9 (.lst [.int 0])) f (.lst ((List.replicate (z3 % 41).toNat (0:Int)).map V.int))=H9 at *
 clear B8
 wtm_at "wp"
 refine bz (fun σ HA=>∃ (fl:List Int) (v11':Option V),σ=[some (.ref a),some (.int (m:Int)),some (.ref b),some (.ref D),some (.int (t:Nat)),some (.int (i:Int)),some (.int z2),some (.int name),some (.ref r),some (.int at_),some (.ref f),v11',v12]∧Both c H HA b D F8 as bs o ds8 ls8 t∧At HA f (.lst (fl.map V.int))∧Bits fl∧fl.length≤40) ?_ ?_
 ·refine dF ?_
  wtm_at "wp"
  refine ⟨small (show 4≤1000 by decide),fun pA hpA => ?_⟩
  wtm_at "wp"
  refine ⟨a,ns,_,rfl,rfl,(B9.same.new hpA).seq hS,fun z4 _ _ => ?_⟩
  wtm_at "wp"
  obtain ⟨y,hy,ya,yb⟩:=zZ z4
  refine bf (At.sqL ac) hy ?_
  refine cW y.toNat (fun j σ HA=>∃ (fl:List Int) (v11':Option V),σ=[some (.ref a),some (.int (m:Int)),some (.ref b),some (.ref D),some (.int (t:Nat)),some (.int (i:Int)),some (.int z2),some (.int name),some (.ref r),some (.int at_),some (.ref f),v11',v12]∧Both c H HA b D F8 as bs o ds8 ls8 t∧At HA f (.lst (fl.map V.int))∧Bits fl∧fl.length≤40) rfl (by omega) ⟨_,v11,rfl,B9.more (au hpA _),aE hpA ef,Bits.zeros _,by rw [List.length_replicate];omega⟩ ?_ ?_
  ·rintro j σ HA hj ⟨fl,v,rfl,BA,eA,hb,hl⟩
   wtm_at "wp"
   cases fl with
   | nil=>
    refine xA ?_
    wtm_at "wp"
    exact ⟨[],_,rfl,BA,eA,hb,hl⟩
   | cons f0 fl=>
    refine tq ?_
    wtm_at "wp"
    refine ⟨a,ns,_,rfl,rfl,BA.same.seq hS,fun z5 q0 q1 => ?_⟩
    wtm_at "wp"
    rw [List.length_map]
    refine C5 (show (0:Int) < (((f0 :: fl).length:Nat):Int) by rw [List.length_cons];omega) ?_
    refine uy eA (by rw [List.length_map];exact Aa (by omega) (by simp)) ?_
    wtm_at "wp"
    exact ⟨(f0 :: fl).set _ 1,_,rfl,BA.upd eA (fun z=>z) fH fF fB,by rw [map_set];exact ac,hb.set,by rw [List.length_set];exact hl⟩
  ·rintro σ HA ⟨fl,v,rfl,BA,eA,hb,hl⟩
   exact ⟨fl,v,rfl,BA,eA,hb,hl⟩
 clear B9 ef
 rintro σ HA ⟨fl,w11,rfl,BA,ef,hb,hl⟩
 obtain ⟨AR,hbits⟩:=A8.run hb
 have lf:(fl.map V.int).length=fl.length:=List.length_map _
 have hi6:i≤6:=by omega
 have bm:bs.length=m:=by have:=BA.law.len;have:=A8.sim.len;have:=BA.bus.len;omega
 refine bz (fun σ HB=>∃ dD,σ=[some (.ref a),some (.int (m:Int)),some (.ref b),some (.ref D),some (.int (t:Nat)),some (.int (i:Int)),some (.int z2),some (.int name),some (.ref r),some (.int at_),some (.ref f),w11,some (.ref dD)]∧Both c H HB b D F8 as bs o ds8 (gR ls8 fl) t∧At HB f (.lst (fl.map V.int))∧At HB dD (.lst ((ci ds8 fl).map V.int))∧dD∉F8) ?_ ?_
 ·wtm_at "wp"
  refine b9 ?_
  wtm_at "wp"
  refine gN (xs:=fl.map V.int) (fun D2 j ys HB=>Both c H HB b D F8 as bs o ds8 (gR ls8 (fl.take j)) t∧At HB f (.lst (fl.map V.int))∧At HB D2 (.lst ys)∧D2∉F8∧D2∉bs∧aS H D2∧D2≠f∧ys=(iG ls8 (fl.take j)).map V.int∧ys.length≤j) (At.sqL ef) (by rw [lf];exact small (by omega)) (fun D2 hD=>⟨BA.more (au hD _),aE hD ef,ac,BA.nF hD,BA.nB hD,BA.same.fr hD,(aB ef hD).symm,rfl,Nat.le_refl _⟩)
   (fun D2 j ys HB hj ⟨B,e1,e2,n1,n2,n3,n4,ey,hl⟩=>⟨e2,At.sqL e1,hl⟩) (fun D2 j x ys HB hx ⟨B,e1,e2,n1,n2,n3,n4,ey,hl2⟩ => ?_) (fun D2 ys HB ⟨B,e1,e2,n1,n2,n3,n4,ey,hl2⟩ => ?_)
  ·obtain ⟨f0,hf0,rfl⟩:=ce hx
   have hj:j < fl.length:=(List.getElem?_eq_some_iff.mp hf0).1
   have Aj:=(A8.run (fl:=fl.take j) fun x hx=>hb x (List.mem_of_mem_take hx)).1
   have wo:=Aj.sim.wireOk (flip:=f0) Aj.ok (Aj.few.mono (by omega) (by rw [List.length_take];omega)) (hb f0 (List.mem_of_getElem? hf0))
   have ll:=B.law.len
   show iq _ _ _ _ [some (.ref D),some (.int f0)] _ _
   wtm_at "wp"
   refine ⟨_,_,rfl,D,o,bs,_,f0,rfl,rfl,B.el,B.law,fun z => ?_,by omega,wo,fun HC kC LC => ?_⟩
   ·rw [z] at ll
    have ll:bs.length=0:=ll
    omega
   ·have eD:=kC.get n2 e2
    refine pK (by rw [lf];exact hj) eD ⟨?_,aG n4.symm (kC.get fB e1),ac,n1,n2,n3,n4,?_,by rw [List.length_append,List.length_singleton];omega⟩
    ·rw [cy hf0,pV]
     exact (B.lawTo kC LC).upd eD (fun z=>z) n3 n1 n2
    ·rw [cy hf0,nY,List.map_append,← ey]
     rfl
  ·rw [lf,List.take_of_length_le (Nat.le_refl _)] at B ey
   rw [ey,hbits] at e2
   wtm_at "wp"
   exact ⟨D2,rfl,B,e1,e2,n1⟩
 clear BA ef
 rintro σ HB ⟨dD,rfl,BB,ef,eD,nD⟩
 have hne:as≠[]:=fun z=>by rw [z] at la;have la:0=m:=la;omega
 have few:Few 900 4999 ds8:=A8.few.mono (by omega) (by omega)
 wtm_at "wp"
 rw [lf,show (t:Int)+(fl.length:Int)=((t+fl.length:Nat):Int) by omega]
 refine bz (fun σ HC=>∃ FC,σ=[some (.ref a),some (.int (m:Int)),some (.ref b),some (.ref D),some (.int ((t+fl.length:Nat):Int)),some (.int (i:Int)),some (.int z2),some (.int name),some (.ref r),some (.int at_),some (.ref f),w11,some (.ref dD)]∧Both c H HC b D FC as bs o (dh ds8 fl) (gR ls8 fl) (t+fl.length)) ?_ ?_
 ·refine xS (H1:=HB) (decide ((i:Int) % 2=0∧fl≠[])) (fun R rr => ?_) ?_
  ·wtm_at "wp"
   refine ax (fun c1 => ?_) (fun c1 => ?_)
   ·wtm_at "wp"
    rw [show (!(fl.map V.int).isEmpty)=decide ((i:Int) % 2=0∧fl≠[]) by cases fl <;> simp [c1]]
    exact rr
   ·rw [decide_eq_false (fun z=>c1 z.1)] at rr
    exact rr
  refine ax (fun c1 => ?_) (fun c1 => ?_)
  ·obtain ⟨f0,fr,rfl⟩:∃ f0 fr,fl=f0 :: fr:=List.exists_cons_of_ne_nil c1.2
   rw [List.length_cons] at hl
   wtm_at "wp"
   refine bf (At.sqL ef) (show atI _ 0=some (.int f0) from jx) ?_
   wtm_at "wp"
   refine ⟨b,F8,as,ds8,t,f0,rfl,rfl,BB.bus,hne,by omega,A8.ok,few,fun HC FC kC hC fC => ?_⟩
   obtain ⟨BC,kpC⟩:=BB.busTo kC hC fC
   have efC:=(kpC f _ ef fF).1
   obtain ⟨eDC,nDC⟩:=kpC dD _ eD nD
   have eDC:At HC dD (.lst (V.int (bq ds8 f0) :: (ci (bn ds8 f0) fr).map V.int)):=eDC
   wtm_at "wp"
   refine bf (At.sqL eDC) (show atI _ 0=some (.int (bq ds8 f0)) from jx) ?_
   wtm_at "wp"
   refine bP (fun z=>absurd rfl z) (fun _ => ?_)
   wtm_at "wp"
   refine cK (At.sqL efC) (show jF _ (some 1) none=fr.map V.int from fk _ 1) (fun p hp => ?_)
   wtm_at "wp"
   have BD:=BC.more (au hp (.lst (fr.map V.int)))
   refine ⟨b,p,FC,as,bn ds8 f0,t+1,fr,rfl,rfl,BD.bus,hne,by omega,A8.ok.step f0,⟨40 * i+1,(A8.few.step f0).mono (by omega) (by omega),by omega⟩,At.sqL ac,fun xs _=>BC.nF hp,fun D3 HD FD kD fD3 eD3 nD3 hD fD => ?_⟩
   obtain ⟨BE,kpE⟩:=BD.busTo kD hD fD
   have eDD:=(kpE dD _ (aE hp eDC) nDC).1
   wtm_at "wp"
   refine cK (At.sqL eDD) (show jF _ (some 1) none=(ci (bn ds8 f0) fr).map V.int from fk _ 1) (fun p2 hp2 => ?_)
   refine ul (xs:=ci (bn ds8 f0) fr) (ys:=ci (bn ds8 f0) fr) (At.sqL (aE hp2 eD3)) (At.sqL ac) ?_
   rw [decide_eq_true rfl]
   wtm_at "wp"
   refine ⟨FD,rfl,?_⟩
   rw [show t+(f0 :: fr).length=t+1+fr.length by rw [List.length_cons];omega]
   exact BE.more (au hp2 _)
  ·wtm_at "wp"
   intro p hp
   have BD:=BB.more (au hp (.lst (fl.map V.int)))
   wtm_at "wp"
   refine ⟨b,p,F8,as,ds8,t,fl,rfl,rfl,BD.bus,hne,by omega,A8.ok,⟨40 * i,A8.few.mono (by omega) (by omega),by omega⟩,At.sqL ac,fun xs _=>BB.nF hp,fun D3 HD FD kD fD3 eD3 nD3 hD fD => ?_⟩
   obtain ⟨BE,kpE⟩:=BD.busTo kD hD fD
   have eDD:=(kpE dD _ (aE hp eD) nD).1
   wtm_at "wp"
   refine ul (xs:=ci ds8 fl) (ys:=ci ds8 fl) (At.sqL eD3) (At.sqL eDD) ?_
   rw [decide_eq_true rfl]
   wtm_at "wp"
   exact ⟨FD,rfl,BE⟩
 rintro σ HC ⟨FC,rfl,BC⟩
 obtain ⟨dx2,lx,ox,nx,e1,_⟩:=BC.bus.ex
 wtm_at "wp"
 refine ⟨b,FC,as,_,_,rfl,BC.bus,?_⟩
 wtm_at "wp"
 refine bP (fun z=>absurd rfl z) (fun _ => ?_)
 wtm_at "wp"
 refine ⟨b,D,FC,as,bs,_,_,_,o,rfl,rfl,BC.bus,by omega,BC.el,BC.law,AR.sim,AR.few.mono (by omega) (by omega),fun d hd g hg => ?_,fun HD sD => ?_⟩
 ·rcases List.mem_append.mp hg with z | z
  ·exact AR.tk d hd g z
  ·exact ((AR.ok d hd).qu g z).2.1
 ·wtm_at "wp"
  exact ⟨FC,_,_,_,_,_,_,_,_,_,_,_,rfl,BC.more sD,AR.mono (Nat.le_refl _) (by omega)⟩
end BB
set_option maxHeartbeats 4000000
set_option maxRecDepth 100000
set_option linter.unusedVariables false
namespace BB
open PySem L2
theorem iS {K:PySem.W.Frag} {C:Addr} {b:Value} {r:Bool} (h:PySem.W.mroIn K C b=some r):(PySem.W.clsIn K C).isSome=true:=by
 obtain ⟨cd,a,_⟩:=Option.bind_eq_some_iff.mp h
 rw [a]
 rfl
def Fd (K:PySem.W.Frag) (f:Addr) (x q:Str) (st:Stmt):Prop:=∃ fd,Fun K x q st f fd
section
variable {K:PySem.W.Frag} {h:Heap} {mg:Str→Option Value} {f C:Addr} {x q:Str} {st:Stmt}
theorem fd_mk {oc:Value} {od an:Option Addr} {sl:Array (Option Value)} {kV dc pm cd ct:Value} (l:K.lookup f=some ⟨oc,od,.func (PySem.W.fnOf x q (iu st) (cv st) (ah st) .none kV dc pm an cd ct),sl⟩) (c:PySem.W.codeIn K cd q=true) (k:PySem.W.keepIn K (.ref f)=true):Fd K f x q st:=⟨_,AN (st:=st) l c k⟩
theorem Fd.df (l:Fd K f x x st) (X:K.In h) (G:h.Ns mainGlobals mg) (a:PySem.W.nsIn K mainGlobals x=some (some (.ref f))):DefAt K mg x st:=let ⟨_,F⟩:=l;⟨_,_,F,PySem.W.mg_of X G a⟩
theorem Fd.mt (l:Fd K f x q st) (a:PySem.W.findIn K (.ref C) x=some (some (.ref f))) (b:PySem.W.isFn K (.ref f)=true):MethAt K C x q st:=let ⟨_,F⟩:=l;⟨_,_,F,⟨a,b,F.kp⟩⟩
theorem Fd.ini (l:Fd K f "__init__" q st) (z:PySem.W.makesIn K C=true) (a:PySem.W.findIn K (.ref C) "__init__" = some (some (.ref f))) (b:PySem.W.isFn K (.ref f)=true) (p:PySem.W.keepIn K (.ref C)=true):InitAt K C q st:=let ⟨_,F⟩:=l;⟨_,_,F,⟨z,a,b,p⟩⟩
end
open PySem.W in
theorem txt_mk {K:PySem.W.Frag} {h:Heap} {mg:Str→Option Value} {cE cF cN cB cR cD cU:Addr} (X:K.In h) (G:h.Ns mainGlobals mg)
  {t12 t13 t14 t15 t16 t17 t18 t19 t20 t21 t22 t23 t24 t25 t26 t27 t28 t29 t30 t31 t32 t33 t34 t35:Tok} {f43 f44 f45 f46 f47 f48 f49 f50 f51 f52 f53 f54 f55 f56 f57 f58 f59 f60 f61 f62 f63 f64 f65 f66 f67 f68 f69 f70 f71 f72 f73 f74 f75 f76 f77 f78 f79 f80 f81 f82 f83 f84 f85 f86 f87 f88 f89 f90 f91 f92 f93 f94 f95 f96 f97 f98 f99 f100 f101 f102 f103 f104 f105 f106 f107 f108 f109 f110 f111 f112 f113 f114:Addr}
  (z1:nsIn K mainGlobals "range" = some none)
  (z2:nsIn K mainGlobals "len" = some none)
  (z3:nsIn K mainGlobals "isinstance" = some none)
  (z4:nsIn K mainGlobals "all" = some none)
  (z5:nsIn K mainGlobals "any" = some none)
  (z6:nsIn K mainGlobals "int" = some none)
  (z7:nsIn K mainGlobals "bool" = some none)
  (z8:nsIn K mainGlobals "list" = some none)
  (z9:nsIn K mainGlobals "set" = some none)
  (z10:nsIn K mainGlobals "min" = some none)
  (z11:nsIn K mainGlobals "ValueError" = some none)
  (g12:nsIn K mainGlobals "HIGHEST_NAME" = some (some (.int 2047 t12)))
  (g13:nsIn K mainGlobals "HIGHEST_BYTE" = some (some (.int 255 t13)))
  (g14:nsIn K mainGlobals "MOST_BYTES" = some (some (.int 8 t14)))
  (g15:nsIn K mainGlobals "NAME_BITS" = some (some (.int 11 t15)))
  (g16:nsIn K mainGlobals "COUNT_BITS" = some (some (.int 4 t16)))
  (g17:nsIn K mainGlobals "BYTE_BITS" = some (some (.int 8 t17)))
  (g18:nsIn K mainGlobals "CHECK_BITS" = some (some (.int 15 t18)))
  (g19:nsIn K mainGlobals "CHECK_TURNS" = some (some (.int 17817 t19)))
  (g20:nsIn K mainGlobals "CHECK_HIGHEST" = some (some (.int 32767 t20)))
  (g21:nsIn K mainGlobals "MOST_LIKE_BITS" = some (some (.int 5 t21)))
  (g22:nsIn K mainGlobals "NAME_AT" = some (some (.int 1 t22)))
  (g23:nsIn K mainGlobals "COUNT_AT" = some (some (.int 12 t23)))
  (g24:nsIn K mainGlobals "ROW_AT" = some (some (.int 16 t24)))
  (g25:nsIn K mainGlobals "FREE" = some (some (.str "free" t25)))
  (g26:nsIn K mainGlobals "FRAME" = some (some (.str "frame" t26)))
  (g27:nsIn K mainGlobals "CRY" = some (some (.str "cry" t27)))
  (g28:nsIn K mainGlobals "DAZED" = some (some (.str "dazed" t28)))
  (g29:nsIn K mainGlobals "REST" = some (some (.str "rest" t29)))
  (g30:nsIn K mainGlobals "CRIED_BITS" = some (some (.int 6 t30)))
  (g31:nsIn K mainGlobals "DAZED_ONES" = some (some (.int 8 t31)))
  (g32:nsIn K mainGlobals "REST_ONES" = some (some (.int 3 t32)))
  (g33:nsIn K mainGlobals "ANSWER_AT" = some (some (.int 1 t33)))
  (g34:nsIn K mainGlobals "BITS_BEHIND" = some (some (.int 10 t34)))
  (g35:nsIn K mainGlobals "MOST_NODES" = some (some (.int 8 t35)))
  (m36:nsIn K mainGlobals "BusError" = some (some (.ref cE)))
  (m37:nsIn K mainGlobals "BadFrame" = some (some (.ref cF)))
  (m38:nsIn K mainGlobals "NoNode" = some (some (.ref cN)))
  (m39:nsIn K mainGlobals "BadBits" = some (some (.ref cB)))
  (m40:nsIn K mainGlobals "Reading" = some (some (.ref cR)))
  (m41:nsIn K mainGlobals "Node" = some (some (.ref cD)))
  (m42:nsIn K mainGlobals "Bus" = some (some (.ref cU)))
  (a43:nsIn K mainGlobals "in_bits" = some (some (.ref f43)))
  (l43:Fd K f43 "in_bits" "in_bits" (top 19))
  (a44:nsIn K mainGlobals "number_of" = some (some (.ref f44)))
  (l44:Fd K f44 "number_of" "number_of" (top 20))
  (a45:nsIn K mainGlobals "check_of" = some (some (.ref f45)))
  (l45:Fd K f45 "check_of" "check_of" (top 21))
  (a46:nsIn K mainGlobals "refuse_bad_frame" = some (some (.ref f46)))
  (l46:Fd K f46 "refuse_bad_frame" "refuse_bad_frame" (top 22))
  (a47:nsIn K mainGlobals "bits_of" = some (some (.ref f47)))
  (l47:Fd K f47 "bits_of" "bits_of" (top 23))
  (a48:nsIn K mainGlobals "is_one_due" = some (some (.ref f48)))
  (l48:Fd K f48 "is_one_due" "is_one_due" (top 24))
  (a49:nsIn K mainGlobals "stuffed" = some (some (.ref f49)))
  (l49:Fd K f49 "stuffed" "stuffed" (top 25))
  (a50:nsIn K mainGlobals "head_choices" = some (some (.ref f50)))
  (l50:Fd K f50 "head_choices" "head_choices" (top 26))
  (a51:nsIn K mainGlobals "check_place" = some (some (.ref f51)))
  (l51:Fd K f51 "check_place" "check_place" (top 27))
  (a52:nsIn K mainGlobals "plain_choices" = some (some (.ref f52)))
  (l52:Fd K f52 "plain_choices" "plain_choices" (top 28))
  (a53:nsIn K mainGlobals "choices_behind" = some (some (.ref f53)))
  (l53:Fd K f53 "choices_behind" "choices_behind" (top 29))
  (a54:nsIn K mainGlobals "parts_of" = some (some (.ref f54)))
  (l54:Fd K f54 "parts_of" "parts_of" (top 30))
  (a55:findIn K (.ref cR) "__init__" = some (some (.ref f55)))
  (b55:isFn K (.ref f55)=true)
  (q55:makesIn K cR=true)
  (p55:keepIn K (.ref cR)=true)
  (l55:Fd K f55 "__init__" "Reading.__init__" (aj (top 31) 0))
  (a56:findIn K (.ref cR) "take" = some (some (.ref f56)))
  (b56:isFn K (.ref f56)=true)
  (l56:Fd K f56 "take" "Reading.take" (aj (top 31) 1))
  (a57:findIn K (.ref cR) "is_over" = some (some (.ref f57)))
  (b57:isFn K (.ref f57)=true)
  (l57:Fd K f57 "is_over" "Reading.is_over" (aj (top 31) 2))
  (a58:findIn K (.ref cR) "is_at_name" = some (some (.ref f58)))
  (b58:isFn K (.ref f58)=true)
  (l58:Fd K f58 "is_at_name" "Reading.is_at_name" (aj (top 31) 3))
  (a59:findIn K (.ref cD) "__init__" = some (some (.ref f59)))
  (b59:isFn K (.ref f59)=true)
  (q59:makesIn K cD=true)
  (p59:keepIn K (.ref cD)=true)
  (l59:Fd K f59 "__init__" "Node.__init__" (aj (top 43) 0))
  (a60:findIn K (.ref cD) "has_waiting" = some (some (.ref f60)))
  (b60:isFn K (.ref f60)=true)
  (l60:Fd K f60 "has_waiting" "Node.has_waiting" (aj (top 43) 1))
  (a61:findIn K (.ref cD) "let_wait" = some (some (.ref f61)))
  (b61:isFn K (.ref f61)=true)
  (l61:Fd K f61 "let_wait" "Node.let_wait" (aj (top 43) 2))
  (a62:findIn K (.ref cD) "begin_if_free" = some (some (.ref f62)))
  (b62:isFn K (.ref f62)=true)
  (l62:Fd K f62 "begin_if_free" "Node.begin_if_free" (aj (top 43) 3))
  (a63:findIn K (.ref cD) "put" = some (some (.ref f63)))
  (b63:isFn K (.ref f63)=true)
  (l63:Fd K f63 "put" "Node.put" (aj (top 43) 4))
  (a64:findIn K (.ref cD) "put_in_frame" = some (some (.ref f64)))
  (b64:isFn K (.ref f64)=true)
  (l64:Fd K f64 "put_in_frame" "Node.put_in_frame" (aj (top 43) 5))
  (a65:findIn K (.ref cD) "hear" = some (some (.ref f65)))
  (b65:isFn K (.ref f65)=true)
  (l65:Fd K f65 "hear" "Node.hear" (aj (top 43) 6))
  (a66:findIn K (.ref cD) "hear_in_frame" = some (some (.ref f66)))
  (b66:isFn K (.ref f66)=true)
  (l66:Fd K f66 "hear_in_frame" "Node.hear_in_frame" (aj (top 43) 7))
  (a67:findIn K (.ref cD) "hear_stuffed" = some (some (.ref f67)))
  (b67:isFn K (.ref f67)=true)
  (l67:Fd K f67 "hear_stuffed" "Node.hear_stuffed" (aj (top 43) 8))
  (a68:findIn K (.ref cD) "hears_another" = some (some (.ref f68)))
  (b68:isFn K (.ref f68)=true)
  (l68:Fd K f68 "hears_another" "Node.hears_another" (aj (top 43) 9))
  (a69:findIn K (.ref cD) "hear_behind" = some (some (.ref f69)))
  (b69:isFn K (.ref f69)=true)
  (l69:Fd K f69 "hear_behind" "Node.hear_behind" (aj (top 43) 10))
  (a70:findIn K (.ref cD) "is_wrong_behind" = some (some (.ref f70)))
  (b70:isFn K (.ref f70)=true)
  (l70:Fd K f70 "is_wrong_behind" "Node.is_wrong_behind" (aj (top 43) 11))
  (a71:findIn K (.ref cD) "hear_dazed" = some (some (.ref f71)))
  (b71:isFn K (.ref f71)=true)
  (l71:Fd K f71 "hear_dazed" "Node.hear_dazed" (aj (top 43) 12))
  (a72:findIn K (.ref cD) "hear_between" = some (some (.ref f72)))
  (b72:isFn K (.ref f72)=true)
  (l72:Fd K f72 "hear_between" "Node.hear_between" (aj (top 43) 13))
  (a73:findIn K (.ref cD) "enter_frame" = some (some (.ref f73)))
  (b73:isFn K (.ref f73)=true)
  (l73:Fd K f73 "enter_frame" "Node.enter_frame" (aj (top 43) 14))
  (a74:findIn K (.ref cD) "end_frame" = some (some (.ref f74)))
  (b74:isFn K (.ref f74)=true)
  (l74:Fd K f74 "end_frame" "Node.end_frame" (aj (top 43) 15))
  (a75:findIn K (.ref cD) "drop_first" = some (some (.ref f75)))
  (b75:isFn K (.ref f75)=true)
  (l75:Fd K f75 "drop_first" "Node.drop_first" (aj (top 43) 16))
  (a76:findIn K (.ref cD) "cry_out" = some (some (.ref f76)))
  (b76:isFn K (.ref f76)=true)
  (l76:Fd K f76 "cry_out" "Node.cry_out" (aj (top 43) 17))
  (a77:findIn K (.ref cD) "pass_one" = some (some (.ref f77)))
  (b77:isFn K (.ref f77)=true)
  (l77:Fd K f77 "pass_one" "Node.pass_one" (aj (top 43) 18))
  (a78:findIn K (.ref cD) "turn_to" = some (some (.ref f78)))
  (b78:isFn K (.ref f78)=true)
  (l78:Fd K f78 "turn_to" "Node.turn_to" (aj (top 43) 19))
  (a79:nsIn K mainGlobals "copies_of" = some (some (.ref f79)))
  (l79:Fd K f79 "copies_of" "copies_of" (top 46))
  (a80:findIn K (.ref cU) "__init__" = some (some (.ref f80)))
  (b80:isFn K (.ref f80)=true)
  (q80:makesIn K cU=true)
  (p80:keepIn K (.ref cU)=true)
  (l80:Fd K f80 "__init__" "Bus.__init__" (aj (top 47) 0))
  (a81:findIn K (.ref cU) "node_at" = some (some (.ref f81)))
  (b81:isFn K (.ref f81)=true)
  (l81:Fd K f81 "node_at" "Bus.node_at" (aj (top 47) 1))
  (a82:findIn K (.ref cU) "time" = some (some (.ref f82)))
  (b82:isFn K (.ref f82)=true)
  (l82:Fd K f82 "time" "Bus.time" (aj (top 47) 2))
  (a83:findIn K (.ref cU) "heard" = some (some (.ref f83)))
  (b83:isFn K (.ref f83)=true)
  (l83:Fd K f83 "heard" "Bus.heard" (aj (top 47) 3))
  (a84:findIn K (.ref cU) "waits" = some (some (.ref f84)))
  (b84:isFn K (.ref f84)=true)
  (l84:Fd K f84 "waits" "Bus.waits" (aj (top 47) 4))
  (a85:findIn K (.ref cU) "faults" = some (some (.ref f85)))
  (b85:isFn K (.ref f85)=true)
  (l85:Fd K f85 "faults" "Bus.faults" (aj (top 47) 5))
  (a86:findIn K (.ref cU) "mode" = some (some (.ref f86)))
  (b86:isFn K (.ref f86)=true)
  (l86:Fd K f86 "mode" "Bus.mode" (aj (top 47) 6))
  (a87:nsIn K mainGlobals "waits_elsewhere" = some (some (.ref f87)))
  (l87:Fd K f87 "waits_elsewhere" "waits_elsewhere" (top 48))
  (a88:nsIn K mainGlobals "send" = some (some (.ref f88)))
  (l88:Fd K f88 "send" "send" (top 49))
  (a89:nsIn K mainGlobals "step" = some (some (.ref f89)))
  (l89:Fd K f89 "step" "step" (top 50))
  (a90:nsIn K mainGlobals "run" = some (some (.ref f90)))
  (l90:Fd K f90 "run" "run" (top 51))
  (a91:nsIn K mainGlobals "_law_cell" = some (some (.ref f91)))
  (l91:Fd K f91 "_law_cell" "_law_cell" (top 53))
  (a92:nsIn K mainGlobals "_law_mix" = some (some (.ref f92)))
  (l92:Fd K f92 "_law_mix" "_law_mix" (top 54))
  (a93:nsIn K mainGlobals "_law_whole" = some (some (.ref f93)))
  (l93:Fd K f93 "_law_whole" "_law_whole" (top 55))
  (a94:nsIn K mainGlobals "_law_digits" = some (some (.ref f94)))
  (l94:Fd K f94 "_law_digits" "_law_digits" (top 56))
  (a95:nsIn K mainGlobals "_law_check" = some (some (.ref f95)))
  (l95:Fd K f95 "_law_check" "_law_check" (top 57))
  (a96:nsIn K mainGlobals "_law_bits" = some (some (.ref f96)))
  (l96:Fd K f96 "_law_bits" "_law_bits" (top 58))
  (a97:nsIn K mainGlobals "_law_stuffed" = some (some (.ref f97)))
  (l97:Fd K f97 "_law_stuffed" "_law_stuffed" (top 59))
  (a98:nsIn K mainGlobals "_law_run" = some (some (.ref f98)))
  (l98:Fd K f98 "_law_run" "_law_run" (top 60))
  (a99:nsIn K mainGlobals "_law_frame" = some (some (.ref f99)))
  (l99:Fd K f99 "_law_frame" "_law_frame" (top 61))
  (a100:nsIn K mainGlobals "_law_new" = some (some (.ref f100)))
  (l100:Fd K f100 "_law_new" "_law_new" (top 62))
  (a101:nsIn K mainGlobals "_law_start" = some (some (.ref f101)))
  (l101:Fd K f101 "_law_start" "_law_start" (top 63))
  (a102:nsIn K mainGlobals "_law_puts" = some (some (.ref f102)))
  (l102:Fd K f102 "_law_puts" "_law_puts" (top 64))
  (a103:nsIn K mainGlobals "_law_cries" = some (some (.ref f103)))
  (l103:Fd K f103 "_law_cries" "_law_cries" (top 65))
  (a104:nsIn K mainGlobals "_law_frame_bit" = some (some (.ref f104)))
  (l104:Fd K f104 "_law_frame_bit" "_law_frame_bit" (top 66))
  (a105:nsIn K mainGlobals "_law_body" = some (some (.ref f105)))
  (l105:Fd K f105 "_law_body" "_law_body" (top 67))
  (a106:nsIn K mainGlobals "_law_fits" = some (some (.ref f106)))
  (l106:Fd K f106 "_law_fits" "_law_fits" (top 68))
  (a107:nsIn K mainGlobals "_law_tail_bit" = some (some (.ref f107)))
  (l107:Fd K f107 "_law_tail_bit" "_law_tail_bit" (top 69))
  (a108:nsIn K mainGlobals "_law_read" = some (some (.ref f108)))
  (l108:Fd K f108 "_law_read" "_law_read" (top 70))
  (a109:nsIn K mainGlobals "_law_hears" = some (some (.ref f109)))
  (l109:Fd K f109 "_law_hears" "_law_hears" (top 71))
  (a110:nsIn K mainGlobals "_law_wire" = some (some (.ref f110)))
  (l110:Fd K f110 "_law_wire" "_law_wire" (top 72))
  (a111:nsIn K mainGlobals "_law_send" = some (some (.ref f111)))
  (l111:Fd K f111 "_law_send" "_law_send" (top 73))
  (a112:nsIn K mainGlobals "_law_told" = some (some (.ref f112)))
  (l112:Fd K f112 "_law_told" "_law_told" (top 74))
  (a113:nsIn K mainGlobals "_law_same" = some (some (.ref f113)))
  (l113:Fd K f113 "_law_same" "_law_same" (top 75))
  (a114:nsIn K mainGlobals "law" = some (some (.ref f114)))
  (l114:Fd K f114 "law" "law" (top 76))
  (w115a:plainGet K cR Str.empty=true)
  (w115b:hasDictIn K cR=true)
  (w115c:plainOver K cR=true)
  (w115d:findIn K (.ref cR) "__setattr__" = some (some (.builtin "object.__setattr__")))
  (n116:findIn K (.ref cR) "wire" = some none)
  (n117:findIn K (.ref cR) "plain" = some none)
  (n118:findIn K (.ref cR) "choices" = some none)
  (w119a:plainGet K cD Str.empty=true)
  (w119b:hasDictIn K cD=true)
  (w119c:plainOver K cD=true)
  (w119d:findIn K (.ref cD) "__setattr__" = some (some (.builtin "object.__setattr__")))
  (n120:findIn K (.ref cD) "state" = some none)
  (n121:findIn K (.ref cD) "passed" = some none)
  (n122:findIn K (.ref cD) "reading" = some none)
  (n123:findIn K (.ref cD) "sending" = some none)
  (n124:findIn K (.ref cD) "queue" = some none)
  (n125:findIn K (.ref cD) "taken" = some none)
  (n126:findIn K (.ref cD) "fault_count" = some none)
  (w127a:plainGet K cU Str.empty=true)
  (w127b:hasDictIn K cU=true)
  (w127c:plainOver K cU=true)
  (w127d:findIn K (.ref cU) "__setattr__" = some (some (.builtin "object.__setattr__")))
  (n128:findIn K (.ref cU) "nodes" = some none)
  (n129:findIn K (.ref cU) "bits_past" = some none)
  (y130:kitOne K (.type "int") (.type "bool")=some false)
  (x131:excIn K cF [.type "ValueError",.type "Exception",.type "BaseException",.type "object"] "ValueError.__new__" = true)
  (u132:mroIn K cF (.ref cE)=some true)
  (e133_0:findIn K (.ref cF) "__getattribute__" = some (some (.builtin "BaseException.__getattribute__")))
  (e133_1:findIn K (.ref cF) "__getattr__" = some none)
  (e133_2:findIn K (.ref cF) "__class__" = some (some (.builtin "object.__class__")))
  (e133_3:specialIn K (.builtin "object.__class__") "__get__" = some (some (.builtin "getset_descriptor.__get__")))
  (e133_4:takesIn K (.builtin "object.__class__")=some true)
  (e133_5:mroIn K cF (.type "object")=some true)
  (e133_6:mroIn K cF (.type "BaseException")=some true)
  (x134:excIn K cN [.type "ValueError",.type "Exception",.type "BaseException",.type "object"] "ValueError.__new__" = true)
  (u135:mroIn K cN (.ref cE)=some true)
  (e136_0:findIn K (.ref cN) "__getattribute__" = some (some (.builtin "BaseException.__getattribute__")))
  (e136_1:findIn K (.ref cN) "__getattr__" = some none)
  (e136_2:findIn K (.ref cN) "__class__" = some (some (.builtin "object.__class__")))
  (e136_3:specialIn K (.builtin "object.__class__") "__get__" = some (some (.builtin "getset_descriptor.__get__")))
  (e136_4:takesIn K (.builtin "object.__class__")=some true)
  (e136_5:mroIn K cN (.type "object")=some true)
  (e136_6:mroIn K cN (.type "BaseException")=some true)
  (y137:kitOne K (.ref cF) (.ref cF)=some true)
  (y138:kitOne K (.ref cF) (.ref cN)=some false)
  (y139:kitOne K (.ref cF) (.ref cB)=some false)
  (y140:kitOne K (.ref cF) (.type "ValueError")=some true)
  (y141:kitOne K (.ref cN) (.ref cF)=some false)
  (y142:kitOne K (.ref cN) (.ref cN)=some true)
  (y143:kitOne K (.ref cN) (.ref cB)=some false)
  (y144:kitOne K (.ref cN) (.type "ValueError")=some true)
  (y145:kitAny K (.ref cF) [.ref cB,.ref cN]=some false)
  (u146:typeIn K (.ref cE)=some (.type "type"))
  (u147:mroIn K cE (.type "object")=some true)
  (u148:mroIn K cE (.type "BaseException")=some true)
  : ∃ (c:Cs) (f:Addr) (fd:FuncData),Txt K mg c∧Fun K "law" "law" (top 76) f fd∧mg "law" = some (.ref f)∧(∀ (s:Shared) (v:Value),BindsTo s fd ⟨[v],[]⟩ [("_law_script",v)]):=by
 have T:Txt K mg ⟨cE,cF,cN,cB,cR,cD,cU⟩:=by
  constructor
  ·exact PySem.W.mg_none_of X G z1
  ·exact PySem.W.mg_none_of X G z2
  ·exact PySem.W.mg_none_of X G z3
  ·exact PySem.W.mg_none_of X G z4
  ·exact PySem.W.mg_none_of X G z5
  ·exact PySem.W.mg_none_of X G z6
  ·exact PySem.W.mg_none_of X G z7
  ·exact PySem.W.mg_none_of X G z8
  ·exact PySem.W.mg_none_of X G z9
  ·exact PySem.W.mg_none_of X G z10
  ·exact PySem.W.mg_none_of X G z11
  ·exact ⟨_,PySem.W.mg_of X G g12⟩
  ·exact ⟨_,PySem.W.mg_of X G g13⟩
  ·exact ⟨_,PySem.W.mg_of X G g14⟩
  ·exact ⟨_,PySem.W.mg_of X G g15⟩
  ·exact ⟨_,PySem.W.mg_of X G g16⟩
  ·exact ⟨_,PySem.W.mg_of X G g17⟩
  ·exact ⟨_,PySem.W.mg_of X G g18⟩
  ·exact ⟨_,PySem.W.mg_of X G g19⟩
  ·exact ⟨_,PySem.W.mg_of X G g20⟩
  ·exact ⟨_,PySem.W.mg_of X G g21⟩
  ·exact ⟨_,PySem.W.mg_of X G g22⟩
  ·exact ⟨_,PySem.W.mg_of X G g23⟩
  ·exact ⟨_,PySem.W.mg_of X G g24⟩
  ·exact ⟨_,PySem.W.mg_of X G g25⟩
  ·exact ⟨_,PySem.W.mg_of X G g26⟩
  ·exact ⟨_,PySem.W.mg_of X G g27⟩
  ·exact ⟨_,PySem.W.mg_of X G g28⟩
  ·exact ⟨_,PySem.W.mg_of X G g29⟩
  ·exact ⟨_,PySem.W.mg_of X G g30⟩
  ·exact ⟨_,PySem.W.mg_of X G g31⟩
  ·exact ⟨_,PySem.W.mg_of X G g32⟩
  ·exact ⟨_,PySem.W.mg_of X G g33⟩
  ·exact ⟨_,PySem.W.mg_of X G g34⟩
  ·exact ⟨_,PySem.W.mg_of X G g35⟩
  ·exact PySem.W.mg_of X G m36
  ·exact PySem.W.mg_of X G m37
  ·exact PySem.W.mg_of X G m38
  ·exact PySem.W.mg_of X G m39
  ·exact PySem.W.mg_of X G m40
  ·exact PySem.W.mg_of X G m41
  ·exact PySem.W.mg_of X G m42
  ·exact l43.df X G a43
  ·exact l44.df X G a44
  ·exact l45.df X G a45
  ·exact l46.df X G a46
  ·exact l47.df X G a47
  ·exact l48.df X G a48
  ·exact l49.df X G a49
  ·exact l50.df X G a50
  ·exact l51.df X G a51
  ·exact l52.df X G a52
  ·exact l53.df X G a53
  ·exact l54.df X G a54
  ·exact l55.ini q55 a55 b55 p55
  ·exact l56.mt a56 b56
  ·exact l57.mt a57 b57
  ·exact l58.mt a58 b58
  ·exact l59.ini q59 a59 b59 p59
  ·exact l60.mt a60 b60
  ·exact l61.mt a61 b61
  ·exact l62.mt a62 b62
  ·exact l63.mt a63 b63
  ·exact l64.mt a64 b64
  ·exact l65.mt a65 b65
  ·exact l66.mt a66 b66
  ·exact l67.mt a67 b67
  ·exact l68.mt a68 b68
  ·exact l69.mt a69 b69
  ·exact l70.mt a70 b70
  ·exact l71.mt a71 b71
  ·exact l72.mt a72 b72
  ·exact l73.mt a73 b73
  ·exact l74.mt a74 b74
  ·exact l75.mt a75 b75
  ·exact l76.mt a76 b76
  ·exact l77.mt a77 b77
  ·exact l78.mt a78 b78
  ·exact l79.df X G a79
  ·exact l80.ini q80 a80 b80 p80
  ·exact l81.mt a81 b81
  ·exact l82.mt a82 b82
  ·exact l83.mt a83 b83
  ·exact l84.mt a84 b84
  ·exact l85.mt a85 b85
  ·exact l86.mt a86 b86
  ·exact l87.df X G a87
  ·exact l88.df X G a88
  ·exact l89.df X G a89
  ·exact l90.df X G a90
  ·exact l91.df X G a91
  ·exact l92.df X G a92
  ·exact l93.df X G a93
  ·exact l94.df X G a94
  ·exact l95.df X G a95
  ·exact l96.df X G a96
  ·exact l97.df X G a97
  ·exact l98.df X G a98
  ·exact l99.df X G a99
  ·exact l100.df X G a100
  ·exact l101.df X G a101
  ·exact l102.df X G a102
  ·exact l103.df X G a103
  ·exact l104.df X G a104
  ·exact l105.df X G a105
  ·exact l106.df X G a106
  ·exact l107.df X G a107
  ·exact l108.df X G a108
  ·exact l109.df X G a109
  ·exact l110.df X G a110
  ·exact l111.df X G a111
  ·exact l112.df X G a112
  ·exact l113.df X G a113
  ·exact l114.df X G a114
  ·exact ⟨w115a,w115b,w115c,w115d⟩
  ·exact n116
  ·exact n117
  ·exact n118
  ·exact ⟨w119a,w119b,w119c,w119d⟩
  ·exact n120
  ·exact n121
  ·exact n122
  ·exact n123
  ·exact n124
  ·exact n125
  ·exact n126
  ·exact ⟨w127a,w127b,w127c,w127d⟩
  ·exact n128
  ·exact n129
  ·exact y130
  ·exact x131
  ·exact u132
  ·exact ⟨e133_0,e133_1,e133_2,e133_3,e133_4,e133_5,e133_6,iS e133_6⟩
  ·exact x134
  ·exact u135
  ·exact ⟨e136_0,e136_1,e136_2,e136_3,e136_4,e136_5,e136_6,iS e136_6⟩
  ·exact y137
  ·exact y138
  ·exact y139
  ·exact y140
  ·exact y141
  ·exact y142
  ·exact y143
  ·exact y144
  ·exact y145
  ·exact u146
  ·exact iS u147
  ·exact u148
 obtain ⟨fd,F⟩:=l114
 obtain ⟨⟨oc,od,kV,dc,pm,an,cd,ct,sl,rfl,e⟩,_⟩:=id F
 exact ⟨_,_,_,T,F,PySem.W.mg_of X G a114,fun s v => .of_eq rfl⟩
theorem law_fn {l:PySem.W.OpenLaw} {w:World} {K:PySem.W.Frag} {mg:Str→Option Value} {fa:Addr} (hfa:mg "law" = some (.ref fa))
  (Z:∃ (c:Cs) (f:Addr) (fd:FuncData),Txt K mg c∧Fun K "law" "law" (top 76) f fd∧mg "law" = some (.ref f)∧(∀ (s:Shared) (v:Value),BindsTo s fd ⟨[v],[]⟩ [("_law_script",v)])) :
  ∃ (c:Cs) (fd:FuncData),(∀ (s:Shared) (v:Value),BindsTo s fd ⟨[v],[]⟩ [("_law_script",v)])∧∀ base:Heap,K.In base→base.Ns mainGlobals mg→FnOk l.prog w K mg base CX0 12 fa fd ["_law_script"] (vG K c):=by
 obtain ⟨c,f,fd,T,F,m,b⟩:=Z
 have e:=hfa.symm.trans m
 cases e
 exact ⟨c,fd,b,fun base _ _=>Ct T F⟩
def DZ (K:PySem.W.Frag):Sp:=sp1 fun v H Q _=>∃ (a:Addr) (ns:List Int),v = .ref a∧SqL K H a (ns.map V.int)∧ns.length≤63∧∀ H',Q (.bl true) H'
theorem walk {l:PySem.W.OpenLaw} {q:Program} {loose:List Str} {XP:(Str→Option Value)→Heap→Prop} {YP:World→Heap→Prop} {d:DefRec} {K:Params→PySem.W.Frag} (hn:l.most=some 63) (hdf:d.params.defaults=[])
  (hY:∀ (w:World) (h:Heap),YP w h→(K w.params).In h)
  (F:∀ (w:World) (mg:Str→Option Value) (fa:Addr) (h:Heap),(K w.params).In h→h.Ns mainGlobals mg→mg d.name=some (.ref fa) →
   ∃ (c:Cs) (fd:FuncData),(∀ (s:Shared) (u:Value),BindsTo s fd ⟨[u],[]⟩ [("_law_script",u)])∧∀ base:Heap,(K w.params).In base→base.Ns mainGlobals mg→FnOk l.prog w (K w.params) mg base CX0 12 fa fd ["_law_script"] (vG (K w.params) c)) :
  PySem.W.WalkO q loose XP YP l.row.toRowW d [] (fun f vs=>PySem.call f vs):=
 L2.walk_of (n:=63) (k:=12) (x := "_law_script") (CX:=fun _=>CX0) (sp:=fun w=>DZ (K w.params)) hn (by decide) hdf ⟨rfl,by decide,by decide⟩ hY
  (fun w mg fa h a b m=>let ⟨_,fd,e,f⟩:=F w mg fa h a b m;⟨fd,e,fun base x y=>(f base x y).imp fun vs H Q E ⟨v,e1,a,ns,e2,e3,_,e4⟩=>⟨v,e1,a,ns,e2,e3,e4⟩⟩)
  (fun _ _ a ns hl _ hS=>⟨_,rfl,a,ns,rfl,hS,hl,fun _=>rfl⟩) fun _ _ _ _ _ z=>z
end BB
set_option Elab.async true
namespace PySem.Challenge.cw_bitbus_k10_wire_holds
theorem tw693447717182320704:0=0:=rfl
theorem tw5653527490122123392:0=0:=rfl
theorem tw761370811932083392:0=0:=rfl
theorem tw17209295198724852928:0=0:=rfl
theorem tw813955572671623360:0=0:=rfl
theorem tw2714860655245932768:0=0:=rfl
theorem tw14918085197186153760:0=0:=rfl
theorem tw13063031145479544128:0=0:=rfl
theorem tw14060670047979096416:0=0:=rfl
theorem tw14013182355145643360:0=0:=rfl
theorem tw9768160823193344416:0=0:=rfl
theorem tw11237797604349931936:0=0:=rfl
theorem tw9847351000341114304:0=0:=rfl
theorem tw12773080718862249472:0=0:=rfl
theorem tw9511462200059930144:0=0:=rfl
theorem tw15473969679958402848:0=0:=rfl
theorem tw1110058899623828288:0=0:=rfl
theorem tw17840863733836229504:0=0:=rfl
theorem tw11314595120115937184:0=0:=rfl
theorem tw13563515368020345792:0=0:=rfl
theorem tw17270080891113884608:0=0:=rfl
theorem tw8212324416040656832:0=0:=rfl
theorem tw14419319262837177280:0=0:=rfl
theorem tw3175814986911018976:0=0:=rfl
theorem tw4265572135447528449:0=0:=rfl
theorem tw10562184649125690401:0=0:=rfl
theorem tw13253707885473721441:0=0:=rfl
theorem tw12231667468205531265:0=0:=rfl
theorem tw17426165328256983169:0=0:=rfl
theorem tw4358469978417759425:0=0:=rfl
theorem tw4038392539083052225:0=0:=rfl
theorem tw458137295905383617:0=0:=rfl
theorem tw6008897510762354945:0=0:=rfl
theorem tw15280793086043805953:0=0:=rfl
theorem tw14526243114167311649:0=0:=rfl
theorem tw14314797751772633377:0=0:=rfl
theorem tw5366668948933786945:0=0:=rfl
theorem tw5510536299973739873:0=0:=rfl
theorem tw9839340092253063521:0=0:=rfl
theorem tw16788710162386364993:0=0:=rfl
theorem tw14744366137945021057:0=0:=rfl
theorem tw3808641761450403489:0=0:=rfl
theorem tw4583851956782816993:0=0:=rfl
theorem tw18143460633870356257:0=0:=rfl
theorem tw4765601911147227937:0=0:=rfl
theorem tw14413196879159578465:0=0:=rfl
theorem tw11301309023536394177:0=0:=rfl
theorem tw14411953049097063361:0=0:=rfl
theorem tw1977387542164406274:0=0:=rfl
theorem tw9023075094917395458:0=0:=rfl
theorem tw2071483645581846626:0=0:=rfl
theorem tw7890605637744046210:0=0:=rfl
theorem tw15264137499329773698:0=0:=rfl
theorem tw1408404391296182434:0=0:=rfl
theorem tw7666799420875599042:0=0:=rfl
theorem tw13985730360398024930:0=0:=rfl
theorem tw5852474313729226018:0=0:=rfl
theorem tw1401748255011831074:0=0:=rfl
theorem tw18039993611622677922:0=0:=rfl
theorem tw17508929718557195746:0=0:=rfl
theorem tw3722453923274365442:0=0:=rfl
theorem tw9062262949720635938:0=0:=rfl
theorem tw5652580826929256034:0=0:=rfl
theorem tw5287233807627278210:0=0:=rfl
theorem tw11790529626055848866:0=0:=rfl
theorem tw16749259419752732707:0=0:=rfl
theorem tw5836729520311612483:0=0:=rfl
theorem tw18289302029277390947:0=0:=rfl
theorem tw7775638984587173091:0=0:=rfl
theorem tw3865881082334136579:0=0:=rfl
theorem tw14713113688242489635:0=0:=rfl
theorem tw16802553254573202723:0=0:=rfl
theorem tw16152397870482838019:0=0:=rfl
theorem tw5768369181616483875:0=0:=rfl
theorem tw9444277136100997699:0=0:=rfl
theorem tw14376114579626942083:0=0:=rfl
theorem tw6900818449817597571:0=0:=rfl
theorem tw2876407828619402915:0=0:=rfl
theorem tw10637767632756627107:0=0:=rfl
theorem tw16169854834005852867:0=0:=rfl
theorem tw6332422954499598083:0=0:=rfl
theorem tw13137709030861651747:0=0:=rfl
theorem tw15237365231480111971:0=0:=rfl
theorem tw7832657973436018756:0=0:=rfl
theorem tw15134004861274082404:0=0:=rfl
theorem tw11322810308949228708:0=0:=rfl
theorem tw5904556603245911236:0=0:=rfl
theorem tw7647336486375143748:0=0:=rfl
theorem tw3157265317720566148:0=0:=rfl
theorem tw16491060061023953284:0=0:=rfl
theorem tw2648085485587699236:0=0:=rfl
theorem tw17299307043681463844:0=0:=rfl
theorem tw10099328941739339332:0=0:=rfl
theorem tw1653026798205873828:0=0:=rfl
theorem tw17014579998272446244:0=0:=rfl
theorem tw10826835005851582276:0=0:=rfl
theorem tw12246796438856528708:0=0:=rfl
theorem tw4583438545598389092:0=0:=rfl
theorem tw18273838487486369668:0=0:=rfl
theorem tw15045680948016760708:0=0:=rfl
theorem tw17404160019709795236:0=0:=rfl
theorem tw17700394808349387716:0=0:=rfl
theorem tw12532564182468256740:0=0:=rfl
theorem tw7428628550194077733:0=0:=rfl
theorem tw11672219002034073701:0=0:=rfl
theorem tw15320017991490980965:0=0:=rfl
theorem tw17708931730844786821:0=0:=rfl
theorem tw11693976369733393573:0=0:=rfl
theorem tw10312499515938882789:0=0:=rfl
theorem tw17063873370776653029:0=0:=rfl
theorem tw4024648855690184037:0=0:=rfl
theorem tw1338654985356020069:0=0:=rfl
theorem tw14123030503171669349:0=0:=rfl
theorem tw10589742795566547333:0=0:=rfl
theorem tw10534000495615470053:0=0:=rfl
theorem tw9490129466681162213:0=0:=rfl
theorem tw16226171252170963461:0=0:=rfl
theorem tw4009448474390459973:0=0:=rfl
theorem tw16017089659015687845:0=0:=rfl
theorem tw17292683859109628677:0=0:=rfl
theorem tw3124461906332986341:0=0:=rfl
theorem tw18252146408809525221:0=0:=rfl
theorem tw793237589350431782:0=0:=rfl
theorem tw16161632206495576102:0=0:=rfl
theorem tw3994095642666376294:0=0:=rfl
theorem tw802054325302027366:0=0:=rfl
theorem tw6888879753891371142:0=0:=rfl
theorem tw12330686046987500710:0=0:=rfl
theorem tw18439422480642025766:0=0:=rfl
theorem tw2829196002362287398:0=0:=rfl
theorem tw823116252634662214:0=0:=rfl
theorem tw644286527805383046:0=0:=rfl
theorem tw4959072749834883494:0=0:=rfl
theorem tw5711365077552927174:0=0:=rfl
theorem tw2452004280181185990:0=0:=rfl
theorem tw8658344295342011942:0=0:=rfl
theorem tw9104291503691112102:0=0:=rfl
theorem tw15900553307752122118:0=0:=rfl
theorem tw11303992917455972134:0=0:=rfl
theorem tw17412471688251742022:0=0:=rfl
theorem tw12852694553137151846:0=0:=rfl
theorem tw17565144856233295782:0=0:=rfl
theorem tw15330089414476030918:0=0:=rfl
theorem tw39552072575290342:0=0:=rfl
theorem tw16687284572627607559:0=0:=rfl
theorem tw10617583640707925063:0=0:=rfl
theorem tw6130932040508937319:0=0:=rfl
theorem tw18129096132758793351:0=0:=rfl
theorem tw3490012521153719463:0=0:=rfl
theorem tw6747167630534027495:0=0:=rfl
theorem tw13677895572913762567:0=0:=rfl
theorem tw11473638276412609831:0=0:=rfl
theorem tw13274876260366762279:0=0:=rfl
theorem tw6849095791797093703:0=0:=rfl
theorem tw15382761993547584871:0=0:=rfl
theorem tw138753350973180295:0=0:=rfl
theorem tw8463883893852072327:0=0:=rfl
theorem tw3956344635869882759:0=0:=rfl
theorem tw7241417790801204647:0=0:=rfl
theorem tw16100510746275422727:0=0:=rfl
theorem tw18125345296364679783:0=0:=rfl
theorem tw9444220269505314439:0=0:=rfl
theorem tw8161931011254363815:0=0:=rfl
theorem tw58527181076196263:0=0:=rfl
theorem tw6000292330527904711:0=0:=rfl
theorem tw7119589880893358088:0=0:=rfl
theorem tw11406834713178132520:0=0:=rfl
theorem tw5672049976341120072:0=0:=rfl
theorem tw2057689328266587272:0=0:=rfl
theorem tw13854678958283108520:0=0:=rfl
theorem tw10436705975916021928:0=0:=rfl
theorem tw11649111491573549256:0=0:=rfl
theorem tw3630262579321382088:0=0:=rfl
theorem tw14596265009710098632:0=0:=rfl
theorem tw8816332558211814632:0=0:=rfl
theorem tw1542755539547125992:0=0:=rfl
theorem tw6361114995684680968:0=0:=rfl
theorem tw8442320819584794024:0=0:=rfl
theorem tw5274501640153611720:0=0:=rfl
theorem tw4990602612404705736:0=0:=rfl
theorem tw5278874461124308456:0=0:=rfl
theorem tw1985645179085900264:0=0:=rfl
theorem tw17267649636529531400:0=0:=rfl
theorem tw13211447269982954120:0=0:=rfl
theorem tw11343345866953558856:0=0:=rfl
theorem tw2890730499155086152:0=0:=rfl
theorem tw13611191371097992:0=0:=rfl
theorem tw16804680412261891016:0=0:=rfl
theorem tw11358087273603491784:0=0:=rfl
theorem tw8977045184476997608:0=0:=rfl
theorem tw13889226324890029065:0=0:=rfl
theorem tw925176870028897321:0=0:=rfl
theorem tw14674729421427978313:0=0:=rfl
theorem tw11139134149580196969:0=0:=rfl
theorem tw6864508170922771657:0=0:=rfl
theorem tw11533539992182922537:0=0:=rfl
theorem tw4444502091468030249:0=0:=rfl
theorem tw3555718775882301737:0=0:=rfl
theorem tw578187852708765065:0=0:=rfl
theorem tw1956430905846882729:0=0:=rfl
theorem tw4458800803555143209:0=0:=rfl
theorem tw8289129993956204105:0=0:=rfl
theorem tw1586535504578359881:0=0:=rfl
theorem tw8355403500709485193:0=0:=rfl
theorem tw15958567739043144361:0=0:=rfl
theorem tw2145521767148424905:0=0:=rfl
theorem tw18362211114421083849:0=0:=rfl
theorem tw13360991418161950441:0=0:=rfl
theorem tw8792624058191054633:0=0:=rfl
theorem tw8859059186217164617:0=0:=rfl
theorem tw1776373453368458057:0=0:=rfl
theorem tw9515144239943303081:0=0:=rfl
theorem tw15606720526103225289:0=0:=rfl
theorem tw1387715327506921449:0=0:=rfl
theorem tw13011922947818917930:0=0:=rfl
theorem tw696664918074403882:0=0:=rfl
theorem tw15878725818132535370:0=0:=rfl
theorem tw13045679165518467178:0=0:=rfl
theorem tw3678124869654391946:0=0:=rfl
theorem tw3288146090240845994:0=0:=rfl
theorem tw9888205521881887914:0=0:=rfl
theorem tw16923829573194392906:0=0:=rfl
theorem tw8227725207086105034:0=0:=rfl
theorem tw6918215146834937386:0=0:=rfl
theorem tw6560234066235317802:0=0:=rfl
theorem tw5157651933784322730:0=0:=rfl
theorem tw16033788268815231722:0=0:=rfl
theorem tw15711199738793720586:0=0:=rfl
theorem tw10954168194598353706:0=0:=rfl
theorem tw14401510621254623050:0=0:=rfl
theorem tw11635206025328843594:0=0:=rfl
theorem tw12736339937216012299:0=0:=rfl
theorem tw10226050489422423179:0=0:=rfl
theorem tw4682484204147909803:0=0:=rfl
theorem tw3463378942047335723:0=0:=rfl
theorem tw9078201106584943947:0=0:=rfl
theorem tw5561730116406131115:0=0:=rfl
theorem tw5360963836977123787:0=0:=rfl
theorem tw7829487792704180683:0=0:=rfl
theorem tw13036842190192042443:0=0:=rfl
theorem tw2363225877725578763:0=0:=rfl
theorem tw9252797360720070155:0=0:=rfl
theorem tw12914332435723449931:0=0:=rfl
theorem tw6788873002623075947:0=0:=rfl
theorem tw11870083516409286251:0=0:=rfl
theorem tw3085870404582483563:0=0:=rfl
theorem tw15153011482939356843:0=0:=rfl
theorem tw14696865443865028299:0=0:=rfl
theorem tw7228476806744155947:0=0:=rfl
theorem tw15530124889064518443:0=0:=rfl
theorem tw5411578618339790699:0=0:=rfl
theorem tw15538788936225643371:0=0:=rfl
theorem tw6175726802404179883:0=0:=rfl
theorem tw12626979893252519980:0=0:=rfl
theorem tw17889661464570021996:0=0:=rfl
theorem tw8889120943361521804:0=0:=rfl
theorem tw6735470103072554156:0=0:=rfl
theorem tw17099414959759828172:0=0:=rfl
theorem tw10701354702020681100:0=0:=rfl
theorem tw4322098186195310028:0=0:=rfl
theorem tw12535992989437990508:0=0:=rfl
theorem tw735998796346901100:0=0:=rfl
theorem tw3154905833989819052:0=0:=rfl
theorem tw9718327127027260108:0=0:=rfl
theorem tw11131095927605548844:0=0:=rfl
theorem tw17635342375626771308:0=0:=rfl
theorem tw9898046557525017484:0=0:=rfl
theorem tw8783019696082126764:0=0:=rfl
theorem tw2816435774634776492:0=0:=rfl
theorem tw15106110809491154892:0=0:=rfl
theorem tw5462600062116288460:0=0:=rfl
theorem tw8265718335980266541:0=0:=rfl
theorem tw15566977053380609133:0=0:=rfl
theorem tw2016323430297728205:0=0:=rfl
theorem tw9308467987254679885:0=0:=rfl
theorem tw7148569656432892269:0=0:=rfl
theorem tw3728492412032647693:0=0:=rfl
theorem tw16560371979350584845:0=0:=rfl
theorem tw14393292597350869581:0=0:=rfl
theorem tw7678121141909893741:0=0:=rfl
theorem tw9335530460761144013:0=0:=rfl
theorem tw5267365830175180525:0=0:=rfl
theorem tw10502719971228567309:0=0:=rfl
theorem tw9350625880093356845:0=0:=rfl
theorem tw15309621632583521101:0=0:=rfl
theorem tw16727669138675872621:0=0:=rfl
theorem tw272937229458049933:0=0:=rfl
theorem tw10809830944708266925:0=0:=rfl
theorem tw8174368556389610574:0=0:=rfl
theorem tw4768654389327906958:0=0:=rfl
theorem tw3903407636032609422:0=0:=rfl
theorem tw7104788505568161998:0=0:=rfl
theorem tw365124227117594830:0=0:=rfl
theorem tw6063393976834625774:0=0:=rfl
theorem tw14476034610506797326:0=0:=rfl
theorem tw3778966998891157774:0=0:=rfl
theorem tw7518181291162487150:0=0:=rfl
theorem tw9455239296773033422:0=0:=rfl
theorem tw11047168620848111054:0=0:=rfl
theorem tw7722487528047806958:0=0:=rfl
theorem tw3048772202278892014:0=0:=rfl
theorem tw2746131329502613006:0=0:=rfl
theorem tw7544310429530057358:0=0:=rfl
theorem tw10850718429753775854:0=0:=rfl
theorem tw10445930259688529710:0=0:=rfl
theorem tw10385259410252490542:0=0:=rfl
theorem tw7084320873204880206:0=0:=rfl
theorem tw8155973437138462542:0=0:=rfl
theorem tw11688000633774147438:0=0:=rfl
theorem tw3607526163609778030:0=0:=rfl
theorem tw12150937350683871118:0=0:=rfl
theorem tw17313799112010178478:0=0:=rfl
theorem tw13576473597070787502:0=0:=rfl
theorem tw4167776103245963182:0=0:=rfl
theorem tw15234094648147767214:0=0:=rfl
theorem tw13296471316144903118:0=0:=rfl
theorem tw15517819479036045359:0=0:=rfl
theorem tw9108676694798580783:0=0:=rfl
theorem tw3548377559936728111:0=0:=rfl
theorem tw10671279852966743119:0=0:=rfl
theorem tw14411272824886443087:0=0:=rfl
theorem tw10646371530413540559:0=0:=rfl
theorem tw9715938427003606223:0=0:=rfl
theorem tw2622245232166051023:0=0:=rfl
theorem tw9105124339174323535:0=0:=rfl
theorem tw17260337640398646607:0=0:=rfl
theorem tw15402903833082275247:0=0:=rfl
theorem tw2468630400520899055:0=0:=rfl
theorem tw11745647201122546191:0=0:=rfl
theorem tw11258012084011765327:0=0:=rfl
theorem tw9365135608086030959:0=0:=rfl
theorem tw5662454764021029551:0=0:=rfl
theorem tw8907163245415296719:0=0:=rfl
theorem tw5586082651699866351:0=0:=rfl
theorem tw2450987527446645519:0=0:=rfl
theorem tw16737710677154103087:0=0:=rfl
theorem tw10043716395595870127:0=0:=rfl
theorem tw5068043753455864751:0=0:=rfl
theorem tw9108859109756492719:0=0:=rfl
theorem tw5154393163980985488:0=0:=rfl
theorem tw1178310797871253680:0=0:=rfl
theorem tw18264445684077263056:0=0:=rfl
theorem tw7814734735587737904:0=0:=rfl
theorem tw314086886951935312:0=0:=rfl
theorem tw13271907304751905136:0=0:=rfl
theorem tw12614720570467198384:0=0:=rfl
theorem tw2358459355160925712:0=0:=rfl
theorem tw7460868982545579568:0=0:=rfl
theorem tw13933510480868115056:0=0:=rfl
theorem tw4808793533630285424:0=0:=rfl
theorem tw14017729273470756464:0=0:=rfl
theorem tw10131431856843921136:0=0:=rfl
theorem tw5887037167220710128:0=0:=rfl
theorem tw5226390532332538672:0=0:=rfl
theorem tw4549600767278634800:0=0:=rfl
theorem tw2935054665872767792:0=0:=rfl
theorem tw11527466339807165264:0=0:=rfl
theorem tw15253498092247459728:0=0:=rfl
theorem tw16992908651895681936:0=0:=rfl
theorem tw13868316344842037200:0=0:=rfl
theorem tw826132271235648464:0=0:=rfl
theorem tw5669876414158565328:0=0:=rfl
theorem tw2368418825649866801:0=0:=rfl
theorem tw8601131793133731921:0=0:=rfl
theorem tw2560304269721835601:0=0:=rfl
theorem tw1898368977559857265:0=0:=rfl
theorem tw3569047646132064369:0=0:=rfl
theorem tw5105388393347258513:0=0:=rfl
theorem tw4415637228761188529:0=0:=rfl
theorem tw3586608823485310161:0=0:=rfl
theorem tw10315834201557471473:0=0:=rfl
theorem tw7146316912607061233:0=0:=rfl
theorem tw4511912600998178065:0=0:=rfl
theorem tw1636808341722663217:0=0:=rfl
theorem tw4333252096768131441:0=0:=rfl
theorem tw9989170174702641585:0=0:=rfl
theorem tw2213616765040505297:0=0:=rfl
theorem tw7170496851224991217:0=0:=rfl
theorem tw228108082466360849:0=0:=rfl
theorem tw7412491988353160753:0=0:=rfl
theorem tw18157753439042806417:0=0:=rfl
theorem tw8858026040942416561:0=0:=rfl
theorem tw8283000449256614577:0=0:=rfl
theorem tw16990000591439413041:0=0:=rfl
theorem tw14318382995626117969:0=0:=rfl
theorem tw10256596373203464049:0=0:=rfl
theorem tw14852962607023221617:0=0:=rfl
theorem tw10022141918097992625:0=0:=rfl
theorem tw49657407490301905:0=0:=rfl
theorem tw17799218965502070769:0=0:=rfl
theorem tw4194967449892624434:0=0:=rfl
theorem tw16911005817355869234:0=0:=rfl
theorem tw11699877460840639538:0=0:=rfl
theorem tw1100372461730496658:0=0:=rfl
theorem tw6277037324139694226:0=0:=rfl
theorem tw17827322194248608946:0=0:=rfl
theorem tw4788705470624445650:0=0:=rfl
theorem tw2260598593535799506:0=0:=rfl
theorem tw16060841812273491346:0=0:=rfl
theorem tw10425651287842166194:0=0:=rfl
theorem tw9156393062952848850:0=0:=rfl
theorem tw9878572064547109330:0=0:=rfl
theorem tw7163385337990435314:0=0:=rfl
theorem tw5311442458947426834:0=0:=rfl
theorem tw8725740121612778002:0=0:=rfl
theorem tw17106261767126848050:0=0:=rfl
theorem tw12767566664446719570:0=0:=rfl
theorem tw13263733261067930194:0=0:=rfl
theorem tw3764195064135547474:0=0:=rfl
theorem tw5056778263505729138:0=0:=rfl
theorem tw7479086902736135858:0=0:=rfl
theorem tw17215641712717324978:0=0:=rfl
theorem tw1788445480167192338:0=0:=rfl
theorem tw13831019087770184466:0=0:=rfl
theorem tw16514840297444262802:0=0:=rfl
theorem tw15301707372726821810:0=0:=rfl
theorem tw10738772899600743410:0=0:=rfl
theorem tw5922245738492644371:0=0:=rfl
theorem tw32946898720975955:0=0:=rfl
theorem tw4579736962807679091:0=0:=rfl
theorem tw5020477720176838803:0=0:=rfl
theorem tw15161504604477922483:0=0:=rfl
theorem tw9893534837643093171:0=0:=rfl
theorem tw3717912003869046963:0=0:=rfl
theorem tw13144658231695259859:0=0:=rfl
theorem tw17484186067470139667:0=0:=rfl
theorem tw12512413159811799315:0=0:=rfl
theorem tw10928607842664301875:0=0:=rfl
theorem tw3175229617504324979:0=0:=rfl
theorem tw15541381802026275187:0=0:=rfl
theorem tw16878890519609186707:0=0:=rfl
theorem tw4041805130170431891:0=0:=rfl
theorem tw7443070021992145331:0=0:=rfl
theorem tw838803942229891571:0=0:=rfl
theorem tw6996661582137354771:0=0:=rfl
theorem tw298225483187438131:0=0:=rfl
theorem tw8464525820747863603:0=0:=rfl
theorem tw17096890030957592115:0=0:=rfl
theorem tw16755998176479409779:0=0:=rfl
theorem tw12875201311391257267:0=0:=rfl
theorem tw11963146395825014483:0=0:=rfl
theorem tw9927668335861640947:0=0:=rfl
theorem tw13799996435141049075:0=0:=rfl
theorem tw7810803200136809235:0=0:=rfl
theorem tw7697712193786275667:0=0:=rfl
theorem tw15168705053111014259:0=0:=rfl
theorem tw14368283361500290003:0=0:=rfl
theorem tw15035118244621253587:0=0:=rfl
theorem tw5533660454963841011:0=0:=rfl
theorem tw8923451976787472371:0=0:=rfl
theorem tw5588715674054493236:0=0:=rfl
theorem tw14227981897840203828:0=0:=rfl
theorem tw18243350837866625108:0=0:=rfl
theorem tw17127981900838113460:0=0:=rfl
theorem tw14227836491597845684:0=0:=rfl
theorem tw8710802644522965172:0=0:=rfl
theorem tw6950587912205220020:0=0:=rfl
theorem tw7340966277209943252:0=0:=rfl
theorem tw2875737008815768820:0=0:=rfl
theorem tw16886843262341424372:0=0:=rfl
theorem tw14892893507838905620:0=0:=rfl
theorem tw2091811369177423124:0=0:=rfl
theorem tw1796504627782950196:0=0:=rfl
theorem tw14493573545213328692:0=0:=rfl
theorem tw3522989875078142324:0=0:=rfl
theorem tw9903564842990264724:0=0:=rfl
theorem tw17160350676756418996:0=0:=rfl
theorem tw1121677048517223860:0=0:=rfl
theorem tw9053757003947264468:0=0:=rfl
theorem tw17519879969454191092:0=0:=rfl
theorem tw3367125836613123572:0=0:=rfl
theorem tw5833953854507867700:0=0:=rfl
theorem tw17659136361871021716:0=0:=rfl
theorem tw11895652652133072532:0=0:=rfl
theorem tw3006724317687130836:0=0:=rfl
theorem tw10870729064695037652:0=0:=rfl
theorem tw7529994185133683508:0=0:=rfl
theorem tw8537307803431997268:0=0:=rfl
theorem tw5115197416609534836:0=0:=rfl
theorem tw17369082267768479604:0=0:=rfl
theorem tw7564034212913960852:0=0:=rfl
theorem tw13857073875209665460:0=0:=rfl
theorem tw12467417239389755348:0=0:=rfl
theorem tw7301919778868795413:0=0:=rfl
theorem tw2907231379153016853:0=0:=rfl
theorem tw2498927345084275829:0=0:=rfl
theorem tw10851990180126078101:0=0:=rfl
theorem tw14049174764667171989:0=0:=rfl
theorem tw14374495225936839861:0=0:=rfl
theorem tw5342067021083122869:0=0:=rfl
theorem tw11398788795434718421:0=0:=rfl
theorem tw6863699254230692117:0=0:=rfl
theorem tw5054953670784205077:0=0:=rfl
theorem tw4523920257142037813:0=0:=rfl
theorem tw11070068882542437685:0=0:=rfl
theorem tw9463235757626000725:0=0:=rfl
theorem tw6794509272269270453:0=0:=rfl
theorem tw15380814049534523829:0=0:=rfl
theorem tw4534033254857973301:0=0:=rfl
theorem tw15189894384822738581:0=0:=rfl
theorem tw942998010710318805:0=0:=rfl
theorem tw14949704967840255765:0=0:=rfl
theorem tw10787028474954794805:0=0:=rfl
theorem tw8513959953692076949:0=0:=rfl
theorem tw18136406909344936853:0=0:=rfl
theorem tw2465449683051060181:0=0:=rfl
theorem tw15137637953622325205:0=0:=rfl
theorem tw17538749185223893014:0=0:=rfl
theorem tw12530791436825757750:0=0:=rfl
theorem tw834102990669830230:0=0:=rfl
theorem tw4693475036299080822:0=0:=rfl
theorem tw1819396857697459318:0=0:=rfl
theorem tw1985587019146485878:0=0:=rfl
theorem tw1844251753786245302:0=0:=rfl
theorem tw9042800191604644022:0=0:=rfl
theorem tw7006976657419167926:0=0:=rfl
theorem tw6897609426163732758:0=0:=rfl
theorem tw16125280455544289590:0=0:=rfl
theorem tw3643793821318610230:0=0:=rfl
theorem tw5597161372027912662:0=0:=rfl
theorem tw12078144914154787318:0=0:=rfl
theorem tw10826216942968341014:0=0:=rfl
theorem tw17240666879479576086:0=0:=rfl
theorem tw12946715060304050710:0=0:=rfl
theorem tw16812976630103014934:0=0:=rfl
theorem tw6638152686469980726:0=0:=rfl
theorem tw17141848825368589910:0=0:=rfl
theorem tw16470826892621123222:0=0:=rfl
theorem tw18416513315466213014:0=0:=rfl
theorem tw5045259887386611414:0=0:=rfl
theorem tw15633013684477270774:0=0:=rfl
theorem tw17802746096669693718:0=0:=rfl
theorem tw13069189750643239702:0=0:=rfl
theorem tw13903327957213598518:0=0:=rfl
theorem tw10955796391148566358:0=0:=rfl
theorem tw10879960760634437462:0=0:=rfl
theorem tw5147673488869515222:0=0:=rfl
theorem tw4105728340319136791:0=0:=rfl
theorem tw2080999361786818647:0=0:=rfl
theorem tw15147240983710225687:0=0:=rfl
theorem tw5872866914516626743:0=0:=rfl
theorem tw17333723866886956439:0=0:=rfl
theorem tw12143709612133813815:0=0:=rfl
theorem tw12738626744651472503:0=0:=rfl
theorem tw15037316038979065495:0=0:=rfl
theorem tw11711483194933961367:0=0:=rfl
theorem tw4139019512815478455:0=0:=rfl
theorem tw109961642859888343:0=0:=rfl
theorem tw11762462427040061175:0=0:=rfl
theorem tw13715551983363800855:0=0:=rfl
theorem tw11878779745366433591:0=0:=rfl
theorem tw4934225498639106903:0=0:=rfl
theorem tw10647513713510850423:0=0:=rfl
theorem tw9307026433794134935:0=0:=rfl
theorem tw9790618078824116151:0=0:=rfl
theorem tw4230055998326955959:0=0:=rfl
theorem tw4510983854639283224:0=0:=rfl
theorem tw2781513475935076408:0=0:=rfl
theorem tw15472437216343077944:0=0:=rfl
theorem tw118619898915788952:0=0:=rfl
theorem tw12307462301189777688:0=0:=rfl
theorem tw2850734854647346456:0=0:=rfl
theorem tw1049879052908757304:0=0:=rfl
theorem tw4060227421306161464:0=0:=rfl
theorem tw91339260034595192:0=0:=rfl
theorem tw13819367214932013464:0=0:=rfl
theorem tw10791756100797310424:0=0:=rfl
theorem tw2645288691430755832:0=0:=rfl
theorem tw15076011477578553944:0=0:=rfl
theorem tw8080763413209619032:0=0:=rfl
theorem tw12316856649501373048:0=0:=rfl
theorem tw13268600271385460376:0=0:=rfl
theorem tw17605032185625122488:0=0:=rfl
theorem tw17835054722699709176:0=0:=rfl
theorem tw9689695945262372632:0=0:=rfl
theorem tw2417508509081650968:0=0:=rfl
theorem tw5434942579738728216:0=0:=rfl
theorem tw8842942632797073304:0=0:=rfl
theorem tw16441388015585661944:0=0:=rfl
theorem tw6633124989789671449:0=0:=rfl
theorem tw8705616662153420889:0=0:=rfl
theorem tw3587017626877129817:0=0:=rfl
theorem tw16294507301055119545:0=0:=rfl
theorem tw9875584872526731481:0=0:=rfl
theorem tw13489482268968961273:0=0:=rfl
theorem tw12907765701802396985:0=0:=rfl
theorem tw7209269127314227545:0=0:=rfl
theorem tw11411111438839453049:0=0:=rfl
theorem tw13988092648341911929:0=0:=rfl
theorem tw7271994773213998457:0=0:=rfl
theorem tw11045075290609101209:0=0:=rfl
theorem tw11056268767844261273:0=0:=rfl
theorem tw13136628441539656121:0=0:=rfl
theorem tw4013974695513175513:0=0:=rfl
theorem tw13541073911948560921:0=0:=rfl
theorem tw2429806382428031545:0=0:=rfl
theorem tw1758472993776571097:0=0:=rfl
theorem tw7699122707739842265:0=0:=rfl
theorem tw11588324448902813401:0=0:=rfl
theorem tw14588366300391794393:0=0:=rfl
theorem tw8586188830084534073:0=0:=rfl
theorem tw3424185362889314201:0=0:=rfl
theorem tw9407011807028855737:0=0:=rfl
theorem tw2107535644352735193:0=0:=rfl
theorem tw6159206893399133242:0=0:=rfl
theorem tw3803600889503682682:0=0:=rfl
theorem tw11295911201743311994:0=0:=rfl
theorem tw10678215277947074714:0=0:=rfl
theorem tw13000244173556203674:0=0:=rfl
theorem tw10391664191828522138:0=0:=rfl
theorem tw10468243159010824378:0=0:=rfl
theorem tw9549868521331524858:0=0:=rfl
theorem tw8007774326518170874:0=0:=rfl
theorem tw11907023754217091322:0=0:=rfl
theorem tw2428330095227174138:0=0:=rfl
theorem tw3454835796436691290:0=0:=rfl
theorem tw2426196080221063546:0=0:=rfl
theorem tw12291036864944522618:0=0:=rfl
theorem tw83338379459045882:0=0:=rfl
theorem tw11636486643395760698:0=0:=rfl
theorem tw5959820071837808186:0=0:=rfl
theorem tw14339725189411182170:0=0:=rfl
theorem tw5475200418253309562:0=0:=rfl
theorem tw8463024047973813914:0=0:=rfl
theorem tw5287711858302150298:0=0:=rfl
theorem tw8011773036511517402:0=0:=rfl
theorem tw11198418606843847386:0=0:=rfl
theorem tw10959405108727475930:0=0:=rfl
theorem tw1923110773564363610:0=0:=rfl
theorem tw11857748819862712186:0=0:=rfl
theorem tw9632902732779946906:0=0:=rfl
theorem tw4066837601737803867:0=0:=rfl
theorem tw9923008901307249787:0=0:=rfl
theorem tw8944617823189014907:0=0:=rfl
theorem tw11536953716409390491:0=0:=rfl
theorem tw13673284047130030555:0=0:=rfl
theorem tw17753787522269337083:0=0:=rfl
theorem tw9112307590173404731:0=0:=rfl
theorem tw7456646599641754171:0=0:=rfl
theorem tw17878191569347989211:0=0:=rfl
theorem tw178173895743260411:0=0:=rfl
theorem tw14292565588042750811:0=0:=rfl
theorem tw10080236080843706299:0=0:=rfl
theorem tw17573229847394735035:0=0:=rfl
theorem tw14889818538580236219:0=0:=rfl
theorem tw5916434483369337851:0=0:=rfl
theorem tw15721566609788069948:0=0:=rfl
theorem tw8499912144496349276:0=0:=rfl
theorem tw9811346233507045532:0=0:=rfl
theorem tw14710445069851562204:0=0:=rfl
theorem tw821136994637359324:0=0:=rfl
theorem tw8776989959542771964:0=0:=rfl
theorem tw17214187304141985052:0=0:=rfl
theorem tw1445243634549323036:0=0:=rfl
theorem tw14623711602980280668:0=0:=rfl
theorem tw12459714679996750204:0=0:=rfl
theorem tw400233458713981340:0=0:=rfl
theorem tw9949465299435912604:0=0:=rfl
theorem tw8838215502066406876:0=0:=rfl
theorem tw17143794478795839964:0=0:=rfl
theorem tw7055080050205279740:0=0:=rfl
theorem tw12306522004668568156:0=0:=rfl
theorem tw13886553678426912508:0=0:=rfl
theorem tw2161434165311426332:0=0:=rfl
theorem tw12896700780648499036:0=0:=rfl
theorem tw17825364605068259164:0=0:=rfl
theorem tw7982574780816279484:0=0:=rfl
theorem tw304615032519614396:0=0:=rfl
theorem tw13419307123771205564:0=0:=rfl
theorem tw11248677406049435580:0=0:=rfl
theorem tw17702640899898041373:0=0:=rfl
theorem tw13593213491284329565:0=0:=rfl
theorem tw5500073666535862525:0=0:=rfl
theorem tw14678213530085941725:0=0:=rfl
theorem tw15538587925858813:0=0:=rfl
theorem tw8160588365922802205:0=0:=rfl
theorem tw14936162118632229405:0=0:=rfl
theorem tw1051928343478432285:0=0:=rfl
theorem tw15017472279412202077:0=0:=rfl
theorem tw14807329703113983613:0=0:=rfl
theorem tw11641143726605212381:0=0:=rfl
theorem tw17657509885182311325:0=0:=rfl
theorem tw5753045846194538429:0=0:=rfl
theorem tw3729884676367975421:0=0:=rfl
theorem tw10129757581416012830:0=0:=rfl
theorem tw12618106306803991646:0=0:=rfl
theorem tw2711409171209783390:0=0:=rfl
theorem tw3423426814247570526:0=0:=rfl
theorem tw16958890301136020606:0=0:=rfl
theorem tw16429918210374568254:0=0:=rfl
theorem tw8775131734014472606:0=0:=rfl
theorem tw2462770788296164862:0=0:=rfl
theorem tw5948242185319067262:0=0:=rfl
theorem tw3978335917191134846:0=0:=rfl
theorem tw2819383217068021406:0=0:=rfl
theorem tw3853387975845166750:0=0:=rfl
theorem tw6465962570890769054:0=0:=rfl
theorem tw11564518417909122750:0=0:=rfl
theorem tw3603257728480478974:0=0:=rfl
theorem tw9905622165110280990:0=0:=rfl
theorem tw11785365732521604894:0=0:=rfl
theorem tw16764676578936504126:0=0:=rfl
theorem tw14922699467684571038:0=0:=rfl
theorem tw11043708391563059166:0=0:=rfl
theorem tw17922868282883073022:0=0:=rfl
theorem tw1506734836334191711:0=0:=rfl
theorem tw4199682357941633183:0=0:=rfl
theorem tw3178867972563559583:0=0:=rfl
theorem tw13838770243911058623:0=0:=rfl
theorem tw13724591377731411295:0=0:=rfl
theorem tw5990291684784927167:0=0:=rfl
theorem tw304794172386328031:0=0:=rfl
theorem tw8656986917725871615:0=0:=rfl
theorem tw3093838725518370303:0=0:=rfl
theorem tw14023144194086715903:0=0:=rfl
theorem tw3813350270769288703:0=0:=rfl
theorem tw573775105611466335:0=0:=rfl
theorem tw2110067442093989535:0=0:=rfl
theorem tw1914946681667638015:0=0:=rfl
theorem tw9115007498932003615:0=0:=rfl
theorem tw18115859930770759487:0=0:=rfl
theorem tw18055871705163897695:0=0:=rfl
theorem tw7369265196700421983:0=0:=rfl
theorem tw5103751358438549407:0=0:=rfl
theorem tw10716402591704762335:0=0:=rfl
theorem tw5360750496231481229:0=0:=rfl
end PySem.Challenge.cw_bitbus_k10_wire_holds
open PySem PySem.W PyProof.Rows
set_option maxRecDepth 100000 in
set_option maxHeartbeats 0 in
theorem PySem.Challenge.cw_bitbus_k10_wire_holds : PySem.Challenge.rw_bitbus_k10_wire.Holds := by
 w_on;o_law;k_head;(case hw=>w_witness2)
 k_fill
 refine BB.walk (l:=PySem.Challenge.rw_bitbus_k10_wire) rfl rfl (fun w h Y=>PySem.W.kIn_of Y) ?F
 case F=>
  intro w mg fa h KX G hmg
  refine BB.law_fn hmg ?_
  refine' BB.txt_mk KX G ?_ ?_ ?_ ?_ ?_ ?_ ?_ ?_ ?_ ?_ ?_ ?_ ?_ ?_ ?_ ?_ ?_ ?_ ?_ ?_ ?_ ?_ ?_ ?_ ?_ ?_ ?_ ?_ ?_ ?_ ?_ ?_ ?_ ?_ ?_ ?_ ?_ ?_ ?_ ?_ ?_ ?_ ?_ ?_ ?_ ?_ ?_ ?_ ?_ ?_ ?_ ?_ ?_ ?_ ?_ ?_ ?_ ?_ ?_ ?_ ?_ ?_ ?_ ?_ ?_ ?_ ?_ ?_ ?_ ?_ ?_ ?_ ?_ ?_ ?_ ?_ ?_ ?_ ?_ ?_ ?_ ?_ ?_ ?_ ?_ ?_ ?_ ?_ ?_ ?_ ?_ ?_ ?_ ?_ ?_ ?_ ?_ ?_ ?_ ?_ ?_ ?_ ?_ ?_ ?_ ?_ ?_ ?_ ?_ ?_ ?_ ?_ ?_ ?_ ?_ ?_ ?_ ?_ ?_ ?_ ?_ ?_ ?_ ?_ ?_ ?_ ?_ ?_ ?_ ?_ ?_ ?_ ?_ ?_ ?_ ?_ ?_ ?_ ?_ ?_ ?_ ?_ ?_ ?_ ?_ ?_ ?_ ?_ ?_ ?_ ?_ ?_ ?_ ?_ ?_ ?_ ?_ ?_ ?_ ?_ ?_ ?_ ?_ ?_ ?_ ?_ ?_ ?_ ?_ ?_ ?_ ?_ ?_ ?_ ?_ ?_ ?_ ?_ ?_ ?_ ?_ ?_ ?_ ?_ ?_ ?_ ?_ ?_ ?_ ?_ ?_ ?_ ?_ ?_ ?_ ?_ ?_ ?_ ?_ ?_ ?_ ?_ ?_ ?_ ?_ ?_ ?_ ?_ ?_ ?_ ?_ ?_ ?_ ?_ ?_ ?_ ?_ ?_ ?_ ?_ ?_ ?_ ?_ ?_ ?_ ?_ ?_ ?_ ?_ ?_ ?_ ?_ ?_ ?_ ?_ ?_ ?_ ?_ ?_ ?_ ?_ ?_ ?_ ?_ ?_ ?_ ?_ ?y130 ?x131 ?_ ?_ ?_ ?_ ?_ ?_ ?_ ?_ ?x134 ?_ ?_ ?_ ?_ ?_ ?_ ?_ ?_ ?y137 ?y138 ?y139 ?y140 ?y141 ?y142 ?y143 ?y144 ?y145 ?_ ?_ ?_
  all_goals first | k_is | exact BB.fd_mk (by k_is) (by k_is) (by k_is) | skip
  (case y130=>kit_is)
  (case x131=>k_exc)
  (case x134=>k_exc)
  (case y137=>kit_is)
  (case y138=>kit_is)
  (case y139=>kit_is)
  (case y140=>kit_is)
  (case y141=>kit_is)
  (case y142=>kit_is)
  (case y143=>kit_is)
  (case y144=>kit_is)
  (case y145=>kit_is)
#print axioms PySem.Challenge.cw_bitbus_k10_wire_holds
