import PyProof.Rows.All
import Wide.All
import OpenK.AllK
import Wide.FinOn
import Lean
import PyProof.EqAt
import PyProof.EqKinds
import PyProof.TupleCall
import PySem.Challenge.RW_bitbus_k20_whole_least_first
set_option Elab.async false
set_option linter.all false
set_option maxRecDepth 100000
namespace L2
open PySem PySem.Spec PyProof.Rows
abbrev Key:=Sum Int Str
def pF:Key→Value→Bool
 | .inl k,v=>Value.isInt k v
 | .inr x,v=>Value.isStrOf x v
def Cf (w:World):Key→Int
 | .inl k=>hashInt k
 | .inr x=>hashStr w x
theorem bn:∀ {k:Key} {v:Value},pF k v=true→(∃ i t,k=Sum.inl i∧v=Value.int i t)∨(∃ x t,k=Sum.inr x∧v=Value.str x t)
 | .inl i,v,h=>by
  obtain ⟨t,e⟩:=Value.isInt_shape (k:=i) (v:=v) h
  exact .inl ⟨i,t,rfl,e⟩
 | .inr x,v,h=>by
  obtain ⟨t,e⟩:=Value.isStrOf_shape (x:=x) (v:=v) h
  exact .inr ⟨x,t,rfl,e⟩
theorem qH (i:Int) (t:Tok):pF (.inl i) (.int i t)=true:=by simp [pF,Value.isInt]
theorem qI (x:Str) (t:Tok):pF (.inr x) (.str x t)=true:=by simp [pF,Value.isStrOf]
theorem xQ (a b:Int):decide ((Sum.inl a:Key)=Sum.inl b)=(a == b):=by
 by_cases e:a=b
 ·subst e;simp
 ·have h:¬ (Sum.inl a:Key)=Sum.inl b:=fun q=>e (Sum.inl.inj q)
  rw [decide_eq_false h]
  exact (beq_eq_false_iff_ne.mpr e).symm
theorem xR (a b:Str):decide ((Sum.inr a:Key)=Sum.inr b)=decide (a=b):=by
 by_cases e:a=b
 ·subst e;simp
 ·have h:¬ (Sum.inr a:Key)=Sum.inr b:=fun q=>e (Sum.inr.inj q)
  rw [decide_eq_false h,decide_eq_false e]
theorem xS (a:Int) (b:Str):decide ((Sum.inl a:Key)=Sum.inr b)=false:=decide_eq_false (fun q=>nomatch q)
theorem xT (a:Str) (b:Int):decide ((Sum.inr a:Key)=Sum.inl b)=false:=decide_eq_false (fun q=>nomatch q)
def cV (prog:Program) (w:World):PySem.KeyKind prog w Key where
 is:=pF
 hash:=Cf w
 inj:=fun v a b ha hb=>by
  rcases bn ha with ⟨i,t,rfl,rfl⟩ | ⟨x,t,rfl,rfl⟩
  ·rcases bn hb with ⟨j,u,rfl,e⟩ | ⟨y,u,rfl,e⟩
   ·injection e with e1 _;rw [e1]
   ·exact nomatch e
  ·rcases bn hb with ⟨j,u,rfl,e⟩ | ⟨y,u,rfl,e⟩
   ·exact nomatch e
   ·injection e with e1 _;rw [e1]
 byValue:=fun k v h=>by
  rcases bn h with ⟨i,t,rfl,rfl⟩ | ⟨x,t,rfl,rfl⟩ <;> rfl
 pyHash:=fun hv h=>by
  rcases bn hv with ⟨i,t,rfl,rfl⟩ | ⟨x,t,rfl,rfl⟩
  ·exact wpAny_pyHash_int h
  ·exact wpAny_pyHash_str h
 eqBool:=fun hu hv h=>by
  rcases bn hu with ⟨i,t,rfl,rfl⟩ | ⟨x,t,rfl,rfl⟩
  ·rcases bn hv with ⟨j,u,rfl,rfl⟩ | ⟨y,u,rfl,rfl⟩
   ·rw [xQ] at h;exact wpAny_eqBool_int h
   ·rw [xS] at h;exact SeqAt.EqAt.int_str i t y u _ _ _ _ h
  ·rcases bn hv with ⟨j,u,rfl,rfl⟩ | ⟨y,u,rfl,rfl⟩
   ·rw [xT] at h;exact SeqAt.EqAt.str_int x t j u _ _ _ _ h
   ·rw [xR] at h;exact wpAny_eqBool_str h
 «strs»:=fun k x t v h=>by
  rcases bn h with ⟨i,u,rfl,e⟩ | ⟨y,u,rfl,e⟩
  ·exact nomatch e
  ·injection e with e1 _
   subst e1
   cases v <;> rfl
theorem mU (prog:Program) (w:World) (i:Int) (t:Tok):(cV prog w).is (.inl i) (.int i t)=true:=qH i t
theorem mV (prog:Program) (w:World) (x:Str) (t:Tok):(cV prog w).is (.inr x) (.str x t)=true:=qI x t
end L2
namespace L2
open PySem PySem.Spec PyProof.Rows
inductive V where
 | non | bl (b:Bool) | int (i:Int) | str (x:Str) | byt (b:Array UInt8) | flt (b:UInt64) | ref (a:Addr) | ty (n:String)
 deriving DecidableEq
def RelV:V→Value→Prop
 | .non,u=>u=Value.none
 | .bl b,u=>u=Value.bool b
 | .int i,u=>∃ t,u=Value.int i t
 | .str x,u=>∃ t,u=Value.str x t
 | .byt b,u=>∃ t,u=Value.bytes b t
 | .flt b,u=>∃ t,u=Value.float b t
 | .ref a,u=>u=Value.ref a
 | .ty n,u=>u=Value.type n
abbrev Vals:List V→List Value→Prop:=Paired RelV
theorem Vals.length {xs:List V} {us:List Value} (r:Vals xs us):xs.length=us.length:=Paired.length r
theorem Vals.get:∀ {xs:List V} {us:List Value} {i:Nat} {x:V},Vals xs us→xs[i]? = some x→∃ u,us[i]? = some u∧RelV x u
 | _,_,_,_,.nil,e=>by simp at e
 | _,_,0,_,.cons r _,e=>by simp at e;subst e;exact ⟨_,rfl,r⟩
 | _,_,i+1,x,.cons _ t,e=>by
  obtain ⟨u,h1,h2⟩:=Vals.get (i:=i) (x:=x) t (by simpa using e)
  exact ⟨u,by simpa using h1,h2⟩
theorem Vals.set {x:V} {u:Value} (r:RelV x u):∀ {xs:List V} {us:List Value} (i:Nat),Vals xs us→Vals (xs.set i x) (us.set i u)
 | _,_,_,.nil => .nil
 | _,_,0,.cons _ t => .cons r t
 | _,_,i+1,.cons q t => .cons q (Vals.set r i t)
theorem Vals.append:∀ {xs ys:List V} {us ws:List Value},Vals xs us→Vals ys ws→Vals (xs++ys) (us++ws)
 | _,_,_,_,.nil,s=>s
 | _,_,_,_,.cons r t,s => .cons r (Vals.append t s)
theorem Vals.take:∀ {xs:List V} {us:List Value} (n:Nat),Vals xs us→Vals (xs.take n) (us.take n)
 | _,_,0,_ => .nil
 | _,_,_+1,.nil => .nil
 | _,_,n+1,.cons r t => .cons r (Vals.take n t)
theorem Vals.drop:∀ {xs:List V} {us:List Value} (n:Nat),Vals xs us→Vals (xs.drop n) (us.drop n)
 | _,_,0,r=>r
 | _,_,_+1,.nil => .nil
 | _,_,n+1,.cons _ t=>Vals.drop n t
def RelO:Option V→Option Value→Prop
 | some v,some u=>RelV v u
 | none,none=>True
 | _,_=>False
def KV {κ:Type}:List (κ×V)→List (κ×Value)→Prop:=Paired fun (p:κ×V) (q:κ×Value)=>p.1=q.1∧RelV p.2 q.2
def kV:Key→V
 | .inl i => .int i
 | .inr x => .str x
inductive HO where
 | lst (xs:List V)
 | tup (xs:List V)
 | dK (kvs:List (Key×V)) | dT (kvs:List (List Key×V))
 | set (S:Int→Bool) (n:Nat)
 | ins (C dx:Addr) (fs:List (Str×V))
 | own (x:Addr)
 | xd (fs:List (Str×V))
 | met (f x:Addr)
 | rng (lo hi:Int)
 | frz (o:Obj) (u:HO)
 | tbl (ps:Array Value)
 | ext (φ:Heap→Prop)
abbrev Hp:=Addr→Option HO
def upd (H:Hp) (a:Addr) (o:HO):Hp:=fun b=>if b=a then some o else H b
theorem bz {H:Hp} {a:Addr} {o:HO}:upd H a o a=some o:=by unfold upd;rw [if_pos rfl]
theorem aU {H:Hp} {a b:Addr} {o:HO} (h:b≠a):upd H a o b=H b:=by unfold upd;rw [if_neg h]
theorem Ad {H:Hp} {a b:Addr} {o u:HO} (h:H a=some o) (h':H b=some u) (d:o≠u):a≠b:=by
 intro e;subst e;rw [h] at h';exact d (Option.some.inj h')
theorem aH {H:Hp} {a b:Addr} {o:HO} (h:H a=some o) (h':H b=none):a≠b:=by
 intro e;subst e;rw [h] at h';cases h'
section
variable (P:Program) (w:World)
def ObjOk (H:Hp) (h:Heap) (a:Addr):HO→Prop
 | .lst xs=>xs.length≤sizeLine∧∃ (its:List Value) (n:Nat),Vals xs its∧h.get? a=some {cls := .type "list",data := .seq its.toArray n}
 | .tup xs=>xs.length≤sizeLine∧∃ its:List Value,Vals xs its∧IsTup h a its.toArray
 | .dK kvs=>kvs.length≤sizeLine∧(a == sysModules)=false∧∃ vs,KV kvs vs∧h.DictOf (cV P w) a vs
 | .dT kvs=>kvs.length≤sizeLine∧(a == sysModules)=false∧∃ xs:List (List Key×Addr×Value),
   Paired (fun (p:List Key×V) (q:List Key×Addr×Value)=>p.1=q.1∧H q.2.1=some (.tup (p.1.map kV))∧RelV p.2 q.2.2) kvs xs ∧
   ∃ o es ep,h.get? a=some o∧o.ExactDict∧o.data = .dict es ep∧es.toList=xs.map (entryOfKey (tupleKind (cV P w)))∧(xs.map (·.1)).Nodup
 | .set S n=>h.SetOf (intKind P w) a S n
 | .ins C dx fs=>H dx=some (.own a)∧fs.length≤1000∧dx≠a∧h.get? a=some (PySem.W.instObj C dx) ∧
   ∃ mA,h.Ns1 dx mA∧(∀ f,RelO (fs.lookup f) (mA f))∧PySem.Within mA (fs.map (·.1))
 | .own _=>∃ o,h.get? a=some o
 | .xd fs=>∃ mA,h.Ns1 a mA∧∀ f,RelO (fs.lookup f) (mA f)
 | .rng lo hi=>∃ t u v,h.get? a=some {cls := .type "range",data := .fields #[.int lo t,.int hi u,.int 1 v]}
 | .frz o u=>h.get? a=some o∧ObjOk H h a u
 | .tbl ps=>h.get? a=some {cls := .none,data := .fields ps}
 | .met f x=>h.get? a=some (PySem.W.methodObj (.ref f) (.ref x))
 | .ext φ=>φ h∧(∃ o,h.get? a=some o)∧∀ h1 h2:Heap,φ h1→(∀ o,h1.get? a=some o→h2.get? a=some o)→φ h2
def HOk (H:Hp) (h:Heap):Prop:=∀ a o,H a=some o→ObjOk P w H h a o
end
section
variable {P:Program} {w:World} {H H':Hp} {h h':Heap} {a:Addr} {o:HO}
theorem ObjOk.lt (x:ObjOk P w H h a o):a < h.objs.size:=by
 cases o with
 | lst xs=>obtain ⟨_,_,_,_,e⟩:=x;exact Heap.lt_size e
 | tup xs=>obtain ⟨_,_,_,p⟩:=x;exact p.lt
 | dK kvs=>obtain ⟨_,_,_,_,o,_,_,e,_⟩:=x;exact Heap.lt_size e
 | dT kvs=>obtain ⟨_,_,_,_,o,_,_,e,_⟩:=x;exact Heap.lt_size e
 | set S n=>obtain ⟨o,_,_,_,e,_⟩:=x;exact Heap.lt_size e
 | ins C dx fs=>obtain ⟨_,_,_,e,_⟩:=x;exact Heap.lt_size e
 | own y=>obtain ⟨_,e⟩:=x;exact Heap.lt_size e
 | xd fs=>obtain ⟨_,⟨_,_,_,e,_⟩,_⟩:=x;exact Heap.lt_size e
 | rng lo hi=>obtain ⟨_,_,_,e⟩:=x;exact Heap.lt_size e
 | frz ob u=>obtain ⟨e,_⟩:=x;exact Heap.lt_size e
 | tbl ps=>exact Heap.lt_size (show h.get? a=some _ from x)
 | met f y=>exact Heap.lt_size (show h.get? a=some _ from x)
 | ext φ=>obtain ⟨_,⟨_,e⟩,_⟩:=x;exact Heap.lt_size e
theorem Paired.mapP {α β:Type} {F G:α→β→Prop}:∀ {l₁:List α} {l₂:List β},Paired F l₁ l₂→(∀ a b,F a b→G a b)→Paired G l₁ l₂
 | _,_,.nil,_ => .nil
 | _,_,.cons r t,f => .cons (f _ _ r) (Paired.mapP t f)
theorem ObjOk.stay (x:ObjOk P w H h a o) (k:∀ b u,(b=a∨H b=some (.own a))→h.get? b=some u→h'.get? b=some u)
  (ho:∀ b,H b=some (.own a)→H' b=some (.own a)) (ht:∀ b xs,H b=some (.tup xs)→H' b=some (.tup xs)):ObjOk P w H' h' a o:=by
 induction o with
 | lst xs=>obtain ⟨z,its,n,r,e⟩:=x;exact ⟨z,its,n,r,k _ _ (.inl rfl) e⟩
 | tup xs=>obtain ⟨z,its,r,ob,e,c⟩:=x;exact ⟨z,its,r,ob,k _ _ (.inl rfl) e,c⟩
 | dK kvs=>obtain ⟨z,y,vs,r,ob,es,ep,e,c⟩:=x;exact ⟨z,y,vs,r,ob,es,ep,k _ _ (.inl rfl) e,c⟩
 | dT kvs=>
  obtain ⟨z,y,xs,r,ob,es,ep,e,c⟩:=x
  exact ⟨z,y,xs,Paired.mapP r fun p q z=>⟨z.1,ht _ _ z.2.1,z.2.2⟩,ob,es,ep,k _ _ (.inl rfl) e,c⟩
 | set S n=>obtain ⟨ob,es,ep,t,e,c⟩:=x;exact ⟨ob,es,ep,t,k _ _ (.inl rfl) e,c⟩
 | ins C dx fs=>
  obtain ⟨d,z,ne,e,mA,⟨od,es,ep,e2,c⟩,r⟩:=x
  exact ⟨ho _ d,z,ne,k _ _ (.inl rfl) e,mA,⟨od,es,ep,k _ _ (.inr d) e2,c⟩,r⟩
 | own y=>obtain ⟨ob,e⟩:=x;exact ⟨ob,k _ _ (.inl rfl) e⟩
 | xd fs=>obtain ⟨mA,⟨od,es,ep,e,c⟩,r⟩:=x;exact ⟨mA,⟨od,es,ep,k _ _ (.inl rfl) e,c⟩,r⟩
 | rng lo hi=>obtain ⟨t,u,v,e⟩:=x;exact ⟨t,u,v,k _ _ (.inl rfl) e⟩
 | frz ob u ih=>obtain ⟨e,q⟩:=x;exact ⟨k _ _ (.inl rfl) e,ih q⟩
 | tbl ps=>
  have e:h.get? a=some {cls := .none,data := .fields ps}:=x
  show h'.get? a=some {cls := .none,data := .fields ps}
  exact k a _ (.inl rfl) e
 | met f y=>
  have e:h.get? a=some (PySem.W.methodObj (.ref f) (.ref y)):=x
  show h'.get? a=some (PySem.W.methodObj (.ref f) (.ref y))
  exact k a _ (.inl rfl) e
 | ext φ=>obtain ⟨p,⟨o,e⟩,st⟩:=x;exact ⟨st _ _ p fun o q=>k _ _ (.inl rfl) q,⟨o,k _ _ (.inl rfl) e⟩,st⟩
theorem HOk.lt (x:HOk P w H h) (e:H a=some o):a < h.objs.size:=(x a o e).lt
theorem HOk.fresh (x:HOk P w H h) (e:h.objs.size≤a):H a=none:=by
 cases q:H a with
 | none=>rfl
 | some u=>exact absurd (Nat.lt_of_lt_of_le (x.lt q) e) (Nat.lt_irrefl _)
theorem HOk.kept (x:HOk P w H h) (k:∀ b u,h.get? b=some u→h'.get? b=some u):HOk P w H h':=fun a o e=>
 (x a o e).stay (fun b u _ q=>k b u q) (fun _ q=>q) fun _ _ q=>q
theorem HOk.laid (x:HOk P w H h) (k:∀ b u,h.get? b=some u→h'.get? b=some u) (hp:h.objs.size≤a) (new:ObjOk P w (upd H a o) h' a o):HOk P w (upd H a o) h':=fun b u e=>by
 have hn:=x.fresh hp
 by_cases hb:b=a
 ·subst hb;rw [bz] at e;cases e;exact new
 ·rw [aU hb] at e
  exact (x b u e).stay (fun c v _ q=>k c v q) (fun c q=>by rw [aU (aH q hn)];exact q) fun c xs q=>by rw [aU (aH q hn)];exact q
end
def Rd (H:Hp) (a:Addr) (u:HO):Prop:=H a=some u∨∃ o,H a=some (.frz o u)
theorem Rd.ok {P:Program} {w:World} {H:Hp} {h:Heap} {a:Addr} {u:HO} (r:Rd H a u) (x:HOk P w H h):ObjOk P w H h a u:=by
 rcases r with r | ⟨o,r⟩
 ·exact x a u r
 ·obtain ⟨_,q⟩:=x a _ r
  exact q
def Mut:Option HO→Prop
 | some (.lst _)=>True
 | some (.dK _)=>True
 | some (.dT _)=>True
 | some (.set _ _)=>True
 | some (.ins _ _ _)=>True
 | some (.ext _)=>True
 | _=>False
section
variable {P:Program} {w:World} {H:Hp} {h h':Heap} {x e:Addr} {o':HO}
theorem HOk.write (ok:HOk P w H h) (mu:Mut (H x)) (he:e=x∨H e=some (.own x)) (k:∀ b u,b≠e→h.get? b=some u→h'.get? b=some u) (heo:∃ u,h'.get? e=some u)
  (new:ObjOk P w (upd H x o') h' x o'):HOk P w (upd H x o') h':=fun b u q=>by
 have nown:∀ c y,H c=some (.own y)→c≠x:=fun c y r z=>by subst z;rw [r] at mu;exact mu
 have ntup:∀ c xs,H c=some (.tup xs)→c≠x:=fun c xs r z=>by subst z;rw [r] at mu;exact mu
 by_cases hb:b=x
 ·subst hb;rw [bz] at q;cases q;exact new
 ·rw [aU hb] at q
  by_cases hbe:b=e
  ·have q':H b=some (.own x):=by
    rcases he with z | z
    ·exact absurd (hbe.trans z) hb
    ·rw [hbe];exact z
   rw [q] at q';cases q'
   obtain ⟨v,hv⟩:=heo
   exact ⟨v,by rw [hbe];exact hv⟩
  ·refine (ok b u q).stay (fun c v hc r=>k c v ?_ r) (fun c r=>by rw [aU (nown c b r)];exact r) fun c xs r=>by rw [aU (ntup c xs r)];exact r
   rcases hc with rfl | hc
   ·exact hbe
   ·rintro rfl
    rcases he with z | z
    ·exact nown c b hc z
    ·rw [hc] at z;cases z;exact hb rfl
end
structure Un (fs ex:List Addr) (H H':Hp) (h h':Heap):Prop where
 keep:∀ b o,h.get? b=some o→H b=none→b∉fs→b∉ex→h'.get? b=some o
 slot:∀ b o,h.get? b=some o→H b=none→b∈fs→b∉ex→∃ sl,h'.get? b=some {o with slots:=sl}
 free:∀ b o,h.get? b=some o→H b=none→b∉ex→H' b=none
 there:∀ b o,h.get? b=some o→b∉ex→∃ o',h'.get? b=some o'
 tups:∀ b xs,H b=some (.tup xs)→H' b=some (.tup xs)
 frzs:∀ b o u,H b=some (.frz o u)→H' b=some (.frz o u)
 tbls:∀ b ps,H b=some (.tbl ps)→∃ more,H' b=some (.tbl (ps++more))
section
variable {fs fs' ex ex':List Addr} {H H1 H2:Hp} {h h1 h2 h':Heap} {a x e:Addr} {o:HO}
theorem Un.any (u:Un fs ex H H1 h h1) {b:Addr} {ob:Obj} (q:h.get? b=some ob) (n:H b=none) (hx:b∉ex):∃ sl,h1.get? b=some {ob with slots:=sl}:=by
 by_cases hb:b∈fs
 ·exact u.slot b ob q n hb hx
 ·exact ⟨ob.slots,u.keep b ob q n hb hx⟩
theorem Un.kept (k:∀ b u,h.get? b=some u→h'.get? b=some u):Un fs ex H H h h':=
 ⟨fun b ob q _ _ _=>k b ob q,fun b ob q _ _ _=>⟨ob.slots,k b ob q⟩,fun _ _ _ n _=>n,fun b ob q _=>⟨ob,k b ob q⟩,fun _ _ q=>q,fun _ _ _ q=>q,fun _ ps q=>⟨#[],by rw [q];simp⟩⟩
theorem Un.refl:Un fs ex H H h h:=Un.kept fun _ _ q=>q
theorem Un.laid (k:∀ b u,h.get? b=some u→h'.get? b=some u) (hp:h.objs.size≤a) (hn:H a=none):Un fs ex H (upd H a o) h h' where
 keep:=fun b u q _ _ _=>k b u q
 slot:=fun b u q _ _ _=>⟨u.slots,k b u q⟩
 free:=fun b u q n _=>by rw [aU (Nat.ne_of_lt (Nat.lt_of_lt_of_le (Heap.lt_size q) hp))];exact n
 there:=fun b u q _=>⟨u,k b u q⟩
 tups:=fun b xs q=>by rw [aU (aH q hn)];exact q
 frzs:=fun b u xs q=>by rw [aU (aH q hn)];exact q
 tbls:=fun b ps q=>⟨#[],by rw [aU (aH q hn),q];simp⟩
theorem Un.write (mu:Mut (H x)) (he:e=x∨H e=some (.own x)) (k:∀ b u,b≠e→h.get? b=some u→h'.get? b=some u) (heo:∃ u,h'.get? e=some u):Un fs ex H (upd H x o) h h':=by
 have hx:∀ b,H b=none→b≠x:=fun b n z=>by subst z;rw [n] at mu;exact mu
 have hb:∀ b,H b=none→b≠e:=fun b n z=>by
  subst z
  rcases he with r | r
  ·exact hx b n r
  ·rw [n] at r;cases r
 have hm:∀ b u,H b=some u→¬ Mut (some u)→b≠x:=fun b u q nm z=>by subst z;rw [q] at mu;exact nm mu
 refine ⟨fun b u q n _ _=>k b u (hb b n) q,fun b u q n _ _=>⟨u.slots,k b u (hb b n) q⟩,fun b u q n _=>by rw [aU (hx b n)];exact n,fun b u q _ => ?_,
  fun b xs q=>by rw [aU (hm b _ q fun z=>z)];exact q,fun b u xs q=>by rw [aU (hm b _ q fun z=>z)];exact q,fun b ps q=>⟨#[],by rw [aU (hm b _ q fun z=>z),q];simp⟩⟩
 by_cases hbe:b=e
 ·subst hbe;exact heo
 ·exact ⟨u,k b u hbe q⟩
end
def trk (h:Heap) (H:Hp):List Addr:=(List.range h.objs.size).filter fun a=>(H a).isSome
def tX (h:Heap) (H:Hp):Heap:=PySem.W.hideAll h (trk h H)
theorem qJ (h:Heap) (H:Hp):(tX h H).objs.size=h.objs.size:=PySem.W.hideAll_size _ _
theorem tY {h:Heap} {H:Hp} {b:Addr} {o:Obj} (e:h.get? b=some o) (n:H b=none):(tX h H).get? b=some o:=
 PySem.W.hideAll_get _ e fun hm=>by
  have q:(H b).isSome=true:=(List.mem_filter.mp hm).2
  rw [n] at q;simp at q
theorem vP {h:Heap} {H:Hp} {b:Addr} {o:Obj} (e:(tX h H).get? b=some o):h.get? b=some o∧H b=none:=by
 have e':h.get? b=some o:=PySem.W.of_hideAll (trk h H) e
 refine ⟨e',?_⟩
 cases q:H b with
 | none=>rfl
 | some x=>
  have hm:b∈trk h H:=List.mem_filter.mpr ⟨List.mem_range.mpr (Heap.lt_size e'),by simp [q]⟩
  have z:(tX h H).get? b=none:=PySem.W.hideAll_none (trk h H) hm
  rw [z] at e;cases e
def vQ (g h:Heap) (L:Addr):List (Addr×Obj):=(List.range h.objs.size).filterMap fun a=>if a=L∨(g.get? a).isSome=true then none else (h.get? a).map fun o=>(a,o)
def rest (g h:Heap) (L d:Addr):List (Addr×Obj):=(vQ g h L).filter fun p=>decide (p.1≠d)
end L2
namespace L2
open PySem PySem.Spec PyProof.Rows
structure Mod (K:PySem.W.Frag) (mg:Str→Option Value) (base:Heap):Prop where
 kin:K.In base
 glob:base.Ns mainGlobals mg
 blt:∃ mb,base.Ns builtinsNs mb∧∀ x:Str,x ≠ "__name__" → mb x=bootBuiltins x
 nolimit:base.NoLimit
structure Cx where
 prog:Program
 w:World
 K:PySem.W.Frag
 mg:Str→Option Value
 base:Heap
 A:Around
 N:List Str
 s₀:Shared
 H₀:Hp
 env:Env
 outer:List Env
 stack:List Env
 ex:List Addr
 fn:Str→Bool
 calm:Bool
 pn:List (Addr×Obj)
 xe:Value→Shared→Prop
def frs (l:List Env):List Addr:=l.filterMap (·.frame)
abbrev Cx.fs (X:Cx):List Addr:=frs X.outer
def Vis (sc:Scope) (x:Str):Prop:=sc.names.lookup x=some .local∨sc.names.lookup x=some .cell∨sc.names.lookup x=some .free
def Loc (sc:Scope) (x:Str):Prop:=sc.names.lookup x=some .local∨sc.names.lookup x=some .cell
def Ae (env:Env) (h:Heap) (m:Str→Option Value) (x:Str) (u:Value):Prop:=
 (env.kindOf x=some .local∧m x=some u)∨((env.kindOf x=some .cell∨env.kindOf x=some .free)∧∃ c,env.cells.lookup x=some c∧h.IsCell c (some u))
structure Cx.Ok (X:Cx):Prop where
 mod:Mod X.K X.mg X.base
 kind:X.env.scope.kind = .function
 glob:X.env.globals=mainGlobals
 blt:X.env.builtins=builtinsNs
 above:X.s₀.heap.objs.size≤X.env.locals
 inj:∀ x y c,X.env.cells.lookup x=some c→X.env.cells.lookup y=some c→x=y
 has:∀ x,(X.env.kindOf x=some .cell∨X.env.kindOf x=some .free)→∃ c,X.env.cells.lookup x=some c
 cab:∀ x c,X.fn x=true→X.env.cells.lookup x=some c→X.s₀.heap.objs.size≤c
 hd:X.calm=true→X.A.handled=none
 frames:X.A.frames=some X.stack
 stk:X.stack=X.outer∨(X.stack=X.env :: X.outer∧X.env.frame=some X.env.locals)
 exf:∀ b∈X.ex,b≠X.env.locals∧∀ x c,X.env.cells.lookup x=some c→c≠b
 bs:∀ b o,X.base.get? b=some o→X.s₀.heap.get? b=some o∧X.H₀ b=none
 bsz:X.base.objs.size≤X.s₀.heap.objs.size
 noex:∀ b o,X.base.get? b=some o→b∉X.ex
 exfs:∀ b∈X.ex,b∉X.fs
 funs:X.s₀.heap.FunFrames X.base X.outer
 frf:∀ b∈X.fs,X.H₀ b=none
structure Inv (X:Cx) (pins:List (Addr×Obj)) (σ:List (Option V)) (H:Hp) (s:Shared):Prop where
 ok:X.Ok
 os:s.os=X.s₀.os
 bare:AllBare s.gens
 base:Un X.fs X.ex X.H₀ H X.s₀.heap s.heap
 loc:∃ m,s.heap.Ns X.env.locals m∧∀ (i:Nat) (x:Str) (v:V),X.N[i]? = some x→σ[i]? = some (some v)→Vis X.env.scope x→∃ u,RelV v u∧Ae X.env s.heap m x u
 cell:∀ x c,X.env.cells.lookup x=some c→∃ v,s.heap.IsCell c v
 free:H X.env.locals=none
 freeC:∀ x c,X.env.cells.lookup x=some c→H c=none
 pin:∀ p∈X.pn++pins,s.heap.get? p.1=some p.2∧H p.1=none∧p.1≠X.env.locals∧p.1∉X.fs∧∀ v,p.2.data ≠ .cell v
 hok:HOk X.prog X.w H s.heap
 len:σ.length=X.N.length
section
variable {X:Cx} {pins:List (Addr×Obj)} {σ:List (Option V)} {H H':Hp} {s:Shared} {h':Heap}
theorem Cx.Ok.nofr (ok:X.Ok) {b:Addr} {o:Obj} (e:X.base.get? b=some o):b∉X.fs:=fun hb=>by
 have:=(ok.funs.mem hb).1
 rw [e] at this;cases this
theorem Inv.bs (I:Inv X pins σ H s):∀ b o,X.base.get? b=some o→s.heap.get? b=some o∧H b=none:=fun b o e=>
 ⟨I.base.keep b o (I.ok.bs b o e).1 (I.ok.bs b o e).2 (I.ok.nofr e) (I.ok.noex b o e),I.base.free b o (I.ok.bs b o e).1 (I.ok.bs b o e).2 (I.ok.noex b o e)⟩
theorem Inv.bk (I:Inv X pins σ H s):∀ b o,X.base.get? b=some o→s.heap.get? b=some o:=fun b o e=>(I.bs b o e).1
theorem Inv.mod (I:Inv X pins σ H s):Mod X.K X.mg X.base:=I.ok.mod
theorem Inv.kIn (I:Inv X pins σ H s):X.K.In s.heap:=I.ok.mod.kin.keeps I.bk
theorem Inv.lt (I:Inv X pins σ H s):X.env.locals < s.heap.objs.size:=let ⟨_,hn,_⟩:=I.loc;hn.lt
theorem Inv.sz (I:Inv X pins σ H s):X.s₀.heap.objs.size≤s.heap.objs.size:=Nat.le_trans I.ok.above (Nat.le_of_lt I.lt)
theorem Inv.nofs (I:Inv X pins σ H s) {a:Addr} (h:s.heap.objs.size≤a):a∉X.fs:=fun hb=>by
 obtain ⟨_,o,ho,_⟩:=I.ok.funs.mem hb
 exact absurd (Nat.lt_of_lt_of_le (Heap.lt_size ho) (Nat.le_trans I.sz h)) (Nat.lt_irrefl _)
theorem Inv.cne (I:Inv X pins σ H s):∀ x c,X.env.cells.lookup x=some c→c≠X.env.locals:=fun x c e z=>by
 obtain ⟨v,o,ho,hd⟩:=I.cell x c e
 obtain ⟨m,⟨o',es,ep,ho',hd',_⟩,_⟩:=I.loc
 rw [z,ho'] at ho;cases ho;rw [hd'] at hd;cases hd
theorem Inv.funs (I:Inv X pins σ H s):s.heap.FunFrames X.base X.outer:=by
 have all:∀ (l:List Env),(∀ b∈frs l,b∈X.fs)→X.s₀.heap.FunFrames X.base l→s.heap.FunFrames X.base l:=by
  intro l
  induction l with
  | nil=>intro _ _;trivial
  | cons env r ih=>
   intro hs hl
   obtain ⟨hk,⟨L,o,hf,hn,ho,hd⟩,hr⟩:=hl
   have hL:L∈X.fs:=hs L (by unfold frs;rw [List.filterMap_cons,hf];exact List.mem_cons_self)
   obtain ⟨sl,e⟩:=I.base.slot L o ho (I.ok.frf L hL) hL fun z=>I.ok.exfs L z hL
   exact ⟨hk,⟨L,_,hf,hn,e,hd⟩,ih (fun b hb=>hs b (by unfold frs;rw [List.filterMap_cons,hf];exact List.mem_cons_of_mem _ hb)) hr⟩
 exact all X.outer (fun _ hb=>hb) I.ok.funs
theorem Inv.stack (I:Inv X pins σ H s):s.heap.FunFrames X.base X.stack:=by
 rcases I.ok.stk with e | ⟨e,hf⟩
 ·rw [e];exact I.funs
 ·rw [e]
  obtain ⟨m,hn,_⟩:=I.loc
  refine .cons (by rw [I.ok.kind];decide) hf hn ?_ I.funs
  exact Heap.get?_none_of_le (Nat.le_trans I.ok.bsz I.ok.above)
theorem Inv.stkSub (I:Inv X pins σ H s):∀ b∈frs X.stack,b∈X.env.locals :: X.fs:=fun b hb=>by
 rcases I.ok.stk with e | ⟨e,hf⟩
 ·rw [e] at hb;exact List.mem_cons_of_mem _ hb
 ·rw [e] at hb
  unfold frs at hb
  rw [List.filterMap_cons,hf] at hb
  exact hb
theorem Inv.stkFree (I:Inv X pins σ H s):∀ b∈frs X.stack,H b=none:=fun b hb=>by
 rcases List.mem_cons.mp (I.stkSub b hb) with e | hb
 ·rw [e];exact I.free
 ·obtain ⟨_,o,ho,_⟩:=I.ok.funs.mem hb
  exact I.base.free b o ho (I.ok.frf b hb) fun z=>I.ok.exfs b z hb
theorem Inv.step {g':Array GenState} {t':Nat} {d':Drawn} {ch:List Addr} (I:Inv X pins σ H s)
  (hch:∀ b∈ch,(b∈X.ex∨X.s₀.heap.objs.size≤b)∧b≠X.env.locals∧(∀ x c,X.env.cells.lookup x=some c→c≠b)∧∀ p∈X.pn++pins,p.1≠b)
  (keep:∀ b o,b≠X.env.locals→b∉X.fs→b∉ch→s.heap.get? b=some o→H b=none→h'.get? b=some o)
  (slot:∀ b o,b≠X.env.locals→b∈X.fs→b∉ch→s.heap.get? b=some o→H b=none→∃ sl,h'.get? b=some {o with slots:=sl}) (free:∀ b o,b∉ch→s.heap.get? b=some o→H b=none→H' b=none)
  (there:∀ b o,b∉ch→s.heap.get? b=some o→∃ o',h'.get? b=some o')
  (tups:∀ b xs,H b=some (.tup xs)→H' b=some (.tup xs)) (frzs:∀ b o u,H b=some (.frz o u)→H' b=some (.frz o u)) (tbls:∀ b ps,H b=some (.tbl ps)→∃ more,H' b=some (.tbl (ps++more)))
  (ns:∀ m,s.heap.Ns X.env.locals m→h'.Ns X.env.locals m) (hok:HOk X.prog X.w H' h') (hg:AllBare g') :
  Inv X pins σ H' {s with heap:=h',gens:=g',drawn:=d',toks:=t'}:=by
 have neL:∀ b o,X.s₀.heap.get? b=some o→b≠X.env.locals:=fun b o e=>Nat.ne_of_lt (Nat.lt_of_lt_of_le (Heap.lt_size e) I.ok.above)
 have neC:∀ b o,X.s₀.heap.get? b=some o→b∉X.ex→b∉ch:=fun b o e hx hb=>by
  rcases (hch b hb).1 with z | z
  ·exact hx z
  ·exact absurd (Nat.lt_of_lt_of_le (Heap.lt_size e) z) (Nat.lt_irrefl _)
 have cellK:∀ x c,X.env.cells.lookup x=some c→∀ v,s.heap.IsCell c v→h'.IsCell c v:=fun x c e v ⟨o,ho,hd⟩=>by
  have nch:c∉ch:=fun z=>(hch c z).2.2.1 x c e rfl
  by_cases hc:c∈X.fs
  ·obtain ⟨sl,q⟩:=slot c o (I.cne x c e) hc nch ho (I.freeC x c e)
   exact ⟨_,q,hd⟩
  ·exact ⟨o,keep c o (I.cne x c e) hc nch ho (I.freeC x c e),hd⟩
 refine ⟨I.ok,I.os,hg,⟨fun b o e n hb hx => ?_,fun b o e n hb hx => ?_,fun b o e n hx => ?_,fun b o e hx => ?_,fun b xs e=>tups b xs (I.base.tups b xs e),fun b o xs e=>frzs b o xs (I.base.frzs b o xs e),fun b ps e => ?_⟩,?_,fun x c e => ?_,?_,fun x c e => ?_,fun p hp => ?_,hok,I.len⟩
 ·exact keep b o (neL b o e) hb (neC b o e hx) (I.base.keep b o e n hb hx) (I.base.free b o e n hx)
 ·obtain ⟨sl,e1⟩:=I.base.slot b o e n hb hx
  obtain ⟨sl',e2⟩:=slot b _ (neL b o e) hb (neC b o e hx) e1 (I.base.free b o e n hx)
  exact ⟨sl',e2⟩
 ·obtain ⟨o',e1⟩:=I.base.there b o e hx
  exact free b o' (neC b o e hx) e1 (I.base.free b o e n hx)
 ·obtain ⟨o',e1⟩:=I.base.there b o e hx
  exact there b o' (neC b o e hx) e1
 ·obtain ⟨m1,e1⟩:=I.base.tbls b ps e
  obtain ⟨m2,e2⟩:=tbls b _ e1
  exact ⟨m1++m2,by rw [e2,Array.append_assoc]⟩
 ·obtain ⟨m,hn,hl⟩:=I.loc
  refine ⟨m,ns m hn,fun i x v e1 e2 e3 => ?_⟩
  obtain ⟨u,r,l⟩:=hl i x v e1 e2 e3
  refine ⟨u,r,?_⟩
  rcases l with l | ⟨k,c,e,z⟩
  ·exact .inl l
  ·exact .inr ⟨k,c,e,cellK x c e _ z⟩
 ·obtain ⟨v,z⟩:=I.cell x c e
  exact ⟨v,cellK x c e v z⟩
 ·obtain ⟨m,⟨o,_,_,ho,_⟩,_⟩:=I.loc
  exact free _ o (fun z=>(hch _ z).2.1 rfl) ho I.free
 ·obtain ⟨v,o,ho,hd⟩:=I.cell x c e
  exact free c o (fun z=>(hch c z).2.2.1 x c e rfl) ho (I.freeC x c e)
 ·obtain ⟨e,n,ne,nf,d⟩:=I.pin p hp
  have nch:p.1∉ch:=fun z=>(hch p.1 z).2.2.2 p hp rfl
  exact ⟨keep p.1 p.2 ne nf nch e n,free p.1 p.2 nch e n,ne,nf,d⟩
theorem Inv.un {t':Nat} (I:Inv X pins σ H s) (u:Un X.fs [] H H' s.heap h') (hok:HOk X.prog X.w H' h'):Inv X pins σ H' {s with heap:=h',toks:=t'}:=by
 obtain ⟨m,⟨o,es,ep,ho,r⟩,_⟩:=id I.loc
 obtain ⟨sl,hL⟩:=u.any ho I.free (by simp)
 exact I.step (g':=s.gens) (d':=s.drawn) (ch:=[]) (fun _ z=>nomatch z) (fun b o _ hb _ e n=>u.keep b o e n hb (by simp)) (fun b o _ hb _ e n=>u.slot b o e n hb (by simp)) (fun b o _ e n=>u.free b o e n (by simp)) (fun b o _ e=>u.there b o e (by simp)) u.tups u.frzs u.tbls (fun m' hm=>by
  obtain ⟨o',es',ep',ho',r'⟩:=hm
  rw [ho] at ho';cases ho'
  exact ⟨_,es',ep',hL,r'⟩) hok I.bare
theorem Inv.call {g':Array GenState} {t':Nat} {d':Drawn} {ch:List Addr} (I:Inv X pins σ H s) (u:Un (frs X.stack) ch H H' s.heap h') (hok:HOk X.prog X.w H' h') (hg:AllBare g')
  (hch:∀ b∈ch,(b∈X.ex∨X.s₀.heap.objs.size≤b)∧b≠X.env.locals∧(∀ x c,X.env.cells.lookup x=some c→c≠b)∧∀ p∈X.pn++pins,p.1≠b) :
  Inv X pins σ H' {s with heap:=h',gens:=g',drawn:=d',toks:=t'}:=by
 obtain ⟨m,⟨o,es,ep,ho,r⟩,_⟩:=id I.loc
 obtain ⟨sl,hL⟩:=u.any ho I.free fun z=>(hch _ z).2.1 rfl
 exact I.step (ch:=ch) hch (fun b o hL hb hc e n=>u.keep b o e n (fun z=>(List.mem_cons.mp (I.stkSub b z)).elim hL hb) hc) (fun b o _ _ hc e n=>u.any e n hc) (fun b o hc e n=>u.free b o e n hc) (fun b o hc e=>u.there b o e hc) u.tups u.frzs u.tbls (fun m' hm=>by
  obtain ⟨o',es',ep',ho',r'⟩:=hm
  rw [ho] at ho';cases ho'
  exact ⟨_,es',ep',hL,r'⟩) hok hg
theorem Inv.turned {t':Nat} {it:Addr} (I:Inv X pins σ H s) (k:∀ b o,b≠it→s.heap.get? b=some o→h'.get? b=some o) (hn:H it=none) (hL:it≠X.env.locals)
  (h1:it∈X.ex∨X.s₀.heap.objs.size≤it) (h2:∀ x c,X.env.cells.lookup x=some c→c≠it) (h3:∀ p∈X.pn++pins,p.1≠it):Inv X pins σ H {s with heap:=h',toks:=t'}:=by
 have nit:∀ b u,H b=some u→b≠it:=fun b u e z=>by rw [z,hn] at e;cases e
 refine I.step (g':=s.gens) (d':=s.drawn) (ch:=[it]) (fun b hb => ?_) (fun b o _ _ hc e _=>k b o (fun z=>hc (by simp [z])) e) (fun b o _ _ hc e _=>⟨o.slots,k b o (fun z=>hc (by simp [z])) e⟩) (fun _ _ _ _ n=>n)
  (fun b o hc e=>⟨o,k b o (fun z=>hc (by simp [z])) e⟩) (fun _ _ e=>e) (fun _ _ _ e=>e) (fun b ps e=>⟨#[],by rw [e];simp⟩) (fun m hm => ?_) (fun b u e => ?_) I.bare
 ·have e:b=it:=by simpa using hb
  subst e
  exact ⟨h1,hL,h2,h3⟩
 ·obtain ⟨o,es,ep,ho,r⟩:=hm
  exact ⟨o,es,ep,k _ o (Ne.symm hL) ho,r⟩
 ·refine (I.hok b u e).stay (fun c v hc q=>k c v ?_ q) (fun _ q=>q) fun _ _ q=>q
  rcases hc with z | z
  ·rw [z];exact nit b u e
  ·exact nit c _ z
theorem Inv.tok (I:Inv X pins σ H s) (t:Nat):Inv X pins σ H {s with toks:=t}:=I.un (h':=s.heap) (t':=t) Un.refl I.hok
theorem Inv.kept {t':Nat} (I:Inv X pins σ H s) (k:∀ b u,s.heap.get? b=some u→h'.get? b=some u):Inv X pins σ H {s with heap:=h',toks:=t'}:=I.un (Un.kept k) (I.hok.kept k)
theorem Inv.laid {a:Addr} {o:HO} {t':Nat} (I:Inv X pins σ H s) (k:∀ b u,s.heap.get? b=some u→h'.get? b=some u) (hp:s.heap.objs.size≤a) (new:ObjOk X.prog X.w (upd H a o) h' a o) :
  Inv X pins σ (upd H a o) {s with heap:=h',toks:=t'}:=I.un (Un.laid k hp (I.hok.fresh hp)) (I.hok.laid k hp new)
theorem Inv.write {x e:Addr} {o:HO} {t':Nat} (I:Inv X pins σ H s) (mu:Mut (H x)) (he:e=x∨H e=some (.own x)) (k:∀ b u,b≠e→s.heap.get? b=some u→h'.get? b=some u) (heo:∃ u,h'.get? e=some u)
  (new:ObjOk X.prog X.w (upd H x o) h' x o):Inv X pins σ (upd H x o) {s with heap:=h',toks:=t'}:=I.un (Un.write mu he k heo) (I.hok.write mu he k heo new)
theorem Inv.pins_of {pins':List (Addr×Obj)} (I:Inv X pins σ H s) (h:∀ p∈pins',s.heap.get? p.1=some p.2∧H p.1=none∧p.1≠X.env.locals∧p.1∉X.fs∧∀ v,p.2.data ≠ .cell v):Inv X pins' σ H s:=
 ⟨I.ok,I.os,I.bare,I.base,I.loc,I.cell,I.free,I.freeC,fun p hp=>(List.mem_append.mp hp).elim (fun z=>I.pin p (List.mem_append_left _ z)) (h p),I.hok,I.len⟩
theorem j9 {N:List Str} (hN:N.Nodup) {i j:Nat} {x:Str} (a:N[i]? = some x) (b:N[j]? = some x):i=j:=by
 obtain ⟨h1,e1⟩:=List.getElem?_eq_some_iff.mp a
 obtain ⟨h2,e2⟩:=List.getElem?_eq_some_iff.mp b
 exact (List.getElem_inj hN).mp (e1.trans e2.symm)
theorem le {M:Model} {A:Around} {E:Value→Shared→Prop} {i:Nat} {x:Str} {v:V} {u:Value} {Q:Unit→Shared→Prop} (I:Inv X pins σ H s) (hN:X.N.Nodup) (hi:X.N[i]? = some x) (hx:Loc X.env.scope x) (r:RelV v u)
  (h:∀ s',Inv X pins (σ.set i (some v)) H s'→(∃ a,Heap.SameBut a s.heap s'.heap∧(a=X.env.locals∨X.env.cells.lookup x=some a))→Q () s') (hf:X.fn x=true∨X.env.scope.names.lookup x=some .local:=by first | exact .inl rfl | exact .inr rfl | assumption):wpAny M A (storeName X.env x u) Q E s:=by
 obtain ⟨m,hn,hl⟩:=id I.loc
 have hcls:(X.env.scope.kind == .class || (X.env.scope.kind == .module && X.env.locals != X.env.globals))=false:=by rw [I.ok.kind];rfl
 have hiσ:i < σ.length:=by rw [I.len];exact (List.getElem?_eq_some_iff.mp hi).1
 have cne:=I.cne
 have tracked:∀ {a:Addr} {h':Heap},(∃ o,s.heap.get? a=some o∧H a=none)→Heap.SameBut a s.heap h'→HOk X.prog X.w H h':=fun {a h'} ha hs b ob e=>by
  obtain ⟨_,_,hfree⟩:=ha
  refine (I.hok b ob e).stay (fun c w' hc q=>(hs.2 c ?_).trans q) (fun _ q=>q) fun _ _ q=>q
  rintro rfl
  rcases hc with rfl | hc
  ·rw [hfree] at e;cases e
  ·rw [hfree] at hc;cases hc
 rcases hx with hk | hk
 ·refine wpAny_storeName_local hk hn (fun h' hn' hs => ?_) hcls
  obtain ⟨oL,_,_,hoL,_⟩:=id hn
  refine h _ ⟨I.ok,I.os,I.bare,⟨fun b o e n hb hx => ?_,fun b o e n hb hx => ?_,I.base.free,fun b o e hx => ?_,I.base.tups,I.base.frzs,I.base.tbls⟩,⟨_,hn',fun j y v' e1 e2 e3 => ?_⟩,fun y c e => ?_,I.free,I.freeC,fun p hp => ?_,tracked ⟨oL,hoL,I.free⟩ hs,by simpa using I.len⟩ ⟨_,hs,.inl rfl⟩
  ·exact (hs.2 b (Nat.ne_of_lt (Nat.lt_of_lt_of_le (Heap.lt_size e) I.ok.above))).trans (I.base.keep b o e n hb hx)
  ·obtain ⟨sl,e1⟩:=I.base.slot b o e n hb hx
   exact ⟨sl,(hs.2 b (Nat.ne_of_lt (Nat.lt_of_lt_of_le (Heap.lt_size e) I.ok.above))).trans e1⟩
  ·obtain ⟨o',e1⟩:=I.base.there b o e hx
   exact ⟨o',(hs.2 b (Nat.ne_of_lt (Nat.lt_of_lt_of_le (Heap.lt_size e) I.ok.above))).trans e1⟩
  ·by_cases hj:j=i
   ·subst hj
    rw [hi] at e1;cases e1
    rw [List.getElem?_set_self hiσ] at e2
    cases e2
    exact ⟨u,r,.inl ⟨hk,by simp⟩⟩
   ·rw [List.getElem?_set_ne (Ne.symm hj)] at e2
    obtain ⟨u',r',q⟩:=hl j y v' e1 e2 e3
    refine ⟨u',r',?_⟩
    rcases q with ⟨k,e⟩ | ⟨k,c,e,z⟩
    ·refine .inl ⟨k,?_⟩
     have:y≠x:=fun e=>hj (j9 hN e1 (e ▸ hi))
     simp [this,e]
    ·exact .inr ⟨k,c,e,z.sameBut hs (cne y c e)⟩
  ·obtain ⟨w',z⟩:=I.cell y c e
   exact ⟨w',z.sameBut hs (cne y c e)⟩
  ·obtain ⟨e,n,ne,nf,d⟩:=I.pin p hp
   exact ⟨(hs.2 p.1 ne).trans e,n,ne,nf,d⟩
 ·have hfn:X.fn x=true:=by
   rcases hf with z | z
   ·exact z
   ·rw [z] at hk;cases hk
  obtain ⟨c,hc⟩:=I.ok.has x (.inl hk)
  obtain ⟨w',z⟩:=I.cell x c hc
  refine wpAny_storeName_cell I.ok.kind hk hc z (fun h' hc' hs => ?_)
  obtain ⟨oc,hoc,hocd⟩:=id z
  refine h {s with heap:=h'} ⟨I.ok,I.os,I.bare,⟨fun b o e n hb hx => ?_,fun b o e n hb hx => ?_,I.base.free,fun b o e hx => ?_,I.base.tups,I.base.frzs,I.base.tbls⟩,⟨m,hn.sameBut hs (Ne.symm (cne x c hc)),fun j y v' e1 e2 e3 => ?_⟩,fun y c' e => ?_,I.free,I.freeC,fun p hp => ?_,tracked ⟨oc,hoc,I.freeC x c hc⟩ hs,by simpa using I.len⟩ ⟨c,hs,.inr hc⟩
  ·exact (hs.2 b (Nat.ne_of_lt (Nat.lt_of_lt_of_le (Heap.lt_size e) (I.ok.cab x c hfn hc)))).trans (I.base.keep b o e n hb hx)
  ·obtain ⟨sl,e1⟩:=I.base.slot b o e n hb hx
   exact ⟨sl,(hs.2 b (Nat.ne_of_lt (Nat.lt_of_lt_of_le (Heap.lt_size e) (I.ok.cab x c hfn hc)))).trans e1⟩
  ·obtain ⟨o',e1⟩:=I.base.there b o e hx
   exact ⟨o',(hs.2 b (Nat.ne_of_lt (Nat.lt_of_lt_of_le (Heap.lt_size e) (I.ok.cab x c hfn hc)))).trans e1⟩
  ·by_cases hj:j=i
   ·subst hj
    rw [hi] at e1;cases e1
    rw [List.getElem?_set_self hiσ] at e2
    cases e2
    exact ⟨u,r,.inr ⟨.inl hk,c,hc,hc'⟩⟩
   ·rw [List.getElem?_set_ne (Ne.symm hj)] at e2
    obtain ⟨u',r',q⟩:=hl j y v' e1 e2 e3
    refine ⟨u',r',?_⟩
    rcases q with q | ⟨k,c',e,z'⟩
    ·exact .inl q
    ·refine .inr ⟨k,c',e,z'.sameBut hs ?_⟩
     rintro rfl
     exact hj (j9 hN e1 (I.ok.inj _ _ _ e hc ▸ hi))
  ·by_cases hcc:c'=c
   ·subst hcc;exact ⟨_,hc'⟩
   ·obtain ⟨w2,z2⟩:=I.cell y c' e
    exact ⟨w2,z2.sameBut hs hcc⟩
  ·obtain ⟨e,n,ne,nf,d⟩:=I.pin p hp
   refine ⟨(hs.2 p.1 ?_).trans e,n,ne,nf,d⟩
   intro q
   rw [q,hoc] at e
   have q':oc=p.2:=Option.some.inj e
   exact d w' (by rw [← q'];exact hocd)
theorem gs {M:Model} {A:Around} {E:Value→Shared→Prop} {i:Nat} {x:Str} {v:V} {u:Value} {Q:Unit→Shared→Prop} (I:Inv X pins σ H s) (hN:X.N.Nodup) (hi:X.N[i]? = some x) (hx:Loc X.env.scope x) (r:RelV v u)
  (h:∀ s',Inv X pins (σ.set i (some v)) H s'→Q () s') (hf:X.fn x=true∨X.env.scope.names.lookup x=some .local:=by first | exact .inl rfl | exact .inr rfl | assumption):wpAny M A (storeName X.env x u) Q E s:=
 le I hN hi hx r (fun s' I' _=>h s' I') hf
theorem Inv.call' {s':Shared} {ch:List Addr} (I:Inv X pins σ H s) (ho:s'.os=s.os) (u:Un (frs X.stack) ch H H' s.heap s'.heap) (hok:HOk X.prog X.w H' s'.heap) (hg:AllBare s'.gens)
  (hch:∀ b∈ch,(b∈X.ex∨X.s₀.heap.objs.size≤b)∧b≠X.env.locals∧(∀ x c,X.env.cells.lookup x=some c→c≠b)∧∀ p∈X.pn++pins,p.1≠b):Inv X pins σ H' s':=by
 obtain ⟨h',g',d',t',o'⟩:=s'
 have e:o'=s.os:=ho
 subst e
 exact I.call (g':=g') (t':=t') (d':=d') u hok hg hch
end
abbrev XK:=Value→Option Addr→Hp→Prop
abbrev St:=List (Option V)
abbrev VK:=V→Hp→Prop
abbrev TE:=St→Hp→VK→Prop
abbrev TT:=St→Hp→(Bool→Hp→Prop)→Prop
abbrev TA:=St→Hp→(List V→Hp→Prop)→Prop
structure Ends where
 nx:St→Hp→Prop
 rt:VK
 bk:St→Hp→Prop:=fun _ _=>False
 ct:St→Hp→Prop:=fun _ _=>False
abbrev TS:=Ends→St→Hp→Prop
def EP (X:Cx) (pins:List (Addr×Obj)) (σ:St) (Q:VK) (u:Value) (s':Shared):Prop:=∃ v H',Inv X pins σ H' s'∧RelV v u∧Q v H'
def TP (X:Cx) (pins:List (Addr×Obj)) (σ:St) (Q:Bool→Hp→Prop) (b:Bool) (s':Shared):Prop:=∃ H',Inv X pins σ H' s'∧Q b H'
def AP (X:Cx) (pins:List (Addr×Obj)) (σ:St) (Q:List V→Hp→Prop) (us:List Value) (s':Shared):Prop:=∃ vs H',Inv X pins σ H' s'∧Vals vs us∧Q vs H'
def SP (X:Cx) (pins:List (Addr×Obj)) (D:Ends) (f:Flow) (s':Shared):Prop:=
 match f with
 | .next=>∃ σ' H',Inv X pins σ' H' s'∧D.nx σ' H'
 | .brk=>∃ σ' H',Inv X pins σ' H' s'∧D.bk σ' H'
 | .cont=>∃ σ' H',Inv X pins σ' H' s'∧D.ct σ' H'
 | .ret u=>∃ v σ' H',Inv X pins σ' H' s'∧RelV v u∧D.rt v H'
def PE (X:Cx) (e:Expr) (t:TE):Prop:=
 ∀ (pins:List (Addr×Obj)) (s:Shared) (σ:St) (H:Hp) (Q:VK),Inv X pins σ H s→t σ H Q→wpAny (model X.prog X.w) X.A (eval e X.env) (EP X pins σ Q) X.xe s
def PT (X:Cx) (e:Expr) (t:TT):Prop:=
 ∀ (pins:List (Addr×Obj)) (s:Shared) (σ:St) (H:Hp) (Q:Bool→Hp→Prop),Inv X pins σ H s→t σ H Q→wpAny (model X.prog X.w) X.A (isTrue e X.env (eval e X.env)) (TP X pins σ Q) X.xe s
def PW (X:Cx) (e:Expr) (t:TT):Prop:=
 ∀ (whole:Sem Value) (pins:List (Addr×Obj)) (s:Shared) (σ:St) (H:Hp) (Q:Bool→Hp→Prop),Inv X pins σ H s→t σ H Q→wpAny (model X.prog X.w) X.A (isTrue e X.env whole) (TP X pins σ Q) X.xe s
theorem PW.pt {X:Cx} {e:Expr} {t:TT} (h:PW X e t):PT X e t:=h _
def PA (X:Cx) (es:List Expr) (t:TA):Prop:=
 ∀ (pos:Pos) (pins:List (Addr×Obj)) (s:Shared) (σ:St) (H:Hp) (Q:List V→Hp→Prop),Inv X pins σ H s→t σ H Q→wpAny (model X.prog X.w) X.A (spliced (backTo pos (starEach es X.env))) (AP X pins σ Q) X.xe s
def PS (X:Cx) (st:Stmt) (t:TS):Prop:=
 ∀ (pins:List (Addr×Obj)) (s:Shared) (σ:St) (H:Hp) (D:Ends),Inv X pins σ H s→t D σ H→wpAny (model X.prog X.w) X.A (exec st X.env) (SP X pins D) X.xe s
def PSs (X:Cx) (st:List Stmt) (t:TS):Prop:=
 ∀ (pins:List (Addr×Obj)) (s:Shared) (σ:St) (H:Hp) (D:Ends),Inv X pins σ H s→t D σ H→wpAny (model X.prog X.w) X.A (execs st X.env) (SP X pins D) X.xe s
theorem thn {α:Type} {t:Sem α} {Q Q':α→Shared→Prop} {M:Model} {A:Around} {E:Value→Shared→Prop} {s:Shared} (h:wpAny M A t Q E s) (hQ:∀ a s,Q a s→Q' a s):wpAny M A t Q' E s:=wpAny_mono h hQ fun _ _ x=>x
end L2
namespace L2
open PySem PySem.Spec PyProof.Rows
section
variable {X:Cx}
def jP (i:Nat):TE:=fun σ H Q=>∃ v,σ[i]? = some (some v)∧Q v H
def tC (v:V):TE:=fun _ H Q=>Q v H
theorem vm {i:Nat} {x:Str} {pos:Pos} (hN:X.N[i]? = some x) (hv:Vis X.env.scope x) (hd:(x == ("__debug__" : Str))=false:=by decide) (hcd:(x == ("__classdict__" : Str))=false:=by decide):PE X (.Name x pos) (jP i):=by
 intro pins s σ H Q I h
 obtain ⟨v,e,h⟩:=h
 obtain ⟨m,hn,hl⟩:=I.loc
 obtain ⟨u,r,l⟩:=hl i x v hN e hv
 have fin:EP X pins σ Q u s:=⟨v,H,I,r,h⟩
 rcases l with ⟨hk,hm⟩ | ⟨hk,c,hc,hcell⟩
 ·exact wpAny_Name (wpAny_loadName_local I.ok.kind hk hn hm fin) hd
 ·rcases hk with hk | hk
  ·exact wpAny_Name (wpAny_loadName_cell I.ok.kind hk hc hcell fin) hd
  ·exact wpAny_Name (wpAny_loadName_free I.ok.kind hk hc hcell fin hcd) hd
theorem ag {i j pos}:PE X (.Constant (.int i) j pos) (tC (.int i)):=fun _ _ _ H _ I h=>wpAny_Constant_int ⟨.int i,H,I.tok _,⟨_,rfl⟩,h⟩
theorem qK {b j pos}:PE X (.Constant (.bool b) j pos) (tC (.bl b)):=fun _ _ _ H _ I h=>Constant_bool ⟨.bl b,H,I,rfl,h⟩
theorem fG {j pos}:PE X (.Constant .none j pos) (tC .non):=fun _ _ _ H _ I h=>Constant_none ⟨.non,H,I,rfl,h⟩
theorem jQ {x j pos}:PE X (.Constant (.str x) j pos) (tC (.str x)):=fun _ _ _ H _ I h=>Calls.Constant_str ⟨.str x,H,I.tok _,⟨_,rfl⟩,h⟩
def Gl (X:Cx) (x:Str):Prop:=X.env.kindOf x=some .globalImplicit
theorem fQ {E:Value→Shared→Prop} {pins:List (Addr×Obj)} {s:Shared} {σ:St} {H:Hp} {x:Str} {u:Value} {pos:Pos} {Q:Value→Shared→Prop} (I:Inv X pins σ H s) (hg:Gl X x) (hm:X.mg x=some u) (h:Q u s)
  (hd:(x == ("__debug__" : Str))=false:=by decide):wpAny (model X.prog X.w) X.A (eval (.Name x pos) X.env) Q E s:=
 Calls.Name_function_global I.ok.kind hg (Calls.loadGlobal_global (by rw [I.ok.glob];exact I.mod.glob.keeps I.bk) hm h) hd
theorem lg {E:Value→Shared→Prop} {pins:List (Addr×Obj)} {s:Shared} {σ:St} {H:Hp} {x:Str} {u:Value} {pos:Pos} {Q:Value→Shared→Prop} (I:Inv X pins σ H s) (hg:Gl X x) (hm:X.mg x=none) (hv:bootBuiltins x=some u) (h:Q u s)
  (hn:x ≠ "__name__" := by decide) (hd:(x == ("__debug__" : Str))=false:=by decide):wpAny (model X.prog X.w) X.A (eval (.Name x pos) X.env) Q E s:=by
 obtain ⟨mb,h1,h2⟩:=I.mod.blt
 exact Calls.Name_function_global I.ok.kind hg (Calls.loadGlobal_builtin (by rw [I.ok.glob];exact I.mod.glob.keeps I.bk) hm (by rw [I.ok.blt];exact h1.keeps I.bk) ((h2 x hn).trans hv) h) hd
theorem mW {x:Str} {v:V} {u:Value} {pos:Pos} (hg:Gl X x) (hm:X.mg x=some u) (r:RelV v u) (hd:(x == ("__debug__" : Str))=false:=by decide):PE X (.Name x pos) (tC v):=
 fun _ _ _ H _ I h=>fQ I hg hm ⟨v,H,I,r,h⟩ hd
theorem vR {x:Str} {v:V} {u:Value} {pos:Pos} (hg:Gl X x) (hm:X.mg x=none) (hv:bootBuiltins x=some u) (r:RelV v u) (hn:x ≠ "__name__" := by decide) (hd:(x == ("__debug__" : Str))=false:=by decide):PE X (.Name x pos) (tC v):=
 fun _ _ _ H _ I h=>lg I hg hm hv ⟨v,H,I,r,h⟩ hn hd
def t2I (ta tb:TE) (k:Int→Int→Hp→Prop):St→Hp→Prop:=fun σ H=>ta σ H fun x H1=>tb σ H1 fun y H2=>∃ i j,x = .int i∧y = .int j∧k i j H2
def C1 (ta tb:TE):TE:=fun σ H Q=>t2I ta tb (fun i j H2=>Q (.int (i+j)) H2) σ H
def C3 (ta tb:TE):TE:=fun σ H Q=>t2I ta tb (fun i j H2=>Q (.int (i - j)) H2) σ H
def C4 (ta tb:TE):TE:=fun σ H Q=>t2I ta tb (fun i j H2=>(-(2 ^ 64) < i∧i < 2 ^ 64)∧Q (.int (i * j)) H2) σ H
variable {a b:Expr} {ta tb:TE} {pos:Pos}
def PC (X:Cx) (op:CmpOp) (a b:Expr) (t:TE):Prop:=
 ∀ (pins:List (Addr×Obj)) (s:Shared) (σ:St) (H:Hp) (Q:VK),Inv X pins σ H s→t σ H Q →
  wpAny (model X.prog X.w) X.A (eval a X.env) (fun v s₁=>wpAny (model X.prog X.w) X.A (eval b X.env) (fun u s₂=>wpAny (model X.prog X.w) X.A (compareOp op v u) (EP X pins σ Q) X.xe s₂) X.xe s₁) X.xe s
def xN (p:Int→Int→Bool) (ta tb:TE):TE:=fun σ H Q=>t2I ta tb (fun i j H2=>Q (.bl (p i j)) H2) σ H
abbrev tLt:TE→TE→TE:=xN fun i j=>decide (i < j)
abbrev tLe:TE→TE→TE:=xN fun i j=>decide (i≤j)
abbrev tGt:TE→TE→TE:=xN fun i j=>decide (j < i)
abbrev tGe:TE→TE→TE:=xN fun i j=>decide (j≤i)
abbrev C5:TE→TE→TE:=xN fun i j=>decide (i=j)
abbrev C6:TE→TE→TE:=xN fun i j => !decide (i=j)
def C7 (ta:TE):TE:=fun σ H Q=>ta σ H fun x H1=>Q (.bl (decide (x = .non))) H1
def Cg (ta:TE):TE:=fun σ H Q=>ta σ H fun x H1=>Q (.bl (!decide (x = .non))) H1
def tB (t:TE):TT:=fun σ H Q=>t σ H fun x H1=>∃ c,x = .bl c∧Q c H1
theorem dG {e:Expr} {t:TE} (h:PE X e t) (he:∀ whole,isTrue e X.env whole=(do let v ← whole;standAt e.pos;holding [v] (truthy v)):=by intro _;rfl):PT X e (tB t):=by
 intro pins s σ H Q I hw
 refine isTrue_plain (thn (h pins s σ H _ I hw) fun v s1 ⟨x,H1,I1,r1,q1⟩ => ?_) (he _)
 obtain ⟨d,rfl,q⟩:=q1
 cases r1
 exact wpAny_truthy_bool ⟨H1,I1,q⟩
variable {tA tB':TT} {rest:List Expr}
def zS (t u:TT):TT:=fun σ H Q=>t σ H fun c H1=>if c=true then u σ H1 Q else Q false H1
def tOr (t u:TT):TT:=fun σ H Q=>t σ H fun c H1=>if c=true then Q true H1 else u σ H1 Q
def BA (t:TT):TT:=fun σ H Q=>t σ H fun c H1=>Q (!c) H1
theorem dN (ha:PT X a tA):PW X (.BoolOp .And [a] pos) tA:=by
 intro wh pins s σ H Q I h
 refine isTrue_and (thn (ha pins s σ H Q I h) fun c s1 e => ?_)
 cases c with
 | true=>exact isTrue_and_nil e
 | false=>exact e
theorem iP (ha:PT X a tA):PW X (.BoolOp .Or [a] pos) tA:=by
 intro wh pins s σ H Q I h
 refine isTrue_or (thn (ha pins s σ H Q I h) fun c s1 e => ?_)
 cases c with
 | false=>exact isTrue_or_nil e
 | true=>exact e
theorem fH (ha:PT X a tA) (hb:PW X (.BoolOp .And (b :: rest) pos) tB'):PW X (.BoolOp .And (a :: b :: rest) pos) (zS tA tB'):=by
 intro wh pins s σ H Q I h
 refine isTrue_and (thn (ha pins s σ H _ I h) fun c s1 ⟨H1,I1,q1⟩ => ?_)
 cases c with
 | true=>exact hb wh pins s1 σ H1 Q I1 q1
 | false=>exact ⟨H1,I1,q1⟩
theorem mX (ha:PT X a tA) (hb:PW X (.BoolOp .Or (b :: rest) pos) tB'):PW X (.BoolOp .Or (a :: b :: rest) pos) (tOr tA tB'):=by
 intro wh pins s σ H Q I h
 refine isTrue_or (thn (ha pins s σ H _ I h) fun c s1 ⟨H1,I1,q1⟩ => ?_)
 cases c with
 | true=>exact ⟨H1,I1,q1⟩
 | false=>exact hb wh pins s1 σ H1 Q I1 q1
theorem qL (ha:PT X a tA):PT X (.UnaryOp .Not a pos) (BA tA):=by
 intro pins s σ H Q I h
 exact isTrue_not (ha pins s σ H (fun c H1=>Q (!c) H1) I h)
def xU (ta tb:TE):TE:=fun σ H Q=>ta σ H fun x H1=>∃ c,x = .bl c∧if c=true then tb σ H1 Q else Q (.bl false) H1
def C8 (ta tb:TE):TE:=fun σ H Q=>ta σ H fun x H1=>∃ c,x = .bl c∧if c=true then Q (.bl true) H1 else tb σ H1 Q
def Ch (ta:TE):TE:=fun σ H Q=>ta σ H fun x H1=>∃ c,x = .bl c∧Q (.bl (!c)) H1
theorem oz {op} {t:TE} (h:PE X a t):PE X (.BoolOp op [a] pos) t:=fun pins s σ H Q I hw=>BoolOp_one (h pins s σ H Q I hw)
theorem oA (ha:PE X a ta) (hb:PE X (.BoolOp .And (b :: rest) pos) tb):PE X (.BoolOp .And (a :: b :: rest) pos) (xU ta tb):=by
 intro pins s σ H Q I h
 refine BoolOp_and (thn (ha pins s σ H _ I h) fun v s1 ⟨x,H1,I1,r1,q1⟩ => ?_)
 obtain ⟨c,rfl,q1⟩:=q1
 cases r1
 refine wpAny_truthy_bool ?_
 cases c with
 | true=>exact hb pins s1 σ H1 Q I1 q1
 | false=>exact ⟨.bl false,H1,I1,rfl,q1⟩
def tIf (t:TT) (ta tb:TE):TE:=fun σ H Q=>t σ H fun c H1=>if c=true then ta σ H1 Q else tb σ H1 Q
theorem oB {c:Expr} (hc:PT X c tA) (ha:PE X a ta) (hb:PE X b tb):PE X (.IfExp c a b pos) (tIf tA ta tb):=by
 intro pins s σ H Q I h
 refine wpAny_IfExp (thn (hc pins s σ H _ I h) fun d s1 ⟨H1,I1,q1⟩ => ?_)
 cases d with
 | true=>exact ha pins s1 σ H1 Q I1 q1
 | false=>exact hb pins s1 σ H1 Q I1 q1
end
end L2
namespace L2
open PySem PySem.Spec PyProof.Rows
def SqL (K:PySem.W.Frag) (H:Hp) (a:Addr) (xs:List V):Prop:=
 Rd H a (.lst xs) ∨
  ∃ (o:Obj) (its:Array Value) (n:Nat),K.lookup a=some o∧o.cls = .type "list" ∧ o.dict=none∧o.data = .seq its n∧its.size≤sizeLine∧Vals xs its.toList
def SqT (K:PySem.W.Frag) (H:Hp) (a:Addr) (xs:List V):Prop:=
 Rd H a (.tup xs) ∨
  ∃ (o:Obj) (its:Array Value) (n:Nat),K.lookup a=some o∧o.cls = .type "tuple" ∧ o.data = .seq its n∧its.size≤sizeLine∧Vals xs its.toList
def Ci:Value→Option V
 | .none=>some .non
 | .bool b=>some (.bl b)
 | .int i _=>some (.int i)
 | .str x _=>some (.str x)
 | .bytes b _=>some (.byt b)
 | .float b _=>some (.flt b)
 | .ref a=>some (.ref a)
 | .type n=>some (.ty n)
 | _=>none
theorem RelV.abs {x:V} {u:Value} (r:RelV x u):Ci u=some x:=by
 cases x with
 | non=>cases r;rfl
 | bl _=>cases r;rfl
 | int _=>obtain ⟨t,rfl⟩:=r;rfl
 | str _=>obtain ⟨t,rfl⟩:=r;rfl
 | byt _=>obtain ⟨t,rfl⟩:=r;rfl
 | flt _=>obtain ⟨t,rfl⟩:=r;rfl
 | ref _=>cases r;rfl
 | ty _=>cases r;rfl
theorem RelV.inj {x y:V} {u:Value} (r:RelV x u) (q:RelV y u):x=y:=Option.some.inj (r.abs.symm.trans q.abs)
theorem Vals.inj:∀ {xs ys:List V} {us:List Value},Vals xs us→Vals ys us→xs=ys
 | _,_,_,.nil,.nil=>rfl
 | _,_,_,.cons r t,.cons r' t'=>by rw [r.inj r',Vals.inj t t']
section
variable {X:Cx} {pins:List (Addr×Obj)} {σ:St} {H:Hp} {s:Shared} {a:Addr} {xs ys:List V}
theorem SqL.of {K:PySem.W.Frag} (h:H a=some (.lst xs)):SqL K H a xs := .inl (.inl h)
theorem SqT.of {K:PySem.W.Frag} (h:H a=some (.tup xs)):SqT K H a xs := .inl (.inl h)
theorem Inv.list (I:Inv X pins σ H s) (h:SqL X.K H a xs):∃ its:List Value,Vals xs its∧PlainL s.heap a its.toArray∧xs.length≤sizeLine:=by
 rcases h with h | ⟨o,its,n,hk,hc,hd,hs,hz,r⟩
 ·obtain ⟨z,its,n,r,e⟩:=h.ok I.hok
  exact ⟨its,r,⟨_,n,e,rfl,rfl,rfl⟩,z⟩
 ·refine ⟨its.toList,r,⟨o,n,I.kIn a o hk,hc,hd,by simpa using hs⟩,?_⟩
  have e:=r.length
  simp only [Array.length_toList] at e
  omega
theorem Inv.tuple (I:Inv X pins σ H s) (h:SqT X.K H a xs):∃ its:List Value,Vals xs its∧IsTup s.heap a its.toArray∧xs.length≤sizeLine:=by
 rcases h with h | ⟨o,its,n,hk,hc,hs,hz,r⟩
 ·obtain ⟨z,its,r,p⟩:=h.ok I.hok
  exact ⟨its,r,p,z⟩
 ·refine ⟨its.toList,r,⟨o,I.kIn a o hk,hc,n,by simpa using hs⟩,?_⟩
  have e:=r.length
  simp only [Array.length_toList] at e
  omega
theorem Inv.list_inj (I:Inv X pins σ H s) (h:SqL X.K H a xs) (h':SqL X.K H a ys):xs=ys:=by
 obtain ⟨its,r,⟨o,n,e,_,_,d⟩,_⟩:=I.list h
 obtain ⟨its',r',⟨o',n',e',_,_,d'⟩,_⟩:=I.list h'
 rw [e] at e';cases e'
 rw [d] at d'
 injection d' with d1 _
 have:its=its':=by simpa using congrArg Array.toList d1
 subst this
 exact r.inj r'
end
abbrev Cx.wish (X:Cx) (E:Value→Shared→Prop):Cx:={X with xe:=E}
abbrev Cx.nox (X:Cx):Cx:=X.wish fun _ _=>False
theorem Cx.Ok.wish {X:Cx} (ok:X.Ok) (E:Value→Shared→Prop):(X.wish E).Ok:=
 ⟨ok.mod,ok.kind,ok.glob,ok.blt,ok.above,ok.inj,ok.has,ok.cab,ok.hd,ok.frames,ok.stk,ok.exf,ok.bs,ok.bsz,ok.noex,ok.exfs,ok.funs,ok.frf⟩
theorem Cx.Ok.unwish {X:Cx} {E:Value→Shared→Prop} (ok:(X.wish E).Ok):X.Ok:=
 ⟨ok.mod,ok.kind,ok.glob,ok.blt,ok.above,ok.inj,ok.has,ok.cab,ok.hd,ok.frames,ok.stk,ok.exf,ok.bs,ok.bsz,ok.noex,ok.exfs,ok.funs,ok.frf⟩
section
variable {X:Cx} {pins:List (Addr×Obj)} {σ:St} {H:Hp} {s:Shared} {E:Value→Shared→Prop}
theorem Inv.wish (I:Inv X pins σ H s) (E:Value→Shared→Prop):Inv (X.wish E) pins σ H s:=⟨I.ok.wish E,I.os,I.bare,I.base,I.loc,I.cell,I.free,I.freeC,I.pin,I.hok,I.len⟩
theorem Inv.unwish (I:Inv (X.wish E) pins σ H s):Inv X pins σ H s:=⟨I.ok.unwish,I.os,I.bare,I.base,I.loc,I.cell,I.free,I.freeC,I.pin,I.hok,I.len⟩
theorem SP.unwish {D:Ends} {f:Flow} {s':Shared} (h:SP (X.wish E) pins D f s'):SP X pins D f s':=by
 cases f with
 | next=>obtain ⟨σ',H',I,q⟩:=h;exact ⟨σ',H',I.unwish,q⟩
 | brk=>obtain ⟨σ',H',I,q⟩:=h;exact ⟨σ',H',I.unwish,q⟩
 | cont=>obtain ⟨σ',H',I,q⟩:=h;exact ⟨σ',H',I.unwish,q⟩
 | ret u=>obtain ⟨v,σ',H',I,r,q⟩:=h;exact ⟨v,σ',H',I.unwish,r,q⟩
theorem PSs.nox {st:List Stmt} {t:TS} (h:PSs X.nox st t):PSs X st t:=fun pins s σ H D I hw=>
 wpAny_mono (h pins s σ H D (I.wish _) hw) (fun _ _ q=>q.unwish) fun _ _ z=>False.elim z
end
section
variable {X:Cx} {st:Stmt} {rest:List Stmt} {t u:TS} {e:Expr} {te:TE} {pos:Pos}
def xV:TS:=fun D σ H=>D.nx σ H
def BC (t u:TS):TS:=fun D σ H=>t {D with nx:=u D} σ H
theorem aG:PSs X [] xV:=fun _ _ σ H _ I h=>wpAny_execs_nil ⟨σ,H,I,h⟩
theorem ae (h1:PS X st t) (h2:PSs X rest u):PSs X (st :: rest) (BC t u):=by
 intro pins s σ H D I h
 refine wpAny_execs_cons (thn (h1 pins s σ H {D with nx:=u D} I h) fun f s1 q => ?_)
 cases f with
 | next=>
  obtain ⟨σ',H',I',q⟩:=q
  exact h2 pins s1 σ' H' D I' q
 | ret v=>exact q
 | brk=>exact q
 | cont=>exact q
theorem af (h1:PS X st t):PSs X [st] t:=by
 intro pins s σ H D I h
 refine wpAny_execs_cons (thn (h1 pins s σ H D I h) fun f s1 q => ?_)
 cases f with
 | next=>exact wpAny_execs_nil q
 | ret v=>exact q
 | brk=>exact q
 | cont=>exact q
def BD:TS:=fun D σ H=>D.bk σ H
def Cj:TS:=fun D σ H=>D.ct σ H
theorem Inv.quiet {pins:List (Addr×Obj)} {σ:St} {H:Hp} {s:Shared} (I:Inv X pins σ H s):interactive X.env=false:=by simp [interactive,I.ok.kind]
def vS (te:TE):TS:=fun D σ H=>te σ H fun _ H1=>D.nx σ H1
theorem aC (he:PE X e te) (hs:swapsWith e none pos.line X.env=pure false:=by rfl):PS X (.Expr e pos) (vS te):=by
 intro pins s σ H D I h
 exact wpAny_Expr_any (thn (he pins s σ H _ I h) fun v s1 ⟨x,H1,I1,r1,q1⟩=>⟨σ,H1,I1,q1⟩) I.quiet hs
def BE (te:TE):TS:=fun D σ H=>te σ H D.rt
theorem ay (he:PE X e te):PS X (.Return (some e) pos) (BE te):=by
 intro pins s σ H D I h
 exact wpAny_Return_some (thn (he pins s σ H _ I h) fun v s1 ⟨x,H1,I1,r1,q1⟩=>⟨x,σ,H1,I1,r1,q1⟩)
def xW:TS:=fun D _ H=>D.rt .non H
theorem vT:PS X (.Return none pos) xW:=fun _ _ σ H _ I h=>wpAny_Return_none ⟨.non,σ,H,I,rfl,h⟩
def BF (c:TT) (t u:TS):TS:=fun D σ H=>c σ H fun b H1=>if b=true then t D σ H1 else u D σ H1
theorem bc {c:Expr} {a b:List Stmt} {tc:TT} (hc:PT X c tc) (ha:PSs X a t) (hb:PSs X b u):PS X (.If c a b pos) (BF tc t u):=by
 intro pins s σ H D I h
 refine wpAny_If (thn (hc pins s σ H _ I h) fun d s1 ⟨H1,I1,q1⟩ => ?_)
 cases d with
 | true=>exact ha pins s1 σ H1 D I1 q1
 | false=>exact hb pins s1 σ H1 D I1 q1
def xX:TS:=fun _ _ _=>False
theorem tZ:PS X st xX:=fun _ _ _ _ _ _ h=>h.elim
end
abbrev TG:=V→St→Hp→(St→Hp→Prop)→Prop
abbrev TGs:=List V→St→Hp→(St→Hp→Prop)→Prop
def PG (X:Cx) (target:Expr) (t:TG):Prop:=
 ∀ (pins:List (Addr×Obj)) (s:Shared) (σ:St) (H:Hp) (v:V) (u:Value) (Q:St→Hp→Prop),Inv X pins σ H s→RelV v u→t v σ H Q →
  wpAny (model X.prog X.w) X.A (assign target X.env u) (fun _ s'=>∃ σ' H',Inv X pins σ' H' s'∧Q σ' H') X.xe s
def PGs (X:Cx) (ts:List Expr) (t:TGs):Prop:=
 ∀ (pins:List (Addr×Obj)) (s:Shared) (σ:St) (H:Hp) (vs:List V) (us:List Value) (Q:St→Hp→Prop),Inv X pins σ H s→Vals vs us→t vs σ H Q →
  wpAny (model X.prog X.w) X.A (assignInOrder ((assignEach ts X.env).map (·.2)) us) (fun _ s'=>∃ σ' H',Inv X pins σ' H' s'∧Q σ' H') X.xe s
abbrev xY:=V→V→V→Hp→(Hp→Prop)→Prop
def BG (X:Cx) (t:xY):Prop:=
 ∀ (pins:List (Addr×Obj)) (s:Shared) (σ:St) (H:Hp) (o i v:V) (ov iv u:Value) (Q:Hp→Prop),Inv X pins σ H s→RelV o ov→RelV i iv→RelV v u→t o i v H Q →
  wpAny (model X.prog X.w) X.A (setItem ov iv u) (fun _ s'=>∃ H',Inv X pins σ H' s'∧Q H') X.xe s
abbrev TIp:=V→V→Hp→VK→Prop
def PIp (X:Cx) (op:Operator) (t:TIp):Prop:=
 ∀ (pins:List (Addr×Obj)) (s:Shared) (σ:St) (H:Hp) (x y:V) (v u:Value) (Q:VK),Inv X pins σ H s→RelV x v→RelV y u→t x y H Q →
  wpAny (model X.prog X.w) X.A (inplaceOp op v u) (EP X pins σ Q) X.xe s
section
variable {X:Cx} {pos:Pos}
def dk (i:Nat):TG:=fun v σ H Q=>Q (σ.set i (some v)) H
theorem bD {i:Nat} {x:Str} (hN:X.N.Nodup) (hi:X.N[i]? = some x) (hx:Loc X.env.scope x) (hf:X.fn x=true∨X.env.scope.names.lookup x=some .local:=by first | exact .inl rfl | exact .inr rfl | assumption):PG X (.Name x pos) (dk i):=by
 intro pins s σ H v u Q I r h
 exact wpAny_assign_Name (gs I hN hi hx r (fun s' I'=>⟨_,H,I',h⟩) hf)
def C9:TGs:=fun vs σ H Q=>vs=[]∧Q σ H
def Ck (t:TG) (u:TGs):TGs:=fun vs σ H Q=>∃ v r,vs=v :: r∧t v σ H fun σ' H'=>u r σ' H' Q
def Da (K:PySem.W.Frag) (n:Nat) (t:TGs):TG:=fun v σ H Q=>∃ a xs,v = .ref a∧SqT K H a xs∧xs.length=n∧t xs σ H Q
def BH (to ti:TE) (t:xY):TG:=fun v σ H Q=>to σ H fun o H1=>ti σ H1 fun i H2=>t o i v H2 fun H3=>Q σ H3
theorem xZ {o i:Expr} {to ti:TE} {t:xY} (ho:PE X o to) (hi:PE X i ti) (hs:BG X t)
  (ha:∀ v,assign (.Subscript o i pos) X.env v=(do
   let ov ← holding [v] (eval o X.env)
   let iv ← holding [v,ov] (eval i X.env)
   standAt pos
   holding [v,ov,iv] (setItem ov iv v)
   release [v,ov,iv] []):=by intro _;rfl):PG X (.Subscript o i pos) (BH to ti t):=by
 intro pins s σ H v u Q I r h
 rw [ha]
 refine wpAny_bind (wpAny_holding (thn (ho pins s σ H _ I h) fun ov s1 ⟨x,H1,I1,r1,q1⟩ => ?_))
 refine wpAny_bind (wpAny_holding (thn (hi pins s1 σ H1 _ I1 q1) fun iv s2 ⟨y,H2,I2,r2,q2⟩ => ?_))
 refine wpAny_bind (wpAny_standAt (wpAny_bind (wpAny_holding (thn (hs pins s2 σ H2 x y v ov iv u _ I2 r1 r2 r q2) fun _ s3 ⟨H3,I3,q3⟩ => ?_))))
 exact wpAny_release ⟨σ,H3,I3,q3⟩
def xO (te:TE) (g:TG):TS:=fun D σ H=>te σ H fun x H1=>g x σ H1 D.nx
theorem x3 {tg e:Expr} {te:TE} {g:TG} (he:PE X e te) (hg:PG X tg g) (hs:swapsWithSole [tg] e pos.line X.env=pure false:=by rfl) (hw:swappedStores [tg] e X.env=pure none:=by rfl)
  (h1:(assignEach [tg] X.env).map (·.2)=[assign tg X.env]:=by rfl):PS X (.Assign [tg] e pos) (xO te g):=by
 intro pins s σ H D I h
 refine wpAny_Assign_stores (thn (he pins s σ H _ I h) fun v s1 ⟨x,H1,I1,r1,q1⟩ => ?_) hs hw
 rw [h1]
 exact thn (hg pins s1 σ H1 x v _ I1 r1 q1) fun _ s2 q=>q
theorem az {i:Nat} {x:Str} {e:Expr} {te:TE} {pos':Pos} (hN:X.N.Nodup) (hi:X.N[i]? = some x) (hx:Loc X.env.scope x) (he:PE X e te) (hs:swapsWith e (some (.Name x pos')) pos.line X.env=pure false:=by rfl) (hf:X.fn x=true∨X.env.scope.names.lookup x=some .local:=by first | exact .inl rfl | exact .inr rfl | assumption) :
  PS X (.Assign [.Name x pos'] e pos) (xO te (dk i)):=by
 intro pins s σ H D I h
 refine wpAny_Assign_Name (thn (he pins s σ H _ I h) fun v s1 ⟨y,H1,I1,r1,q1⟩ => ?_) hs
 exact gs I1 hN hi hx r1 (fun s2 I2=>⟨_,H1,I2,q1⟩) hf
def Db (i j:Nat) (ta:TA):TS:=fun D σ H=>ta σ H fun vs H1=>∃ v w,vs=[v,w]∧D.nx ((σ.set i (some v)).set j (some w)) H1
def BI (i:Nat) (te:TE) (ti:TIp):TS:=fun D σ H=>∃ x,σ[i]? = some (some x)∧te σ H fun y H1=>ti x y H1 fun z H2=>D.nx (σ.set i (some z)) H2
theorem x5 {i:Nat} {x:Str} {e:Expr} {te:TE} {op:Operator} {ti:TIp} {pos':Pos} (hN:X.N.Nodup) (hi:X.N[i]? = some x) (hx:Loc X.env.scope x) (he:PE X e te) (ho:PIp X op ti) (hf:X.fn x=true∨X.env.scope.names.lookup x=some .local:=by first | exact .inl rfl | exact .inr rfl | assumption) :
  PS X (.AugAssign (.Name x pos') op e pos) (BI i te ti):=by
 intro pins s σ H D I h
 obtain ⟨v,e1,h⟩:=h
 obtain ⟨m,hn,hl⟩:=I.loc
 have vis:Vis X.env.scope x:=by rcases hx with k | k;exact .inl k;exact .inr (.inl k)
 obtain ⟨u,r,l⟩:=hl i x v hi e1 vis
 refine wpAny_AugAssign_Name ?_
 have go:wpAny (model X.prog X.w) X.A (eval e X.env) (fun w s₂=>wpAny (model X.prog X.w) X.A (inplaceOp op u w) (fun r s₃=>wpAny (model X.prog X.w) X.A (storeName X.env x r) (fun _=>SP X pins D .next) X.xe s₃) X.xe s₂) X.xe s:=by
  refine thn (he pins s σ H _ I h) fun w s1 ⟨y,H1,I1,r1,q1⟩ => ?_
  refine thn (ho pins s1 σ H1 v y u w _ I1 r r1 q1) fun z s2 ⟨zv,H2,I2,r2,q2⟩ => ?_
  exact gs I2 hN hi hx r2 (fun s3 I3=>⟨_,H2,I3,q2⟩) hf
 rcases l with ⟨hk,hm⟩ | ⟨hk,c,hc,hcell⟩
 ·exact wpAny_loadName_local I.ok.kind hk hn hm go
 ·rcases hk with hk | hk
  ·exact wpAny_loadName_cell I.ok.kind hk hc hcell go
  ·rcases hx with k | k
   ·have:X.env.scope.names.lookup x=some .free:=hk
    rw [k] at this;cases this
   ·have:X.env.scope.names.lookup x=some .free:=hk
    rw [k] at this;cases this
def Cl (to ti te:TE) (tget:V→V→Hp→VK→Prop) (tip:TIp) (tset:xY):TS:=fun D σ H=>to σ H fun o H1=>ti σ H1 fun i H2=>tget o i H2 fun x H3=>te σ H3 fun y H4=>tip x y H4 fun z H5=>tset o i z H5 fun H6=>D.nx σ H6
def Dc (X:Cx) (t:V→V→Hp→VK→Prop):Prop:=
 ∀ (pins:List (Addr×Obj)) (s:Shared) (σ:St) (H:Hp) (o i:V) (ov iv:Value) (Q:VK),Inv X pins σ H s→RelV o ov→RelV i iv→t o i H Q →
  wpAny (model X.prog X.w) X.A (getItem ov iv) (EP X pins σ Q) X.xe s
def ipI (f:Int→Int→Int):TIp:=fun x y H Q=>∃ i j,x = .int i∧y = .int j∧Q (.int (f i j)) H
theorem x6:PIp X .Add (ipI fun i j=>i+j):=by
 intro pins s σ H x y v u Q I r1 r2 h
 obtain ⟨i,j,e1,e2,q⟩:=h
 subst e1;subst e2
 obtain ⟨t,rfl⟩:=r1
 obtain ⟨t',rfl⟩:=r2
 exact iadd_int ⟨.int _,H,I.tok _,⟨_,rfl⟩,q⟩
end
section
variable {X:Cx} {pos:Pos}
def vn (c:TT) (tb:TS):TS:=fun D σ H=>∃ W:Nat→St→Hp→Prop,(∃ m,W m σ H)∧∀ m σ H,W m σ H →
 c σ H fun b H1=>if b=true then ∃ N:St→Hp→Prop,(∀ σ' H',N σ' H'→∃ m',m' < m∧W m' σ' H')∧tb {D with nx:=N,ct:=N,bk:=D.nx} σ H1 else D.nx σ H1
theorem ka {c:Expr} {body:List Stmt} {tc:TT} {tb:TS} (hp:PassesOwn (model X.prog X.w) X.A X.env X.xe) (hc:PT X c tc) (hb:PSs X body tb):PS X (.While c body [] pos) (vn tc tb):=by
 intro pins s σ H D I h
 obtain ⟨W,⟨m0,w0⟩,turn⟩:=h
 refine wpAny_While (codeAny_whileLoop (fun n s'=>∃ σ' H',Inv X pins σ' H' s'∧W n σ' H') ?_ m0 ⟨σ,H,I,w0⟩)
 rintro n s1 ⟨σ1,H1,I1,w1⟩
 refine wpAny_passesOwn hp (thn (hc pins s1 σ1 H1 _ I1 (turn n σ1 H1 w1)) fun b s2 ⟨H2,I2,q2⟩ => ?_)
 cases b with
 | true=>
  obtain ⟨N,hN,q2⟩:=q2
  rw [if_pos rfl]
  refine wpAny_passesOwn hp (thn (hb pins s2 σ1 H2 _ I2 q2) fun f s3 q3 => ?_)
  cases f with
  | next=>
   obtain ⟨σ3,H3,I3,n3⟩:=q3
   obtain ⟨m',hm,w3⟩:=hN σ3 H3 n3
   exact ⟨m',hm,σ3,H3,I3,w3⟩
  | cont=>
   obtain ⟨σ3,H3,I3,n3⟩:=q3
   obtain ⟨m',hm,w3⟩:=hN σ3 H3 n3
   exact ⟨m',hm,σ3,H3,I3,w3⟩
  | brk=>exact q3
  | ret v=>exact q3
 | false=>
  rw [if_neg Bool.false_ne_true]
  exact wpAny_execs_nil ⟨σ1,H2,I2,q2⟩
end
structure It where
 go:Nat→Hp→Prop
 yld:Nat→Hp→V→Hp→Prop
 stop:Nat→Hp→Prop
def qG (X:Cx) (pins:List (Addr×Obj)) (H:Hp) (b:Addr):Prop:=
 H b=none∧b≠X.env.locals∧b∉X.fs∧(b∈X.ex∨X.s₀.heap.objs.size≤b)∧(∀ x c,X.env.cells.lookup x=some c→c≠b)∧∀ p∈X.pn++pins,p.1≠b
theorem Inv.fpOk {X:Cx} {pins:List (Addr×Obj)} {σ:St} {H H':Hp} {s:Shared} {b:Addr} (I:Inv X pins σ H s) (hb:s.heap.objs.size≤b) (hn:H' b=none):qG X pins H' b:=by
 refine ⟨hn,Nat.ne_of_gt (Nat.lt_of_lt_of_le I.lt hb),I.nofs hb,.inr (Nat.le_trans I.sz hb),fun x c e z => ?_,fun p hp z => ?_⟩
 ·obtain ⟨v,q⟩:=I.cell x c e
  exact absurd (Nat.lt_of_lt_of_le q.lt (by rw [z];exact hb)) (Nat.lt_irrefl _)
 ·exact absurd (Nat.lt_of_lt_of_le (Heap.lt_size (I.pin p hp).1) (by rw [z];exact hb)) (Nat.lt_irrefl _)
structure Turn (P:Program) (w:World) (K:PySem.W.Frag) (tg:Expr) (J:It) (fp:List Addr) (it:Addr) (tn:Nat→Heap→Prop):Prop where
 mem:it∈fp
 obj:∀ i h,tn i h→∀ b∈fp,∃ o,h.get? b=some o∧∀ v,o.data ≠ .cell v
 keep:∀ i h h',tn i h→(∀ b∈fp,∀ o,h.get? b=some o→h'.get? b=some o)→tn i h'
 item:∀ (X:Cx),X.prog=P→X.w=w→X.K=K→X.calm=true→∀ (i:Nat) (pins:List (Addr×Obj)) (s:Shared) (σ:St) (H:Hp) (E:Value→Shared→Prop),Inv X pins σ H s→(∀ b∈fp,qG X pins H b)→tn i s.heap→J.go i H →
  wpAny (model P w) X.A (pyNext (.ref it)) (fun r s1=>∃ u,r=some u ∧
   wpAny (model P w) X.A (letOwnedTupleGo tg (.ref it) u) (fun _ s2=>∃ x H',Inv X pins σ H' s2∧RelV x u∧J.yld i H x H'∧tn (i+1) s2.heap∧∀ b∈fp,H' b=none) E s1) E s
 done:∀ (X:Cx),X.prog=P→X.w=w→X.K=K→X.calm=true→∀ (i:Nat) (pins:List (Addr×Obj)) (s:Shared) (σ:St) (H:Hp) (E:Value→Shared→Prop),Inv X pins σ H s→(∀ b∈fp,qG X pins H b)→tn i s.heap→J.stop i H →
  wpAny (model P w) X.A (pyNext (.ref it)) (fun r s1=>r=none∧Inv X pins σ H s1) E s
 self:∀ (A:Around) (i:Nat) (s:Shared) (Q:Value→Shared→Prop) (E:Value→Shared→Prop),tn i s.heap→Q (.ref it) s→wpAny (model P w) A (pyIter (.ref it)) Q E s
abbrev TI:=St→Hp→(It→Hp→Prop)→Prop
def PIE (X:Cx) (pins:List (Addr×Obj)) (σ:St) (tg:Expr) (R:It→Hp→Prop) (itv:Value) (s2:Shared):Prop:=
 ∃ (it:Addr) (fp:List Addr) (tn:Nat→Heap→Prop) (J:It) (H':Hp),itv = .ref it∧Inv X pins σ H' s2∧Turn X.prog X.w X.K tg J fp it tn∧tn 0 s2.heap∧(∀ b∈fp,qG X pins H' b)∧R J H'
def PI (X:Cx) (tg iter:Expr) (wi:TI):Prop:=
 ∀ (pins:List (Addr×Obj)) (s:Shared) (σ:St) (H:Hp) (R:It→Hp→Prop),Inv X pins σ H s→wi σ H R →
  wpAny (model X.prog X.w) X.A (eval iter X.env) (fun v s1=>wpAny (model X.prog X.w) X.A (pyIter v) (PIE X pins σ tg R) X.xe s1) X.xe s
theorem vU {M:Model} {A:Around} {E:Value→Shared→Prop} {s:Shared} {tg:Expr} {it:Addr} {u:Value} {o:Obj} {n:String} {vs:Array Value} {Q:Unit→Shared→Prop} (ho:s.heap.get? it=some o) (hc:o.cls = .type n) (hd:o.data = .fields vs)
  (hn:["enumerate", "zip", "dict_itemiterator", "dict_reverseitemiterator", "odict_iterator", "itertools.zip_longest", "itertools.pairwise"].contains n=false) (hQ:Q () s):wpAny M A (letOwnedTupleGo tg (.ref it) u) Q E s:=by
 unfold letOwnedTupleGo
 cases tg <;> first
  | exact wpAny_pure hQ
  | (cases u <;> first
    | exact wpAny_pure hQ
    | (
      refine wpAny_bind (wpAny_load ho ?_)
      rw [hc,hd]
      show wpAny M A (if (["enumerate", "zip", "dict_itemiterator", "dict_reverseitemiterator", "odict_iterator", "itertools.zip_longest", "itertools.pairwise"].contains n && vs[0]? == some (rawInt _))=true then _ else _) Q E s
      rw [if_neg (by intro h;rw [hn,Bool.false_and] at h;cases h)]
      exact wpAny_pure hQ))
def Itl (K:PySem.W.Frag) (a:Addr):It:=
 ⟨fun i H=>∃ xs x,SqL K H a xs∧xs[i]? = some x,fun i H x H'=>H'=H∧∀ xs,SqL K H a xs→xs[i]? = some x,fun i H=>∃ xs,SqL K H a xs∧xs.length≤i⟩
def Itt (K:PySem.W.Frag) (a:Addr):It:=
 ⟨fun i H=>∃ xs x,SqT K H a xs∧xs[i]? = some x,fun i H x H'=>H'=H∧∀ xs,SqT K H a xs→xs[i]? = some x,fun i H=>∃ xs,SqT K H a xs∧xs.length≤i⟩
def Itr (lo:Int) (n:Nat):It:=⟨fun i _=>i < n,fun i H x H'=>H'=H∧x = .int (lo+i),fun i _=>n≤i⟩
theorem qM {P:Program} {w:World} {K:PySem.W.Frag} {tg:Expr} (a it:Addr):Turn P w K tg (Itl K a) [it] it (fun i h=>h.IsListIter it a i) where
 mem:=by simp
 obj:=fun i h st b hb=>by
  have e:b=it:=by simpa using hb
  subst e
  obtain ⟨o,e,c,d⟩:=st
  exact ⟨o,e,fun v z=>by rw [d] at z;cases z⟩
 keep:=fun i h h' st k=>st.at fun o e=>k it (by simp) o e
 item:=by
  intro X hP hw hK hc i pins s σ H E I hf st hg
  subst hP hw hK
  obtain ⟨xs,x,hq,hx⟩:=hg
  obtain ⟨its,rv,p,hz⟩:=I.list hq
  obtain ⟨u,hu,ru⟩:=rv.get hx
  obtain ⟨f0,f1,f2,f3,f4,f5⟩:=hf it (by simp)
  refine wpAny_pyNext_list_item st p.isList (x:=u) (by simpa using hu) fun h' st' sb => ?_
  have I1:Inv X pins σ H {s with heap:=h'}:=I.turned (t':=s.toks) (fun b o hb e=>(sb.2 b hb).trans e) f0 f1 f3 f4 f5
  obtain ⟨o,e,c,d⟩:=id st'
  exact ⟨u,rfl,vU (s:={s with heap:=h'}) e c d (by decide) ⟨x,H,I1,ru,⟨rfl,fun ys hy=>by rw [I.list_inj hy hq];exact hx⟩,st',fun b hb=>(hf b hb).1⟩⟩
 done:=by
  intro X hP hw hK hc i pins s σ H E I hf st hg
  subst hP hw hK
  obtain ⟨xs,hq,hx⟩:=hg
  obtain ⟨its,rv,p,hz⟩:=I.list hq
  obtain ⟨f0,f1,f2,f3,f4,f5⟩:=hf it (by simp)
  have hl:=rv.length
  exact wpAny_pyNext_list_end (I.ok.hd hc) st p.isList (by simp;omega) fun h' eb=>⟨rfl,I.turned (t':=s.toks) (fun b o hb e=>eb b o hb e) f0 f1 f3 f4 f5⟩
 self:=fun _ _ _ _ _ st h=>wpAny_pyIter_listiter st h
theorem pG {P:Program} {w:World} {K:PySem.W.Frag} {tg:Expr} (it:Addr) (lo:Int) (n:Nat):Turn P w K tg (Itr lo n) [it] it (fun i h=>IsRangeIter h it (lo+(i:Nat) * 1) ((n:Int) - (i:Nat)) 1) where
 mem:=by simp
 obj:=fun i h st b hb=>by
  have e:b=it:=by simpa using hb
  subst e
  exact ⟨_,st,fun v z=>by
   have z':Data.fields _=Data.cell v:=z
   cases z'⟩
 keep:=fun i h h' st k=>k it (by simp) _ st
 item:=by
  intro X hP hw hK hc i pins s σ H E I hf st hg
  subst hP hw hK
  obtain ⟨f0,f1,f2,f3,f4,f5⟩:=hf it (by simp)
  have W:=Walks.range (prog:=X.prog) (w:=X.w) (I.ok.hd hc) it lo 1 n
  refine W.item i s _ _ hg st fun v h' tk hv st' kk => ?_
  obtain ⟨t,rfl⟩:=hv
  have I1:Inv X pins σ H {s with heap:=h',toks:=tk}:=I.turned (fun b o hb e=>kk b o (by simpa using hb) e) f0 f1 f3 f4 f5
  refine ⟨_,rfl,vU (s:={s with heap:=h',toks:=tk}) (n := "range_iterator") st' rfl rfl (by decide) ⟨.int (lo+i),H,I1,⟨t,?_⟩,⟨rfl,rfl⟩,st',fun b hb=>(hf b hb).1⟩⟩
  rw [Int.mul_one]
 done:=by
  intro X hP hw hK hc i pins s σ H E I hf st hg
  subst hP hw hK
  obtain ⟨f0,f1,f2,f3,f4,f5⟩:=hf it (by simp)
  exact wpAny_pyNext_range_end (I.ok.hd hc) st (by have:n≤i:=hg;omega) fun h' eb=>⟨rfl,I.turned (t':=s.toks) (fun b o hb e=>eb b o hb e) f0 f1 f3 f4 f5⟩
 self:=fun _ _ _ _ _ st h=>wpAny_pyIter_rangeiter st h
end L2
namespace L2
open PySem PySem.Spec PyProof.Rows
section
variable {X:Cx} {tg:Expr}
def t0 (K:PySem.W.Frag) (tl:TE):TI:=fun σ H R=>tl σ H fun x H1=>∃ a,x = .ref a∧(∃ xs,SqL K H1 a xs)∧R (Itl K a) H1
def De (K:PySem.W.Frag) (tl:TE):TI:=fun σ H R=>tl σ H fun x H1=>∃ a,x = .ref a∧(∃ xs,SqT K H1 a xs)∧R (Itt K a) H1
theorem vV {l:Expr} {tl:TE} (hl:PE X l tl):PI X tg l (t0 X.K tl):=by
 intro pins s σ H R I h
 refine thn (hl pins s σ H _ I h) fun v s1 ⟨x,H1,I1,r1,q1⟩ => ?_
 obtain ⟨a,e,⟨xs,hq⟩,q⟩:=q1
 subst e
 cases r1
 obtain ⟨its,rv,p,hz⟩:=I1.list hq
 refine wpAny_pyIter_list p.isList ?_
 refine ⟨s1.heap.objs.size,[s1.heap.objs.size],_,_,H1,rfl,I1.kept (t':=s1.toks) fun b o e=>Heap.get?_push_of_some _ e,qM a _,⟨_,Heap.get?_push_size _ rfl,rfl,rfl⟩,fun b hb => ?_,q⟩
 have e:b=s1.heap.objs.size:=by simpa using hb
 subst e
 exact I1.fpOk (Nat.le_refl _) (I1.hok.fresh (Nat.le_refl _))
theorem t4 {pins:List (Addr×Obj)} {σ:St} {H:Hp} {s:Shared} {R:It→Hp→Prop} {E:Value→Shared→Prop} {lo hi:Int} {t u v:Tok} {tk:Nat} (I:Inv X pins σ H s) (h1 : -(2 ^ 62)≤lo) (h2:lo < 2 ^ 62) (h3 : -(2 ^ 62)≤hi) (h4:hi < 2 ^ 62)
  (q:R (Itr lo (hi - lo).toNat) H):wpAny (model X.prog X.w) X.A (pyIter (.ref s.heap.objs.size)) (PIE X pins σ tg R) E {s with heap:=s.heap.push {cls := .type "range",data := .fields #[.int lo t,.int hi u,.int 1 v]},toks:=tk}:=by
 refine wpAny_pyIter_range (IsRange.new ..) (small_one h1 h2 h3 h4) ?_
 have I1:Inv X pins σ H {s with heap:=s.heap.push {cls := .type "range",data := .fields #[.int lo t,.int hi u,.int 1 v]},toks:=tk}:=I.kept fun b o e=>Heap.get?_push_of_some _ e
 refine ⟨(s.heap.push {cls := .type "range",data := .fields #[.int lo t,.int hi u,.int 1 v]}).objs.size,[(s.heap.push {cls := .type "range",data := .fields #[.int lo t,.int hi u,.int 1 v]}).objs.size],_,_,H,rfl,
  I1.kept (t':=tk) fun b o e=>Heap.get?_push_of_some _ e,pG _ lo (hi - lo).toNat,?_,fun b hb => ?_,q⟩
 ·have e1:lo+((0:Nat):Int) * 1=lo:=by simp
  have e2:(((hi - lo).toNat:Nat):Int) - ((0:Nat):Int)=Builtin.Range.rangeSize lo hi 1:=by rw [rangeSize_one];split <;> omega
  show IsRangeIter _ _ (lo+((0:Nat):Int) * 1) ((((hi - lo).toNat:Nat):Int) - ((0:Nat):Int)) 1
  rw [e1,e2]
  exact Heap.get?_push_size _ rfl
 ·have e:b=(s.heap.push {cls := .type "range",data := .fields #[.int lo t,.int hi u,.int 1 v]}).objs.size:=by simpa using hb
  subst e
  exact I1.fpOk (Nat.le_refl _) (I1.hok.fresh (Nat.le_refl _))
def vW (ta:TA):TI:=fun σ H R=>ta σ H fun vs H1=>∃ j:Int,vs=[.int j] ∧ -(2 ^ 62)≤j∧j < 2 ^ 62∧R (Itr 0 j.toNat) H1
def Cm (ta:TA):TI:=fun σ H R=>ta σ H fun vs H1=>∃ i j:Int,vs=[.int i,.int j]∧(-(2 ^ 62)≤i∧i < 2 ^ 62 ∧ -(2 ^ 62)≤j∧j < 2 ^ 62)∧R (Itr i (j - i).toNat) H1
theorem bN {a:Expr} {ta:TA} {p pos:Pos} (hg:Gl X "range") (hm:X.mg "range" = none) (ha:PA X [a] ta) (hs:starEach [a] X.env=[(false,eval a X.env)]:=by rfl):PI X tg (.Call (.Name "range" p) [a] [] pos) (vW ta):=by
 intro pins s σ H R I h
 refine Call_ (lg I hg hm boot_range (PyProof.Rows.callWith_type1 (thn (ha pos pins s σ H _ I h) fun us s1 ⟨vs,H1,I1,r1,q1⟩ => ?_) hs rfl))
 obtain ⟨j,e,q1,q2,q⟩:=q1
 subst e
 cases r1 with
 | cons r rr=>
  cases rr
  obtain ⟨t,rfl⟩:=r
  exact call_range_1 (t4 I1 (by omega) (by omega) q1 q2 (by simpa using q))
def Af (wi:TI) (g:TG) (tb:TS):TS:=fun D σ H=>wi σ H fun J H1=>∃ W:Nat→Nat→St→Hp→Prop,(∃ m,W 0 m σ H1)∧∀ i m σ H,W i m σ H →
 (J.stop i H∧D.nx σ H)∨(J.go i H∧∃ N:St→Hp→Prop,(∀ σ' H',N σ' H'→∃ m',m' < m∧W (i+1) m' σ' H')∧∀ x H',J.yld i H x H'→g x σ H' fun σ2 H2=>tb {D with nx:=N,ct:=N,bk:=D.nx} σ2 H2)
def jR (fp:List Addr) (h:Heap):List (Addr×Obj):=fp.filterMap fun b=>(h.get? b).map fun o=>(b,o)
theorem eH {fp:List Addr} {h:Heap} {b:Addr} {o:Obj} (hb:b∈fp) (e:h.get? b=some o):(b,o)∈jR fp h:=List.mem_filterMap.mpr ⟨b,hb,by rw [e];rfl⟩
theorem qN {fp:List Addr} {h:Heap} {p:Addr×Obj} (hp:p∈jR fp h):p.1∈fp∧h.get? p.1=some p.2:=by
 obtain ⟨b,hb,e⟩:=List.mem_filterMap.mp hp
 cases q:h.get? b with
 | none=>rw [q] at e;cases e
 | some o=>
  rw [q] at e
  have e':(b,o)=p:=Option.some.inj e
  subst e'
  exact ⟨hb,q⟩
theorem Inv.pinned {pins:List (Addr×Obj)} {σ:St} {H:Hp} {s:Shared} {fp:List Addr} (I:Inv X pins σ H s) (hf:∀ b∈fp,qG X pins H b) (ho:∀ b∈fp,∃ o,s.heap.get? b=some o∧∀ v,o.data ≠ .cell v):Inv X (pins++jR fp s.heap) σ H s:=
 I.pins_of fun p hp=>(List.mem_append.mp hp).elim (fun z=>I.pin p (List.mem_append_right _ z)) fun z=>by
  obtain ⟨hb,e⟩:=qN z
  obtain ⟨f0,f1,f2,_⟩:=hf p.1 hb
  obtain ⟨o,e',d⟩:=ho p.1 hb
  rw [e] at e';cases e'
  exact ⟨e,f0,f1,f2,d⟩
theorem Inv.unpinned {pins pl:List (Addr×Obj)} {σ:St} {H:Hp} {s:Shared} (I:Inv X (pins++pl) σ H s):Inv X pins σ H s:=I.pins_of fun p hp=>I.pin p (List.mem_append_right _ (List.mem_append_left _ hp))
theorem cg {iter:Expr} {body:List Stmt} {wi:TI} {g:TG} {tb:TS} {pos:Pos} (hp:PassesOwn (model X.prog X.w) X.A X.env X.xe) (hc:X.calm=true) (hi:PI X tg iter wi) (hg:PG X tg g) (hb:PSs X body tb)
  (hs:∀ x,foldedSetIterable iter X.env x=pure x:=by intro _;rfl):PS X (.For tg iter body [] pos) (Af wi g tb):=by
 intro pins s σ H D I h
 refine wpAny_For (thn (hi pins s σ H _ I h) fun v s1 h1=>thn h1 fun itv s2 h2 => ?_) hs
 obtain ⟨it,fp,tn,J,H2,e,I2,T,st2,f2,W,⟨m0,w0⟩,turn⟩:=h2
 subst e
 have stat:∀ {H':Hp},(∀ b∈fp,H' b=none)→∀ b∈fp,qG X pins H' b:=fun hn b hb=>⟨hn b hb,(f2 b hb).2⟩
 refine codeAny_forLoop_any (fun n s'=>∃ i σ' H',Inv X pins σ' H' s'∧tn i s'.heap∧(∀ b∈fp,H' b=none)∧W i n σ' H') ?_ m0 ⟨0,σ,H2,I2,st2,fun b hb=>(f2 b hb).1,w0⟩
 rintro n s3 ⟨i,σ3,H3,I3,st3,fr3,w3⟩
 rcases turn i n σ3 H3 w3 with ⟨stop,qn⟩ | ⟨go,N,hN,step⟩
 ·refine wpAny_passesOwn hp (thn (T.done X rfl rfl rfl hc i pins s3 σ3 H3 X.xe I3 (stat fr3) st3 stop) fun r s4 ⟨hr,I4⟩ => ?_)
  subst hr
  exact wpAny_execs_nil ⟨σ3,H3,I4,qn⟩
 ·refine wpAny_passesOwn hp (thn (T.item X rfl rfl rfl hc i pins s3 σ3 H3 X.xe I3 (stat fr3) st3 go) fun r s4 ⟨u,hr,h4⟩ => ?_)
  subst hr
  refine wpAny_passesOwn hp (thn h4 fun _ s5 ⟨x,H5,I5,r5,y5,st5,fr5⟩ => ?_)
  have I5':=I5.pinned (stat fr5) (T.obj _ _ st5)
  refine wpAny_passesOwn hp (thn (hg _ s5 σ3 H5 x u _ I5' r5 (step x H5 y5)) fun _ s6 ⟨σ6,H6,I6,q6⟩ => ?_)
  refine wpAny_passesOwn hp (thn (hb _ s6 σ6 H6 _ I6 q6) fun f s7 q7 => ?_)
  have again:∀ {σ7:St} {H7:Hp},Inv X (pins++jR fp s5.heap) σ7 H7 s7→N σ7 H7→∃ m,m < n∧∃ i σ' H',Inv X pins σ' H' s7∧tn i s7.heap∧(∀ b∈fp,H' b=none)∧W i m σ' H':=fun {σ7 H7} I7 n7=>by
   obtain ⟨m',hm,w7⟩:=hN σ7 H7 n7
   refine ⟨m',hm,i+1,σ7,H7,I7.unpinned,T.keep _ _ _ st5 fun b hb o e=>(I7.pin (b,o) (List.mem_append_right _ (List.mem_append_right _ (eH hb e)))).1,fun b hb => ?_,w7⟩
   obtain ⟨o,e,d⟩:=T.obj _ _ st5 b hb
   exact (I7.pin (b,o) (List.mem_append_right _ (List.mem_append_right _ (eH hb e)))).2.1
  cases f with
  | next=>obtain ⟨σ7,H7,I7,n7⟩:=q7;exact again I7 n7
  | cont=>obtain ⟨σ7,H7,I7,n7⟩:=q7;exact again I7 n7
  | brk=>obtain ⟨σ7,H7,I7,q7⟩:=q7;exact ⟨σ7,H7,I7.unpinned,q7⟩
  | ret v=>obtain ⟨x7,σ7,H7,I7,r7,q7⟩:=q7;exact ⟨x7,σ7,H7,I7.unpinned,r7,q7⟩
end
theorem t5 {K:PySem.W.Frag} {a:Addr} {xs:List V} {g:TG} {tb:TS} {D:Ends} {σ:St} {H:Hp} (Pv:Nat→St→Hp→Prop) (h0:Pv 0 σ H) (hl:∀ i σ H,i≤xs.length→Pv i σ H→SqL K H a xs)
  (hs:∀ i x σ H,xs[i]? = some x→Pv i σ H→g x σ H fun σ2 H2=>tb {D with nx:=Pv (i+1),ct:=Pv (i+1),bk:=D.nx} σ2 H2) (hd:∀ σ H,Pv xs.length σ H→D.nx σ H) :
  ∃ W:Nat→Nat→St→Hp→Prop,(∃ m,W 0 m σ H)∧∀ i m σ H,W i m σ H →
   ((Itl K a).stop i H∧D.nx σ H)∨((Itl K a).go i H∧∃ N:St→Hp→Prop,(∀ σ' H',N σ' H'→∃ m',m' < m∧W (i+1) m' σ' H')∧∀ x H',(Itl K a).yld i H x H'→g x σ H' fun σ2 H2=>tb {D with nx:=N,ct:=N,bk:=D.nx} σ2 H2):=by
 refine ⟨fun i m σ H=>m=xs.length - i∧i≤xs.length∧Pv i σ H,⟨xs.length,by simp,Nat.zero_le _,h0⟩,?_⟩
 rintro i m σ H ⟨rfl,hi,p⟩
 have q:=hl i σ H hi p
 by_cases hlt:i < xs.length
 ·refine .inr ⟨⟨xs,xs[i],q,by simp [hlt]⟩,Pv (i+1),fun σ' H' p'=>⟨xs.length - (i+1),by omega,rfl,hlt,p'⟩,fun x H' y => ?_⟩
  obtain ⟨e,y⟩:=y
  subst e
  exact hs i x σ _ (y xs q) p
 ·have e:i=xs.length:=by omega
  subst e
  exact .inl ⟨⟨xs,q,Nat.le_refl _⟩,hd σ H p⟩
theorem qO {lo:Int} {n:Nat} {g:TG} {tb:TS} {D:Ends} {σ:St} {H:Hp} (Pv:Nat→St→Hp→Prop) (h0:Pv 0 σ H)
  (hs:∀ i σ H,i < n→Pv i σ H→g (.int (lo+i)) σ H fun σ2 H2=>tb {D with nx:=Pv (i+1),ct:=Pv (i+1),bk:=D.nx} σ2 H2) (hd:∀ σ H,Pv n σ H→D.nx σ H) :
  ∃ W:Nat→Nat→St→Hp→Prop,(∃ m,W 0 m σ H)∧∀ i m σ H,W i m σ H →
   ((Itr lo n).stop i H∧D.nx σ H)∨((Itr lo n).go i H∧∃ N:St→Hp→Prop,(∀ σ' H',N σ' H'→∃ m',m' < m∧W (i+1) m' σ' H')∧∀ x H',(Itr lo n).yld i H x H'→g x σ H' fun σ2 H2=>tb {D with nx:=N,ct:=N,bk:=D.nx} σ2 H2):=by
 refine ⟨fun i m σ H=>m=n - i∧i≤n∧Pv i σ H,⟨n,by simp,Nat.zero_le _,h0⟩,?_⟩
 rintro i m σ H ⟨rfl,hi,p⟩
 by_cases hlt:i < n
 ·refine .inr ⟨hlt,Pv (i+1),fun σ' H' p'=>⟨n - (i+1),by omega,rfl,hlt,p'⟩,fun x H' y => ?_⟩
  obtain ⟨e,y⟩:=y
  subst e y
  exact hs i σ _ hlt p
 ·have e:i=n:=by omega
  subst e
  exact .inl ⟨Nat.le_refl _,hd σ H p⟩
theorem oC {c:TT} {tb:TS} {D:Ends} {σ:St} {H:Hp} (Pv:St→Hp→Prop) (μ:St→Hp→Nat) (h0:Pv σ H)
  (hs:∀ σ H,Pv σ H→c σ H fun b H1=>if b=true then tb {D with nx:=fun σ' H'=>Pv σ' H'∧μ σ' H' < μ σ H,ct:=fun σ' H'=>Pv σ' H'∧μ σ' H' < μ σ H,bk:=D.nx} σ H1 else D.nx σ H1)
  (mono:∀ σ H Q Q',(∀ b H1,Q b H1→Q' b H1)→c σ H Q→c σ H Q'):vn c tb D σ H:=by
 refine ⟨fun m σ H=>m=μ σ H∧Pv σ H,⟨_,rfl,h0⟩,?_⟩
 rintro m σ H ⟨rfl,p⟩
 refine mono σ H _ _ (fun b H1 q => ?_) (hs σ H p)
 cases b with
 | true=>exact ⟨_,fun σ' H' ⟨p',l⟩=>⟨_,l,rfl,p'⟩,q⟩
 | false=>exact q
end L2
namespace L2
open PySem PySem.Spec PyProof.Rows
abbrev R2:=V→V→Hp→VK→Prop
def OpR (X:Cx) (f:Value→Value→Sem Value) (r:R2):Prop:=
 ∀ (pins:List (Addr×Obj)) (s:Shared) (σ:St) (H:Hp) (x y:V) (v u:Value) (Q:VK),Inv X pins σ H s→RelV x v→RelV y u→r x y H Q →
  wpAny (model X.prog X.w) X.A (f v u) (EP X pins σ Q) X.xe s
def UnR (X:Cx) (f:Value→Sem Value) (r:V→Hp→VK→Prop):Prop:=
 ∀ (pins:List (Addr×Obj)) (s:Shared) (σ:St) (H:Hp) (x:V) (v:Value) (Q:VK),Inv X pins σ H s→RelV x v→r x H Q →
  wpAny (model X.prog X.w) X.A (f v) (EP X pins σ Q) X.xe s
def dm (X:Cx) (f:Value) (r:List V→Hp→VK→Prop):Prop:=
 ∀ (pins:List (Addr×Obj)) (s:Shared) (σ:St) (H:Hp) (xs:List V) (us:List Value) (Q:VK),Inv X pins σ H s→Vals xs us→r xs H Q →
  wpAny (model X.prog X.w) X.A (call f us) (EP X pins σ Q) X.xe s
def Cn (X:Cx) (r:V→Hp→(Bool→Hp→Prop)→Prop):Prop:=
 ∀ (pins:List (Addr×Obj)) (s:Shared) (σ:St) (H:Hp) (x:V) (v:Value) (Q:Bool→Hp→Prop),Inv X pins σ H s→RelV x v→r x H Q →
  wpAny (model X.prog X.w) X.A (truthy v) (TP X pins σ Q) X.xe s
def tOp (r:R2) (ta tb:TE):TE:=fun σ H Q=>ta σ H fun x H1=>tb σ H1 fun y H2=>r x y H2 Q
def tUn (r:V→Hp→VK→Prop) (ta:TE):TE:=fun σ H Q=>ta σ H fun x H1=>r x H1 Q
def rI (C:Int→Int→Prop) (g:Int→Int→V):R2:=fun x y H Q=>∃ i j,x = .int i∧y = .int j∧C i j∧Q (g i j) H
def rI0 (g:Int→Int→V):R2:=fun x y H Q=>∃ i j,x = .int i∧y = .int j∧Q (g i j) H
def rU (g:Int→V):V→Hp→VK→Prop:=fun x H Q=>∃ i,x = .int i∧Q (g i) H
section
variable {X:Cx} {a b c:Expr} {ta tb tc:TE} {pos:Pos}
theorem Ag (ha:PE X a ta) (hb:PE X b tb) {pins:List (Addr×Obj)} {s:Shared} {σ:St} {H:Hp} {R:V→V→Hp→Prop} (I:Inv X pins σ H s)
  (h:ta σ H fun x H1=>tb σ H1 fun y H2=>R x y H2) {Q:Value→Shared→Prop} {f:Value→Value→Sem Value}
  (hf:∀ v u s2 x y H2,Inv X pins σ H2 s2→RelV x v→RelV y u→R x y H2→wpAny (model X.prog X.w) X.A (f v u) Q X.xe s2) :
  wpAny (model X.prog X.w) X.A (eval a X.env) (fun v s₁=>wpAny (model X.prog X.w) X.A (eval b X.env) (fun u s₂=>wpAny (model X.prog X.w) X.A (f v u) Q X.xe s₂) X.xe s₁) X.xe s:=by
 refine thn (ha pins s σ H _ I h) fun v s1 ⟨x,H1,I1,r1,q1⟩ => ?_
 refine thn (hb pins s1 σ H1 _ I1 q1) fun u s2 ⟨y,H2,I2,r2,q2⟩ => ?_
 exact hf v u s2 x y H2 I2 r1 r2 q2
theorem av {op:Operator} {r:R2} (ho:OpR X (binaryOp op) r) (ha:PE X a ta) (hb:PE X b tb):PE X (.BinOp a op b pos) (tOp r ta tb):=by
 intro pins s σ H Q I h
 exact wpAny_BinOp (Ag ha hb I h fun v u s2 x y H2 I2 rx ry q=>ho pins s2 σ H2 x y v u Q I2 rx ry q)
theorem t6 {op:UnaryOp} {r:V→Hp→VK→Prop} (ho:UnR X (unaryOp op) r) (ha:PE X a ta):PE X (.UnaryOp op a pos) (tUn r ta):=by
 intro pins s σ H Q I h
 exact UnaryOp_ (thn (ha pins s σ H _ I h) fun v s1 ⟨x,H1,I1,r1,q1⟩=>ho pins s1 σ H1 x v Q I1 r1 q1)
theorem opI {f:Value→Value→Sem Value} {C:Int→Int→Prop} {g:Int→Int→Int}
  (rule:∀ (i j:Int) (t u:Tok) (s:Shared) (Q:Value→Shared→Prop) (E:Value→Shared→Prop),C i j→Q (.int (g i j) s.toks) {s with toks:=s.toks+1}→wpAny (model X.prog X.w) X.A (f (.int i t) (.int j u)) Q E s) :
  OpR X f (rI C fun i j => .int (g i j)):=by
 intro pins s σ H x y v u Q I rx ry h
 obtain ⟨i,j,rfl,rfl,hc,q⟩:=h
 obtain ⟨t,rfl⟩:=rx
 obtain ⟨t',rfl⟩:=ry
 exact rule i j t t' s _ _ hc ⟨.int (g i j),H,I.tok _,⟨_,rfl⟩,q⟩
theorem zT {f:Value→Value→Sem Value} {g:Int→Int→Int}
  (rule:∀ (i j:Int) (t u:Tok) (s:Shared) (Q:Value→Shared→Prop) (E:Value→Shared→Prop),Q (.int (g i j) s.toks) {s with toks:=s.toks+1}→wpAny (model X.prog X.w) X.A (f (.int i t) (.int j u)) Q E s) :
  OpR X f (rI0 fun i j => .int (g i j)):=by
 intro pins s σ H x y v u Q I rx ry h
 obtain ⟨i,j,rfl,rfl,q⟩:=h
 obtain ⟨t,rfl⟩:=rx
 obtain ⟨t',rfl⟩:=ry
 exact rule i j t t' s _ _ ⟨.int (g i j),H,I.tok _,⟨_,rfl⟩,q⟩
theorem zU {f:Value→Value→Sem Value} {g:Int→Int→Bool}
  (rule:∀ (i j:Int) (t u:Tok) (s:Shared) (Q:Value→Shared→Prop) (E:Value→Shared→Prop),Q (.bool (g i j)) s→wpAny (model X.prog X.w) X.A (f (.int i t) (.int j u)) Q E s) :
  OpR X f (rI0 fun i j => .bl (g i j)):=by
 intro pins s σ H x y v u Q I rx ry h
 obtain ⟨i,j,rfl,rfl,q⟩:=h
 obtain ⟨t,rfl⟩:=rx
 obtain ⟨t',rfl⟩:=ry
 exact rule i j t t' s _ _ ⟨.bl (g i j),H,I,rfl,q⟩
def Co (i j:Int):Prop:=0 < j∧j < 1073741824
def Cq (i j:Int):Prop:=j≠0∧j.natAbs < 1073741824
def Cr (i j:Int):Prop:=0≤j∧j≤1000000∧i.natAbs < 2 ^ 64
def CMul (i j:Int):Prop:=(-(2 ^ 64) < i∧i < 2 ^ 64)∨(-(2 ^ 64) < j∧j < 2 ^ 64)
theorem CMul.ok {i j:Int} (h:CMul i j):IntMulOk i j:=by
 rcases h with ⟨h1,h2⟩ | ⟨h1,h2⟩
 ·exact .of_left (intBits_le_64 h1 h2)
 ·exact .of_right (intBits_le_64 h1 h2)
theorem pH (k:Nat):(0:Int)≤2 ^ k:=by
 rw [two_pow_cast]
 exact Int.natCast_nonneg _
theorem bA:OpR X (binaryOp .Add) (rI0 fun i j => .int (i+j)):=zT fun _ _ _ _ _ _ _ q=>add_int q
theorem dH:OpR X (binaryOp .Sub) (rI0 fun i j => .int (i - j)):=zT fun _ _ _ _ _ _ _ q=>sub_int q
theorem gu:OpR X (binaryOp .Mult) (rI CMul fun i j => .int (i * j)):=opI fun _ _ _ _ _ _ _ hc q=>mul_int q hc.ok
theorem dO:OpR X (binaryOp .FloorDiv) (rI Co fun i j => .int (i / j)):=opI fun i j _ _ _ _ _ hc q=>by
 have h1:(0:Int) < j:=hc.1
 have h2:j < 1073741824:=hc.2
 exact floordiv_int (by omega) (by rw [Int.fdiv_eq_ediv_of_nonneg i (by omega)];exact q) (.inl (PyProof.noPylong_small (by omega)))
theorem bQ:OpR X (binaryOp .Mod) (rI (fun _ j=>0 < j) fun i j => .int (i % j)):=opI fun i j _ _ _ _ _ hc q=>by
 have h1:(0:Int) < j:=hc
 exact mod_int' (by omega) (by rw [Int.fmod_eq_emod_of_nonneg i (by omega)];exact q)
theorem x9:OpR X (binaryOp .LShift) (rI Cr fun i j => .int (i * 2 ^ j.toNat)):=opI fun _ _ _ _ _ _ _ hc q=>lshift_int_small hc.1 hc.2.1 hc.2.2 q
theorem vo:OpR X (binaryOp .RShift) (rI (fun _ j=>0≤j) fun i j => .int (i / 2 ^ j.toNat)):=opI fun i j _ _ _ _ _ hc q=>
 rshift_int hc (by rw [Int.fdiv_eq_ediv_of_nonneg i (pH _)];exact q)
theorem vp:OpR X (binaryOp .BitAnd) (rI0 fun i j => .int (Builtin.bitAnd i j)):=zT fun _ _ _ _ _ _ _ q=>and_int q
theorem ya:OpR X (binaryOp .BitXor) (rI0 fun i j => .int (Builtin.bitXor i j)):=zT fun _ _ _ _ _ _ _ q=>xor_int q
theorem unI {f:Value→Sem Value} {g:Int→Int}
  (rule:∀ (i:Int) (t:Tok) (s:Shared) (Q:Value→Shared→Prop) (E:Value→Shared→Prop),Q (.int (g i) s.toks) {s with toks:=s.toks+1}→wpAny (model X.prog X.w) X.A (f (.int i t)) Q E s) :
  UnR X f (rU fun i => .int (g i)):=by
 intro pins s σ H x v Q I rx h
 obtain ⟨i,rfl,q⟩:=h
 obtain ⟨t,rfl⟩:=rx
 exact rule i t s _ _ ⟨.int (g i),H,I.tok _,⟨_,rfl⟩,q⟩
theorem oE:UnR X (unaryOp .USub) (rU fun i => .int (-i)):=unI fun _ _ _ _ _ q=>neg_int q
end
def BJ:V→V→Bool
 | .non,.non=>true | .non,.int _=>true | .int _,.non=>true | .non,.bl _=>true | .bl _,.non=>true | .non,.str _=>true | .str _,.non=>true
 | .int _,.int _=>true | .bl _,.bl _=>true | .str _,.str _=>true | .byt _,.byt _=>true
 | .int _,.str _=>true | .str _,.int _=>true | .bl _,.str _=>true | .str _,.bl _=>true
 | _,_=>false
def rEq:R2:=fun x y H Q=>BJ x y=true∧Q (.bl (decide (x=y))) H
def rNe:R2:=fun x y H Q=>BJ x y=true∧Q (.bl (!decide (x=y))) H
theorem kc {i j:Int}:decide (V.int i=V.int j)=(i == j):=by
 rw [Bool.eq_iff_iff]
 simp
theorem vq {i j:Bool}:decide (V.bl i=V.bl j)=(i == j):=by
 rw [Bool.eq_iff_iff]
 simp
theorem qP {i j:Str}:decide (V.str i=V.str j)=(i == j):=by
 rw [Bool.eq_iff_iff]
 simp
theorem qQ {i j:Array UInt8}:decide (V.byt i=V.byt j)=(i.toList == j.toList):=by
 rw [Bool.eq_iff_iff]
 cases i
 cases j
 simp
section
variable {X:Cx} {a b c:Expr} {ta tb tc:TE} {pos:Pos}
theorem aZ {pins:List (Addr×Obj)} {σ:St} {H:Hp} {s:Shared} {Q:VK} {k k':Bool} (I:Inv X pins σ H s) (q:Q (.bl k) H) (e:k=k'):EP X pins σ Q (.bool k') s:=by
 subst e
 exact ⟨.bl k,H,I,rfl,q⟩
theorem b9:OpR X (compareOp .Eq) rEq:=by
 intro pins s σ H x y v u Q I rx ry h
 obtain ⟨hs,q⟩:=h
 cases x with
 | non=>
  cases rx
  cases y with
  | non=>cases ry;exact PySem.EqNone.eq_none_none (aZ I q (by simp))
  | bl j=>cases ry;exact PySem.EqNone.eq_none_bool (aZ I q (by simp))
  | int j=>obtain ⟨t',rfl⟩:=ry;exact PySem.EqNone.eq_none_int (aZ I q (by simp))
  | str j=>obtain ⟨t',rfl⟩:=ry;exact PySem.EqNone.eq_none_str (aZ I q (by simp))
  | _=>exact absurd (show false=true from hs) Bool.false_ne_true
 | bl i=>
  cases rx
  cases y with
  | non=>cases ry;exact PySem.EqNone.eq_bool_none (aZ I q (by simp))
  | bl j=>cases ry;exact eq_bool (aZ I q vq)
  | str j=>obtain ⟨t',rfl⟩:=ry;exact PySem.EqMixed.eq_bool_str (aZ I q (by simp))
  | _=>exact absurd (show false=true from hs) Bool.false_ne_true
 | int i=>
  obtain ⟨t,rfl⟩:=rx
  cases y with
  | non=>cases ry;exact PySem.EqNone.eq_int_none (aZ I q (by simp))
  | int j=>obtain ⟨t',rfl⟩:=ry;exact eq_int (aZ I q kc)
  | str j=>obtain ⟨t',rfl⟩:=ry;exact PySem.EqMixed.eq_int_str (aZ I q (by simp))
  | _=>exact absurd (show false=true from hs) Bool.false_ne_true
 | str i=>
  obtain ⟨t,rfl⟩:=rx
  cases y with
  | non=>cases ry;exact PySem.EqNone.eq_str_none (aZ I q (by simp))
  | bl j=>cases ry;exact PySem.EqMixed.eq_str_bool (aZ I q (by simp))
  | int j=>obtain ⟨t',rfl⟩:=ry;exact PySem.EqMixed.eq_str_int (aZ I q (by simp))
  | str j=>obtain ⟨t',rfl⟩:=ry;exact eq_str (aZ I q qP)
  | _=>exact absurd (show false=true from hs) Bool.false_ne_true
 | byt i=>
  obtain ⟨t,rfl⟩:=rx
  cases y with
  | byt j=>obtain ⟨t',rfl⟩:=ry;exact PySem.W.eq_bytes (aZ I q qQ)
  | _=>exact absurd (show false=true from hs) Bool.false_ne_true
 | _=>cases y <;> exact absurd (show false=true from hs) Bool.false_ne_true
theorem mY:OpR X (compareOp .NotEq) rNe:=by
 intro pins s σ H x y v u Q I rx ry h
 obtain ⟨hs,q⟩:=h
 cases x with
 | non=>
  cases rx
  cases y with
  | non=>cases ry;exact PySem.EqNone.ne_none_none (aZ I q (by simp))
  | bl j=>cases ry;exact PySem.EqNone.ne_none_bool (aZ I q (by simp))
  | int j=>obtain ⟨t',rfl⟩:=ry;exact PySem.EqNone.ne_none_int (aZ I q (by simp))
  | str j=>obtain ⟨t',rfl⟩:=ry;exact PySem.EqNone.ne_none_str (aZ I q (by simp))
  | _=>exact absurd (show false=true from hs) Bool.false_ne_true
 | bl i=>
  cases rx
  cases y with
  | non=>cases ry;exact PySem.EqNone.ne_bool_none (aZ I q (by simp))
  | bl j=>cases ry;exact ne_bool (aZ I q (congrArg not vq))
  | str j=>obtain ⟨t',rfl⟩:=ry;exact PySem.EqMixed.ne_bool_str (aZ I q (by simp))
  | _=>exact absurd (show false=true from hs) Bool.false_ne_true
 | int i=>
  obtain ⟨t,rfl⟩:=rx
  cases y with
  | non=>cases ry;exact PySem.EqNone.ne_int_none (aZ I q (by simp))
  | int j=>obtain ⟨t',rfl⟩:=ry;exact ne_int (aZ I q (congrArg not kc))
  | str j=>obtain ⟨t',rfl⟩:=ry;exact PySem.EqMixed.ne_int_str (aZ I q (by simp))
  | _=>exact absurd (show false=true from hs) Bool.false_ne_true
 | str i=>
  obtain ⟨t,rfl⟩:=rx
  cases y with
  | non=>cases ry;exact PySem.EqNone.ne_str_none (aZ I q (by simp))
  | bl j=>cases ry;exact PySem.EqMixed.ne_str_bool (aZ I q (by simp))
  | int j=>obtain ⟨t',rfl⟩:=ry;exact PySem.EqMixed.ne_str_int (aZ I q (by simp))
  | str j=>obtain ⟨t',rfl⟩:=ry;exact ne_str (aZ I q (congrArg not qP))
  | _=>exact absurd (show false=true from hs) Bool.false_ne_true
 | byt i=>
  obtain ⟨t,rfl⟩:=rx
  cases y with
  | byt j=>obtain ⟨t',rfl⟩:=ry;exact PySem.W.ne_bytes (aZ I q (congrArg not qQ))
  | _=>exact absurd (show false=true from hs) Bool.false_ne_true
 | _=>cases y <;> exact absurd (show false=true from hs) Bool.false_ne_true
theorem kd:OpR X (compareOp .Lt) (rI0 fun i j => .bl (decide (i < j))):=zU fun _ _ _ _ _ _ _ q=>lt_int q
theorem vX:OpR X (compareOp .LtE) (rI0 fun i j => .bl (decide (i≤j))):=zU fun _ _ _ _ _ _ _ q=>le_int q
theorem mZ:OpR X (compareOp .Gt) (rI0 fun i j => .bl (decide (j < i))):=zU fun _ _ _ _ _ _ _ q=>gt_int q
theorem t7:OpR X (compareOp .GtE) (rI0 fun i j => .bl (decide (j≤i))):=zU fun _ _ _ _ _ _ _ q=>ge_int q
theorem yb:OpR X (compareOp .Is) (fun x y H Q=>y = .non∧Q (.bl (decide (x = .non))) H):=by
 intro pins s σ H x y v u Q I rx ry h
 obtain ⟨rfl,q⟩:=h
 cases ry
 refine is_none_gen (aZ I q ?_)
 cases x <;> first
  | (cases rx;rfl)
  | (obtain ⟨t,rfl⟩:=rx;rfl)
theorem vY:OpR X (compareOp .IsNot) (fun x y H Q=>y = .non∧Q (.bl (!decide (x = .non))) H):=by
 intro pins s σ H x y v u Q I rx ry h
 obtain ⟨rfl,q⟩:=h
 cases ry
 refine isnot_none_gen (aZ I q ?_)
 cases x <;> first
  | (cases rx;rfl)
  | (obtain ⟨t,rfl⟩:=rx;rfl)
def Ct:HO→Bool
 | .lst _=>true
 | .ins _ _ _=>true
 | _=>false
theorem au (b:Expr) {op:CmpOp} (h:op ≠ .In:=by decide) (h2:op ≠ .NotIn:=by decide):behindInMarks op b=false:=by
 have e1:(op == CmpOp.In)=false:=by cases op <;> first | rfl | exact absurd rfl h
 have e2:(op == CmpOp.NotIn)=false:=by cases op <;> first | rfl | exact absurd rfl h2
 cases b <;> simp [behindInMarks,e1,e2]
theorem cb {op:CmpOp} {r:R2} (ho:OpR X (compareOp op) r) (ha:PE X a ta) (hb:PE X b tb) (hm:behindInMarks op b=false):PE X (.Compare a [op] [b] pos) (tOp r ta tb):=by
 intro pins s σ H Q I h
 exact wpAny_Compare1 (Ag ha hb I h fun v u s2 x y H2 I2 rx ry q=>ho pins s2 σ H2 x y v u Q I2 rx ry q) hm
def pI (t:TE):TT:=fun σ H Q=>t σ H fun x H'=>∃ k,x = .bl k∧Q k H'
theorem aq {op:CmpOp} {r:R2} (ho:OpR X (compareOp op) r) (ha:PE X a ta) (hb:PE X b tb) (hm:behindInMarks op b=false):PT X (.Compare a [op] [b] pos) (pI (tOp r ta tb)):=by
 intro pins s σ H Q I h
 refine wpAny_isTrue_Compare1 (thn (ha pins s σ H _ I h) fun v s1 ⟨x,H1,I1,r1,q1⟩=>thn (hb pins s1 σ H1 _ I1 q1) fun u s2 ⟨y,H2,I2,r2,q2⟩=>
  thn (ho pins s2 σ H2 x y v u _ I2 r1 r2 q2) fun c s3 ⟨z,H3,I3,r3,k,e,q3⟩ => ?_) hm
 subst e
 cases r3
 exact wpAny_truthy_bool ⟨H3,I3,q3⟩
def BK (r r':R2) (ta tb tc:TE):TE:=fun σ H Q=>ta σ H fun x H1=>tb σ H1 fun y H2=>r x y H2 fun z H3=>∃ k,z = .bl k ∧
 (if k=true then tc σ H3 fun w' H4=>r' y w' H4 Q else Q (.bl false) H3)
def Ah (K:PySem.W.Frag) (x:V) (H:Hp) (k:Bool):Prop:=
 match x with
 | .non=>k=false
 | .bl b=>k=b
 | .int i=>k=(i != 0)
 | .str y=>y.length≤sizeLine∧k=((y.length:Int) != 0)
 | .byt y=>y.size≤sizeLine∧k=((y.size:Int) != 0)
 | .ref p=>(∃ xs,SqL K H p xs∧k = !xs.isEmpty)∨(∃ xs,SqT K H p xs∧k = !xs.isEmpty)∨∃ kvs,H p=some (.dK kvs)∧k = !kvs.isEmpty
 | _=>False
theorem pJ {κ:Type} {kvs:List (κ×V)} {vs:List (κ×Value)} (r:KV kvs vs):(!vs.isEmpty) = !kvs.isEmpty:=by
 cases r <;> rfl
theorem jS {xs:List V} {its:List Value} (r:Vals xs its):(!its.toArray.isEmpty) = !xs.isEmpty:=by
 cases r <;> simp
theorem lh:(sizeLine:Nat) < 2 ^ 63:=by rw [sizeLine_eq];decide
theorem yc:Cn X (fun x H Q=>∃ k,Ah X.K x H k∧Q k H):=by
 intro pins s σ H x v Q I rx h
 obtain ⟨k,e,q⟩:=h
 have hl:=lh
 have hs:sizeLine=16777216:=sizeLine_eq
 cases x with
 | non=>
  cases rx
  have e':k=false:=e
  subst e'
  exact truthy_none ⟨H,I,q⟩
 | bl b=>
  cases rx
  have e':k=b:=e
  subst e'
  exact wpAny_truthy_bool ⟨H,I,q⟩
 | int i=>
  obtain ⟨t,rfl⟩:=rx
  have e':k=(i != 0):=e
  subst e'
  exact PySem.P.truthy_int ⟨H,I,q⟩
 | str y=>
  obtain ⟨t,rfl⟩:=rx
  obtain ⟨hy,e'⟩:y.length≤sizeLine∧k=((y.length:Int) != 0):=e
  subst e'
  exact PySem.P.truthy_str (by omega) ⟨H,I.tok _,q⟩
 | byt y=>
  obtain ⟨t,rfl⟩:=rx
  obtain ⟨hy,e'⟩:y.size≤sizeLine∧k=((y.size:Int) != 0):=e
  subst e'
  exact PySem.W.truthy_bytes (by omega) ⟨H,I.tok _,q⟩
 | ref p=>
  cases rx
  have e':(∃ xs,SqL X.K H p xs∧k = !xs.isEmpty)∨(∃ xs,SqT X.K H p xs∧k = !xs.isEmpty)∨∃ kvs,H p=some (.dK kvs)∧k = !kvs.isEmpty:=e
  rcases e' with ⟨xs,hx,e'⟩ | ⟨xs,hx,e'⟩ | ⟨kvs,hx,e'⟩
  ·subst e'
   obtain ⟨its,r,pl,hz⟩:=I.list hx
   have hlen:=r.length
   exact wpAny_truthy_list pl.isList (by simp only [List.size_toArray];omega) ⟨H,I.tok _,by rw [jS r];exact q⟩
  ·subst e'
   obtain ⟨its,r,pl,hz⟩:=I.tuple hx
   have hlen:=r.length
   exact truthy_tuple pl (by simp only [List.size_toArray];omega) ⟨H,I.tok _,by rw [jS r];exact q⟩
  ·subst e'
   obtain ⟨hz,hS,vs,r,m⟩:kvs.length≤sizeLine∧(p == sysModules)=false∧∃ vs,KV kvs vs∧s.heap.DictOf (cV X.prog X.w) p vs:=I.hok p _ hx
   have hlen:kvs.length=vs.length:=Paired.length r
   exact wpAny_truthy_dict hS m (by omega) ⟨H,I.tok _,by rw [pJ r];exact q⟩
 | _=>exact (show False from e).elim
theorem t8 (ha:PE X a ta) (he:∀ whole,isTrue a X.env whole=(do let v ← whole;standAt a.pos;holding [v] (truthy v))) :
  PT X a (fun σ H Q=>ta σ H fun x H'=>∃ k,Ah X.K x H' k∧Q k H'):=by
 intro pins s σ H Q I h
 exact isTrue_plain (thn (ha pins s σ H _ I h) fun v s1 ⟨x,H1,I1,r1,q1⟩=>yc pins s1 σ H1 x v Q I1 r1 q1) (he _)
def zV (b:Expr):Prop:=∀ o i,subscripted b false o i=operate [o,i] (getItem o i)
theorem ke {x:V} {us:List Value} (r:Vals [x] us):∃ u,us=[u]∧RelV x u:=by
 cases r with
 | cons r1 r2=>cases r2;exact ⟨_,rfl,r1⟩
theorem yd {x y:V} {us:List Value} (r:Vals [x,y] us):∃ u w',us=[u,w']∧RelV x u∧RelV y w':=by
 cases r with
 | cons r1 r2=>
  cases r2 with
  | cons r3 r4=>cases r4;exact ⟨_,_,rfl,r1,r3⟩
def Df (K:PySem.W.Frag) (x:V) (H:Hp) (n:Nat):Prop:=
 match x with
 | .str y=>y.length≤sizeLine∧n=y.length
 | .byt y=>y.size≤sizeLine∧n=y.size
 | .ref p=>(∃ xs,SqL K H p xs∧n=xs.length)∨∃ xs,SqT K H p xs∧n=xs.length
 | _=>False
end
end L2
namespace L2
open PySem PySem.Spec PyProof.Rows
structure ObjM (h:Heap) (x dx C:Addr) (mA:Str→Option Value):Prop where
 obj:h.get? x=some (PySem.W.instObj C dx)
 ns:h.Ns1 dx mA
 ne:dx≠x
theorem qR {h:Heap} {dx:Addr} {mA:Str→Option Value} (n:h.Ns1 dx mA):∃ od,h.get? dx=some od∧∀ name,PySem.W.lookIn name od=some (mA name):=by
 obtain ⟨o,es,ep,ho,hd,hk,_,hm⟩:=n
 refine ⟨o,ho,fun name => ?_⟩
 have e:=hm name
 unfold nsFind findBy at e
 rw [← Array.find?_toList] at e
 unfold PySem.W.lookIn
 rw [hd]
 dsimp only
 split
 ·rename_i y q
  rw [q] at e
  exact congrArg some e
 ·rename_i q
  rw [q] at e
  have a:es.toList.any (·.refKey)=false:=by
   rw [List.any_eq_false]
   intro y hy
   obtain ⟨z,t,hkey⟩:=hk y (Array.mem_toList_iff.mp hy)
   simp [DictEntry.refKey,hkey]
  have a':¬ es.toList.any (·.refKey)=true:=by rw [a];exact Bool.false_ne_true
  rw [if_neg a']
  exact congrArg some e
theorem ObjM.look {h:Heap} {x dx C:Addr} {mA:Str→Option Value} (I:ObjM h x dx C mA):∃ od,PySem.W.InstAt h x (PySem.W.instObj C dx) C (some od)∧∀ name,PySem.W.lookIn name od=some (mA name):=
 let ⟨od,ho,hl⟩:=qR I.ns
 ⟨od,⟨I.obj,rfl,rfl,ho⟩,hl⟩
section
variable {prog:Program} {w:World} {A:Around} {E:Value→Shared→Prop} {s:Shared} {K:PySem.W.Frag} {x dx C f:Addr} {mA:Str→Option Value} {name:Str} {v:Value}
theorem vZ {expr:Bool} {Q:Value→Shared→Prop} (X:K.In s.heap) (I:ObjM s.heap x dx C mA) (hg:PySem.W.plainGet K C name=true) (hh:PySem.W.hasDictIn K C=true)
  (ha:PySem.W.findIn K (.ref C) name=some none) (hv:mA name=some v) (hv':PySem.W.handedIn v=true) (h:Q v {s with toks:=s.toks+1}) :
  wpAny (model prog w) A (getAttr (.ref x) name expr) Q E s:=by
 obtain ⟨od,J,hl⟩:=I.look
 exact PySem.W.get_value X J (PySem.W.plainGet_of hg).1 (PySem.W.findObj_own hh ha rfl (by rw [hl,hv])) hv' h
theorem t9 {pl:Sem Bool} {Q:Value×List Value→Shared→Prop} (X:K.In s.heap) (I:ObjM s.heap x dx C mA) (hg:PySem.W.plainGet K C name=true)
  (hf:PySem.W.findIn K (.ref C) name=some (some (.ref f))) (ht:PySem.W.isFn K (.ref f)=true) (hv:mA name=none) (h:Q (.ref f,[.ref x]) s) :
  wpAny (model prog w) A (getMethod (.ref x) name pl) Q E s:=by
 obtain ⟨od,J,hl⟩:=I.look
 exact PySem.W.method_fn X J (PySem.W.plainGet_of hg).1 (PySem.W.plainGet_of hg).2 hf (beq_iff_eq.mp ht) (by show (PySem.W.lookIn name od).map (·.isSome)=some false;rw [hl,hv];rfl) h
theorem wa {ns:List Str} {Q:Unit→Shared→Prop} (X:K.In s.heap) (I:ObjM s.heap x dx C mA)
  (hs:PySem.W.findIn K (.ref C) "__setattr__" = some (some (.builtin "object.__setattr__"))) (hp:PySem.W.plainOver K C=true) (ht:PySem.W.takerIn K C name=some none) (hh:PySem.W.hasDictIn K C=true)
  (hw:PySem.Within mA ns) (hsz:ns.length≤sizeLine)
  (h:∀ h',ObjM h' x dx C (fun y=>if y=name then some v else mA y)→Heap.SameBut dx s.heap h'→Q () {s with heap:=h',toks:=s.toks+2}) :
  wpAny (model prog w) A (setAttr (.ref x) name v) Q E s:=by
 obtain ⟨od,J,hl⟩:=I.look
 refine PySem.W.set_plain X J hs (PySem.W.osa_open (s:={s with toks:=s.toks+1}) (r:=none) X J hp ht fun b => ?_)
 obtain ⟨cd,hc,hd'⟩:=PySem.W.any_some hh
 have hx:s.heap.get? x=some ⟨.ref C,some dx,.plain,#[]⟩:=I.obj
 refine wpAny_bind (wpAny_pure (wpAny_bind (wpAny_bind (wpAny_loadPart hx (wpAny_bind (PySem.W.Looks.here (s:={s with toks:=s.toks+1}) (PySem.W.looks_clsIn X hc) ?_))))))
 rw [hd']
 refine wpAny_pure (a:=some dx) (wpAny_bind (wpAny_pure (wpAny_bind ?_)))
 refine wpAny_nsSet1 (s:={s with toks:=s.toks+1}) I.ns fun h' hn2 hs2 => ?_
 obtain ⟨oD,esD,epD,hoD,hdD,hcD⟩:=hn2.count (PySem.Within.cons name v hw)
 refine wpAny_bind (wpAny_lookBehind hoD (by rw [hdD];exact pastItsLine_dict (Nat.le_trans hcD (by rw [List.length_cons];omega))) ?_)
 exact wpAny_pure (h _ ⟨(hs2.2 _ (Ne.symm I.ne)).trans I.obj,hn2,I.ne⟩ hs2)
theorem ua {R:Result→Shared→Prop} {vs:List Value} {kw:List (Str×Value)} (X:K.In s.heap) (hm:PySem.W.makesIn K C=true)
  (hi:PySem.W.findIn K (.ref C) "__init__" = some (some (.ref f))) (hf:PySem.W.typeIn K (.ref f)=some (.type "function"))
  (h:codeAny (model prog w) (A.under (.builtin "type.__call__" ⟨.ref C :: vs,kw⟩)) (.call (.ref f) ⟨.ref (s.heap.objs.size+1) :: vs,kw⟩) (PySem.W.InitBack (s.heap.objs.size+1) R)
   {s with heap:=(s.heap.push PySem.W.emptyDict).push (PySem.W.instObj C s.heap.objs.size)}) :
  codeAny (model prog w) A (.call (.ref C) ⟨vs,kw⟩) R s:=by
 obtain ⟨hh,g,d,t,os⟩:=s
 exact PySem.W.make_core (PySem.W.makes_of X hm) (PySem.W.looks_findIn X hi) (fun self=>PySem.W.bind_fn X self hf) (.inl rfl) h
end
def eI (f:Str) (v:V):List (Str×V)→List (Str×V)
 | []=>[(f,v)]
 | (g,x) :: r=>if g=f then (g,v) :: r else (g,x) :: eI f v r
theorem iQ (f g:Str) (v:V):∀ fs:List (Str×V),(eI f v fs).lookup g=if g=f then some v else fs.lookup g
 | []=>by
  show List.lookup g [(f,v)]=_
  by_cases h:g=f
  ·have hb:(g == f)=true:=beq_iff_eq.mpr h
   simp only [List.lookup,hb,if_pos h]
  ·have hb:(g == f)=false:=beq_eq_false_iff_ne.mpr h
   simp only [List.lookup,hb,if_neg h]
 | (k,x) :: r=>by
  have ih:=iQ f g v r
  rw [show eI f v ((k,x) :: r)=(if k=f then (k,v) :: r else (k,x) :: eI f v r) from rfl]
  by_cases hk:k=f
  ·rw [if_pos hk]
   by_cases h:g=k
   ·have hb:(g == k)=true:=beq_iff_eq.mpr h
    simp only [List.lookup,hb,if_pos (h.trans hk)]
   ·have hb:(g == k)=false:=beq_eq_false_iff_ne.mpr h
    simp only [List.lookup,hb,if_neg (fun e:g=f=>h (e.trans hk.symm))]
  ·rw [if_neg hk]
   by_cases h:g=k
   ·have hb:(g == k)=true:=beq_iff_eq.mpr h
    simp only [List.lookup,hb,if_neg (fun e:g=f=>hk (h.symm.trans e))]
   ·have hb:(g == k)=false:=beq_eq_false_iff_ne.mpr h
    simp only [List.lookup,hb]
    exact ih
theorem iR (f:Str) (v:V):∀ fs:List (Str×V),f∈(eI f v fs).map (·.1)∧∀ g,g∈fs.map (·.1)→g∈(eI f v fs).map (·.1)
 | []=>⟨by simp [eI],fun g h=>by simp at h⟩
 | (k,x) :: r=>by
  obtain ⟨i1,i2⟩:=iR f v r
  rw [show eI f v ((k,x) :: r)=(if k=f then (k,v) :: r else (k,x) :: eI f v r) from rfl]
  by_cases hk:k=f
  ·rw [if_pos hk]
   subst hk
   exact ⟨by simp,fun g h=>by simpa using h⟩
  ·rw [if_neg hk]
   refine ⟨?_,fun g h => ?_⟩
   ·rw [List.map_cons]
    exact List.mem_cons_of_mem _ i1
   ·rw [List.map_cons] at h ⊢
    rcases List.mem_cons.mp h with e | e
    ·exact List.mem_cons.mpr (.inl e)
    ·exact List.mem_cons_of_mem _ (i2 g e)
theorem iS (f:Str) (v:V):∀ fs:List (Str×V),(eI f v fs).length≤fs.length+1
 | []=>by simp [eI]
 | (k,x) :: r=>by
  have ih:=iS f v r
  rw [show eI f v ((k,x) :: r)=(if k=f then (k,v) :: r else (k,x) :: eI f v r) from rfl]
  by_cases hk:k=f
  ·rw [if_pos hk,List.length_cons,List.length_cons];omega
  ·rw [if_neg hk,List.length_cons,List.length_cons];omega
theorem RelO.some_of {v:V} {o:Option Value} (r:RelO (some v) o):∃ u,o=some u∧RelV v u:=by
 cases o with
 | none=>exact (show False from r).elim
 | some u=>exact ⟨u,rfl,r⟩
theorem RelO.none_of {o:Option Value} (r:RelO none o):o=none:=by
 cases o with
 | none=>rfl
 | some u=>exact (show False from r).elim
theorem qS {v:V} {u:Value} (r:RelV v u):PySem.W.handedIn u=true:=by
 cases v with
 | non=>cases (show u=Value.none from r);rfl
 | bl b=>cases (show u=Value.bool b from r);rfl
 | int i=>obtain ⟨t,e⟩:=(show ∃ t,u=Value.int i t from r);cases e;rfl
 | str x=>obtain ⟨t,e⟩:=(show ∃ t,u=Value.str x t from r);cases e;rfl
 | byt b=>obtain ⟨t,e⟩:=(show ∃ t,u=Value.bytes b t from r);cases e;rfl
 | flt b=>obtain ⟨t,e⟩:=(show ∃ t,u=Value.float b t from r);cases e;rfl
 | ref a=>cases (show u=Value.ref a from r);rfl
 | ty n=>cases (show u=Value.type n from r);rfl
section
variable {P:Program} {w:World} {H H':Hp} {h h':Heap} {a C dx:Addr} {fs fs':List (Str×V)}
theorem m7 (hok:HOk P w H h) (e:H a=some (.ins C dx fs)):∃ mA,ObjM h a dx C mA∧(∀ f,RelO (fs.lookup f) (mA f))∧PySem.Within mA (fs.map (·.1))∧fs.length≤1000∧H dx=some (.own a):=by
 obtain ⟨d,z,ne,ob,mA,n,r,q⟩:=(show ObjOk P w H h a (.ins C dx fs) from hok a _ e)
 exact ⟨mA,⟨ob,n,ne⟩,r,q,z,d⟩
end
structure Cls (K:PySem.W.Frag) (C:Addr):Prop where
 pg:PySem.W.plainGet K C Str.empty=true
 hd:PySem.W.hasDictIn K C=true
 po:PySem.W.plainOver K C=true
 sa:PySem.W.findIn K (.ref C) "__setattr__" = some (some (.builtin "object.__setattr__"))
theorem Cls.get {K:PySem.W.Frag} {C:Addr} (c:Cls K C) (f:Str):PySem.W.plainGet K C f=true:=c.pg
def NoAttr (K:PySem.W.Frag) (C:Addr) (f:Str):Prop:=PySem.W.findIn K (.ref C) f=some none
theorem NoAttr.taker {K:PySem.W.Frag} {C:Addr} {f:Str} (n:NoAttr K C f):PySem.W.takerIn K C f=some none:=by
 unfold PySem.W.takerIn
 rw [show PySem.W.findIn K (.ref C) f=some none from n]
 rfl
structure Con (K:PySem.W.Frag) (C:Addr) (f:Str) (v:V) (u:Value):Prop where
 at_:PySem.W.findIn K (.ref C) f=some (some u)
 rel:RelV v u
 get:PySem.W.specialIn K u "__get__" = some none
 cp:PySem.W.copiedNames.contains f=false
structure Meth (K:PySem.W.Frag) (C:Addr) (m:Str) (f:Addr):Prop where
 at_:PySem.W.findIn K (.ref C) m=some (some (.ref f))
 fn:PySem.W.isFn K (.ref f)=true
 kp:PySem.W.keepIn K (.ref f)=true
section
variable {X:Cx} {pins:List (Addr×Obj)} {σ:St} {H:Hp} {s:Shared} {a C dx:Addr} {fs:List (Str×V)} {f:Str} {v:V} {A:Around} {E:Value→Shared→Prop}
theorem jT {b:Bool} {Q:Value→Shared→Prop} (I:Inv X pins σ H s) (e:H a=some (.ins C dx fs)) (c:Cls X.K C) (n:NoAttr X.K C f) (l:fs.lookup f=some v)
  (h:∀ u s',Inv X pins σ H s'→RelV v u→Q u s'):wpAny (model X.prog X.w) A (getAttr (.ref a) f b) Q E s:=by
 obtain ⟨mA,O,r,_,_,_⟩:=m7 I.hok e
 obtain ⟨u,hu,ru⟩:=RelO.some_of (v:=v) (o:=mA f) (by rw [← l];exact r f)
 exact vZ I.kIn O (c.get f) c.hd n hu (qS ru) (h u _ (I.tok _) ru)
theorem jU {m:Str} {g:Addr} {pl:Sem Bool} {Q:Value×List Value→Shared→Prop} (I:Inv X pins σ H s) (e:H a=some (.ins C dx fs)) (c:Cls X.K C) (k:Meth X.K C m g) (l:fs.lookup m=none)
  (h:Q (.ref g,[.ref a]) s):wpAny (model X.prog X.w) A (getMethod (.ref a) m pl) Q E s:=by
 obtain ⟨mA,O,r,_,_,_⟩:=m7 I.hok e
 have hn:mA m=none:=RelO.none_of (by rw [← l];exact r m)
 exact t9 I.kIn O (c.get m) k.at_ k.fn hn h
theorem jV {y:V} {u:Value} {Q:Unit→Shared→Prop} (I:Inv X pins σ H s) (e:H a=some (.ins C dx fs)) (c:Cls X.K C) (n:NoAttr X.K C f) (hl:fs.length < 1000) (ry:RelV y u)
  (h:∀ s',Inv X pins σ (upd H a (.ins C dx (eI f y fs))) s'→Q () s'):wpAny (model X.prog X.w) A (setAttr (.ref a) f u) Q E s:=by
 obtain ⟨mA,O,r,wi,_,ho⟩:=m7 I.hok e
 have hz:(fs.map (·.1)).length≤sizeLine:=by rw [List.length_map,sizeLine_eq];omega
 refine wa I.kIn O c.sa c.po n.taker c.hd wi hz fun h' O' sb=>h _ ?_
 have hd:∃ o,h'.get? dx=some o:=let ⟨o,_,_,e',_⟩:=O'.ns;⟨o,e'⟩
 refine I.write (x:=a) (e:=dx) (by rw [e];exact True.intro) (.inr ho) (fun b q hb z=>(sb.2 b hb).trans z) hd ?_
 refine ⟨by rw [aU O.ne];exact ho,?_,O.ne,O'.obj,_,O'.ns,fun g => ?_,fun g hg => ?_⟩
 ·have:=iS f y fs;omega
 ·show RelO ((eI f y fs).lookup g) (if g=f then some u else mA g)
  rw [iQ]
  by_cases q:g=f
  ·rw [if_pos q,if_pos q];exact ry
  ·rw [if_neg q,if_neg q];exact r g
 ·by_cases q:g=f
  ·rw [q];exact (iR f y fs).1
  ·refine (iR f y fs).2 g (wi g fun z=>hg ?_)
   show (if g=f then some u else mA g)=none
   rw [if_neg q];exact z
theorem Inv.made (I:Inv X pins σ H s):Inv X pins σ (upd (upd H s.heap.objs.size (.own (s.heap.objs.size+1))) (s.heap.objs.size+1) (.ins C s.heap.objs.size []))
  {s with heap:=(s.heap.push PySem.W.emptyDict).push (PySem.W.instObj C s.heap.objs.size)}:=by
 have e1:(s.heap.push PySem.W.emptyDict).get? s.heap.objs.size=some PySem.W.emptyDict:=Heap.get?_push_size s.heap rfl
 have e2:((s.heap.push PySem.W.emptyDict).push (PySem.W.instObj C s.heap.objs.size)).get? (s.heap.objs.size+1)=some (PySem.W.instObj C s.heap.objs.size):=by
  have:=Heap.get?_push_size (s.heap.push PySem.W.emptyDict) (o:=PySem.W.instObj C s.heap.objs.size) rfl
  rwa [Heap.size_push] at this
 have e3:(s.heap.push PySem.W.emptyDict).Ns s.heap.objs.size (fun _=>none):=⟨PySem.W.emptyDict,#[],_,e1,rfl,(fun e he=>absurd he (by simp)),fun _=>rfl⟩
 have I1:=I.laid (a:=s.heap.objs.size) (o := .own (s.heap.objs.size+1)) (h':=s.heap.push PySem.W.emptyDict) (t':=s.toks) (fun b u q=>Heap.get?_push_of_some _ q) (Nat.le_refl _) ⟨_,e1⟩
 refine I1.laid (a:=s.heap.objs.size+1) (o := .ins C s.heap.objs.size []) (t':=s.toks) (fun b u q=>Heap.get?_push_of_some _ q) (Nat.le_of_eq (Heap.size_push _ _)) ?_
 have ne:s.heap.objs.size≠s.heap.objs.size+1:=Nat.ne_of_lt (Nat.lt_succ_self _)
 refine ⟨by rw [aU ne,bz],Nat.zero_le _,ne,e2,fun _=>none,(Heap.Ns1.of_empty e3).at fun o q=>Heap.get?_push_of_some _ q,fun _=>True.intro,fun y hy=>absurd rfl hy⟩
theorem wb {prog:Program} {w:World} {env:Env} {e:Expr} {f:Str} {pos:Pos} {s:Shared} {Q:Value→Shared→Prop} (hb:attributeBase e f env (eval e env)=eval e env)
  (h:wpAny (model prog w) A (eval e env) (fun o s₁=>wpAny (model prog w) A (getAttr o f true) Q E s₁) E s):wpAny (model prog w) A (eval (.Attribute e f pos) env) Q E s:=
 Attribute_any_ h (by rw [arm_eval_Attribute,hb])
end
def zW (K:PySem.W.Frag) (ta:TE) (f:Str):TE:=fun σ H Q=>ta σ H fun x H1=>∃ a C dx fs v,x = .ref a∧H1 a=some (.ins C dx fs)∧Cls K C∧NoAttr K C f∧fs.lookup f=some v∧Q v H1
def Dg (K:PySem.W.Frag) (ta:TE) (f:Str):TE:=fun σ H Q=>ta σ H fun x H1=>∃ a C dx fs v u,x = .ref a∧H1 a=some (.ins C dx fs)∧Cls K C∧Con K C f v u∧fs.lookup f=none∧Q v H1
def Ai (K:PySem.W.Frag) (ta tv:TE) (f:Str):TS:=fun D σ H=>tv σ H fun y H1=>ta σ H1 fun x H2=>∃ a C dx fs,x = .ref a∧H2 a=some (.ins C dx fs)∧Cls K C∧NoAttr K C f∧fs.length < 1000 ∧
 D.nx σ (upd H2 a (.ins C dx (eI f y fs)))
def Aj (X:Cx) (op:Operator) (rd:V→V→Hp→VK→Prop):Prop:=
 ∀ (pins:List (Addr×Obj)) (s:Shared) (σ:St) (H:Hp) (x y:V) (u v:Value) (Q:VK),Inv X pins σ H s→RelV x u→RelV y v→rd x y H Q→wpAny (model X.prog X.w) X.A (inplaceOp op u v) (EP X pins σ Q) X.xe s
def m8 (K:PySem.W.Frag) (ta tv:TE) (rd:V→V→Hp→VK→Prop) (f:Str):TS:=fun D σ H=>ta σ H fun x H1=>∃ a C dx fs v,x = .ref a∧H1 a=some (.ins C dx fs)∧Cls K C∧NoAttr K C f∧fs.lookup f=some v ∧
 tv σ H1 fun y H2=>rd v y H2 fun z H3=>∃ dx' fs',H3 a=some (.ins C dx' fs')∧fs'.length < 1000∧D.nx σ (upd H3 a (.ins C dx' (eI f z fs')))
section
variable {X:Cx} {o e value:Expr} {f:Str} {pos pos' tpos:Pos} {ta tv:TE}
theorem ye (he:PE X e ta) (hb:attributeBase e f X.env (eval e X.env)=eval e X.env):PE X (.Attribute e f pos) (zW X.K ta f):=by
 intro pins s σ H Q I h
 refine wb hb (thn (he pins s σ H _ I h) fun u s1 ⟨x,H1,I1,rx,a,C,dx,fs,v,ex,ea,c,n,l,q⟩ => ?_)
 subst ex
 obtain rfl:u=Value.ref a:=rx
 exact jT I1 ea c n l fun u' s2 I2 ru=>⟨v,H1,I2,ru,q⟩
theorem yf (ha:PE X o ta) (hv:PE X value tv) (hs:swapsWith value (some (.Attribute o f pos')) pos.line X.env=pure false):PS X (.Assign [.Attribute o f pos'] value pos) (Ai X.K ta tv f):=by
 intro pins s σ H D I h
 refine plainObj_wpAny_Assign_Attribute (thn (hv pins s σ H _ I h) fun u s1 ⟨y,H1,I1,ry,q⟩=>thn (ha pins s1 σ H1 _ I1 q) fun ov s2 ⟨x,H2,I2,rx,a,C,dx,fs,ex,ea,c,n,l,q2⟩ => ?_) hs
 subst ex
 obtain rfl:ov=Value.ref a:=rx
 exact jV I2 ea c n l ry fun s3 I3=>⟨σ,_,I3,q2⟩
theorem qT {op:Operator} {rd:V→V→Hp→VK→Prop} (ha:PE X o ta) (hv:PE X value tv) (hop:Aj X op rd):PS X (.AugAssign (.Attribute o f tpos) op value pos) (m8 X.K ta tv rd f):=by
 intro pins s σ H D I h
 refine wpAny_AugAssign_AttributeAny (thn (ha pins s σ H _ I h) fun ov s1 ⟨x,H1,I1,rx,a,C,dx,fs,v,ex,ea,c,n,l,q⟩ => ?_)
 subst ex
 obtain rfl:ov=Value.ref a:=rx
 refine jT I1 ea c n l fun u s2 I2 ru=>thn (hv pins s2 σ H1 _ I2 q) fun w3 s3 ⟨y,H2,I3,ry,q3⟩=>thn (hop pins s3 σ H2 v y u w3 _ I3 ru ry q3) fun w4 s4 ⟨z,H3,I4,rz,dx',fs',ea',l',q4⟩ => ?_
 exact jV I4 ea' c n l' rz fun s5 I5=>⟨σ,_,I5,q4⟩
def BL:V→V→Hp→VK→Prop:=fun x y H Q=>∃ i j,x = .int i∧y = .int j∧Q (.int (i+j)) H
def Dh:V→V→Hp→VK→Prop:=fun x y H Q=>∃ i j,x = .int i∧y = .int j∧Q (.int (i - j)) H
theorem oF:Aj X .Add BL:=by
 rintro pins s σ H x y u v Q I rx ry ⟨i,j,rfl,rfl,q⟩
 obtain ⟨t,rfl⟩:=(show ∃ t,u=Value.int i t from rx)
 obtain ⟨t',rfl⟩:=(show ∃ t',v=Value.int j t' from ry)
 exact PyProof.Rows.iadd_int ⟨.int (i+j),H,I.tok _,⟨_,rfl⟩,q⟩
end
section
variable {X:Cx} {pins:List (Addr×Obj)} {σ:St} {H:Hp} {s:Shared} {A:Around} {E:Value→Shared→Prop} {Q:Value→Shared→Prop} {c:Value} {b:Bool}
inductive TyOf (K:PySem.W.Frag) (H:Hp):V→Value→Prop where
 | non:TyOf K H .non (.type "NoneType")
 | bl (x:Bool):TyOf K H (.bl x) (.type "bool")
 | int (i:Int):TyOf K H (.int i) (.type "int")
 | str (x:Str):TyOf K H (.str x) (.type "str")
 | flt (x:UInt64):TyOf K H (.flt x) (.type "float")
 | lst {a:Addr} {xs:List V} (e:H a=some (.lst xs)):TyOf K H (.ref a) (.type "list")
 | frz {a:Addr} {o:Obj} {xs:List V} (e:H a=some (.frz o (.lst xs))):TyOf K H (.ref a) (.type "list")
 | tup {a:Addr} {xs:List V} (e:H a=some (.tup xs)):TyOf K H (.ref a) (.type "tuple")
 | dK {a:Addr} {kvs:List (Key×V)} (e:H a=some (.dK kvs)):TyOf K H (.ref a) (.type "dict")
 | dT {a:Addr} {kvs:List (List Key×V)} (e:H a=some (.dT kvs)):TyOf K H (.ref a) (.type "dict")
 | ins {a C dx:Addr} {fs:List (Str×V)} (e:H a=some (.ins C dx fs)) (cl:Cls K C) (ha:PySem.W.findIn K (.ref C) "__class__" = some (some (.builtin "object.__class__")))
   (hn:PySem.W.specialIn K (.builtin "object.__class__") "__get__" = some (some (.builtin "getset_descriptor.__get__"))) (htk:PySem.W.takesIn K (.builtin "object.__class__")=some true)
   (hm:PySem.W.mroIn K C (.type "object")=some true):TyOf K H (.ref a) (.ref C)
end
end L2
namespace L2
open PySem PySem.Spec PyProof.Rows
structure Room (k:Nat) (A:Around):Prop where
 hd:A.handled=none
 dp:A.depth+3 * k+5 < recursionLimit
 un:A.units+16 * k+200 < cLine
theorem Room.mono {j k:Nat} {A:Around} (r:Room k A) (h:j≤k):Room j A:=⟨r.hd,by have:=r.dp;omega,by have:=r.un;omega⟩
theorem Room.deeper {k:Nat} {A:Around} (r:Room (k+1) A) (env:Env):Room k (A.deeper env):=
 ⟨r.hd,by have:=r.dp;show A.depth+1+3 * k+5 < _;omega,by have:=r.un;show A.units+3+16 * k+200 < _;omega⟩
theorem pK {A:Around} {C:Addr} {us:List Value} {kw:List (Str×Value)}:(A.under (.builtin "type.__call__" ⟨.ref C :: us,kw⟩)).depth=A.depth+1:=by
 first | rfl | simp [Around.under,Code.weight,Code.isCreation,Code.isGuard,Code.isCaller,Code.frames,Code.isFrame,guardIds]
theorem pL {A:Around} {C:Addr} {us:List Value} {kw:List (Str×Value)}:(A.under (.builtin "type.__call__" ⟨.ref C :: us,kw⟩)).units=A.units+1:=by
 first | rfl | simp [Around.under,Code.cUnits,Code.frames,Code.isFrame]
theorem Room.make {k:Nat} {A:Around} (r:Room (k+1) A) (C:Addr) (us:List Value) (kw:List (Str×Value)):Room k (A.under (.builtin "type.__call__" ⟨.ref C :: us,kw⟩)):=
 ⟨r.hd,by have:=r.dp;rw [pK];omega,by have:=r.un;rw [pL];omega⟩
theorem Room.depth {k:Nat} {A:Around} (r:Room k A):A.depth < recursionLimit:=by have:=r.dp;omega
theorem Room.units {k:Nat} {A:Around} (r:Room k A):A.units+64 < cLine:=by have:=r.un;omega
def vr:TA:=fun _ H Q=>Q [] H
def wc (ta:TE) (tr:TA):TA:=fun σ H Q=>ta σ H fun x H1=>tr σ H1 fun xs H2=>Q (x :: xs) H2
section
variable {X:Cx} {e:Expr} {es:List Expr} {te:TE} {t:TA} {pos:Pos}
theorem ac:PA X [] vr:=fun _ _ _ _ H Q I h=>Calls.spliced_nil ⟨[],H,I,.nil,h⟩
theorem aa (ha:PE X e te) (hr:PA X es t) (hs:starEach (e :: es) X.env=(false,eval e X.env) :: starEach es X.env:=by rfl):PA X (e :: es) (wc te t):=by
 intro pos pins s σ H Q I h
 rw [hs]
 show wpAny _ _ (spliced ((false,eval e X.env) :: backTo pos (starEach es X.env))) _ _ s
 refine Calls.spliced_cons (thn (ha pins s σ H _ I h) fun u s1 ⟨x,H1,I1,r1,q1⟩ => ?_)
 exact thn (hr pos pins s1 σ H1 _ I1 q1) fun us s2 ⟨xs,H2,I2,r2,q2⟩=>⟨x :: xs,H2,I2,.cons r1 r2,q2⟩
def zX (t:TA):TE:=fun σ H Q=>t σ H fun xs H1=>xs.length≤sizeLine∧∀ p,H1 p=none→Q (.ref p) (upd H1 p (.tup xs))
def BN (t:TA):TE:=fun σ H Q=>t σ H fun xs H1=>xs.length≤sizeLine∧∀ p,H1 p=none→Q (.ref p) (upd H1 p (.lst xs))
theorem ci {x1} (h:PA X es t):PE X (.Tuple es x1 pos) (zX t):=by
 intro pins s σ H Q I hq
 refine wpAny_Tuple_spliced (thn (h pos pins s σ H _ I hq) fun us s1 ⟨xs,H1,I1,r,z,q⟩=>⟨by rw [← r.length];exact z,?_⟩)
 have hf:H1 s1.heap.objs.size=none:=I1.hok.fresh (Nat.le_refl _)
 refine ⟨.ref s1.heap.objs.size,upd H1 s1.heap.objs.size (.tup xs),I1.laid (t':=s1.toks) (fun b u e=>Heap.get?_push_of_some _ e) (Nat.le_refl _) ?_,rfl,q _ hf⟩
 exact ⟨z,us,r,⟨_,Heap.get?_push_size _ rfl,rfl,_,rfl⟩⟩
theorem bd (h:PA X es t):PE X (.List es pos) (BN t):=by
 intro pins s σ H Q I hq
 refine wpAny_List_spliced (thn (h pos pins s σ H _ I hq) fun us s1 ⟨xs,H1,I1,r,z,q⟩=>⟨by rw [← r.length];exact z,?_⟩)
 have hf:H1 s1.heap.objs.size=none:=I1.hok.fresh (Nat.le_refl _)
 refine ⟨.ref s1.heap.objs.size,upd H1 s1.heap.objs.size (.lst xs),I1.laid (t':=s1.toks) (fun b u e=>Heap.get?_push_of_some _ e) (Nat.le_refl _) ?_,rfl,q _ hf⟩
 exact ⟨z,us,0,r,Heap.get?_push_size _ rfl⟩
end
abbrev Sp:=List V→Hp→VK→XK→Prop
abbrev CXT:=List Env→Hp→Shared→XK→Value→Shared→Prop
structure Env0 (P:Program) (w:World) (K:PySem.W.Frag) (mg:Str→Option Value) (base:Heap) (A:Around) (outer:List Env) (s:Shared) (H:Hp):Prop where
 frames:A.frames=some outer
 mod:Mod K mg base
 bs:∀ b o,base.get? b=some o→s.heap.get? b=some o∧H b=none
 bsz:base.objs.size≤s.heap.objs.size
 funs:s.heap.FunFrames base outer
 frf:∀ b∈frs outer,H b=none
 hok:HOk P w H s.heap
 bare:AllBare s.gens
def CE (outer:List Env) (P:Program) (w:World) (H:Hp) (s:Shared) (Q:VK) (u:Value) (s':Shared):Prop:=
 ∃ v H',s'.os=s.os∧AllBare s'.gens∧Un (frs outer) [] H H' s.heap s'.heap∧HOk P w H' s'.heap∧RelV v u∧Q v H'
def CR (CX:CXT) (outer:List Env) (P:Program) (w:World) (H:Hp) (s:Shared) (Q:VK) (E:XK) (r:Result) (s':Shared):Prop:=
 match r with
 | .ok (.ret u)=>CE outer P w H s Q u s'
 | .ok _=>False
 | .error e=>CX outer H s E e s'
structure FnOk (P:Program) (w:World) (K:PySem.W.Frag) (mg:Str→Option Value) (base:Heap) (CX:CXT) (k:Nat) (f:Addr) (fd:FuncData) (ps:List Str) (sp:Sp):Prop where
 len:∀ vs H Q E,sp vs H Q E→vs.length=ps.length
 run:∀ (A:Around) (outer:List Env) (s:Shared) (H:Hp) (args:Args) (us:List Value) (vs:List V) (Q:VK) (E:XK),Room k A→Env0 P w K mg base A outer s H→BindsTo s fd args (ps.zip us)→Vals vs us→sp vs H Q E →
  codeAny (model P w) A (.call (.ref f) args) (CR CX outer P w H s Q E) s
theorem FnOk.imp {P:Program} {w:World} {K:PySem.W.Frag} {mg:Str→Option Value} {base:Heap} {CX:CXT} {k:Nat} {f:Addr} {fd:FuncData} {ps:List Str} {sp sp':Sp} (F:FnOk P w K mg base CX k f fd ps sp)
  (h:∀ vs H Q E,sp' vs H Q E→sp vs H Q E):FnOk P w K mg base CX k f fd ps sp':=
 ⟨fun vs H Q E q=>F.len vs H Q E (h _ _ _ _ q),fun A outer s H args us vs Q E hr he hb hv hs=>F.run A outer s H args us vs Q E hr he hb hv (h _ _ _ _ hs)⟩
theorem Env0.make {P:Program} {w:World} {K:PySem.W.Frag} {mg:Str→Option Value} {base:Heap} {A:Around} {outer:List Env} {s:Shared} {H:Hp} (e:Env0 P w K mg base A outer s H) (C:Addr) (us:List Value) (kw:List (Str×Value)) :
  Env0 P w K mg base (A.under (.builtin "type.__call__" ⟨.ref C :: us,kw⟩)) outer s H:=⟨by first | exact e.frames | (simpa [Around.under,Code.envs,Code.isFrame,pushEnvs] using e.frames),e.mod,e.bs,e.bsz,e.funs,e.frf,e.hok,e.bare⟩
section
variable {X:Cx} {pins:List (Addr×Obj)} {σ:St} {H:Hp} {s s':Shared}
theorem Inv.env0 (I:Inv X pins σ H s):Env0 X.prog X.w X.K X.mg X.base X.A X.stack s H:=
 ⟨I.ok.frames,I.ok.mod,I.bs,Nat.le_trans I.ok.bsz I.sz,I.stack,I.stkFree,I.hok,I.bare⟩
theorem Inv.after {Q:VK} {u:Value} (I:Inv X pins σ H s) (h:CE X.stack X.prog X.w H s Q u s'):EP X pins σ Q u s':=by
 obtain ⟨v,H',os,bare,un,hok,r,q⟩:=h
 obtain ⟨hh,g,d,t,os'⟩:=s'
 obtain rfl:os'=s.os:=os
 exact ⟨v,H',I.call (h':=hh) (g':=g) (d':=d) (t':=t) (ch:=[]) un hok bare (fun b z=>absurd z (by simp)),r,q⟩
end
def qU (sp:Sp) (dvs:List V) (E:XK) (t:TA):TE:=fun σ H Q=>t σ H fun vs H1=>sp (vs++dvs) H1 Q E
def li (C:Addr) (m:Str) (sp:Sp) (dvs:List V) (E:XK) (ta:TE) (t:TA):TE:=fun σ H Q=>ta σ H fun x H1=>∃ a dx fs,x = .ref a∧H1 a=some (.ins C dx fs)∧fs.lookup m=none ∧
 t σ H1 fun vs H2=>sp (x :: (vs++dvs)) H2 Q E
def pM (C:Addr) (sp:Sp) (dvs:List V) (E:XK) (t:TA):TE:=fun σ H Q=>t σ H fun vs H1=>∀ x dx,H1 x=none→H1 dx=none→dx≠x →
 sp (.ref x :: (vs++dvs)) (upd (upd H1 dx (.own x)) x (.ins C dx [])) (fun v H2=>v = .non∧Q (.ref x) H2) E
def Binds (K:PySem.W.Frag) (fd:FuncData) (ps:List Str) (ds:List Value):Prop:=
 ∀ (s:Shared) (us:List Value),K.In s.heap→(us++ds).length=ps.length→BindsTo s fd ⟨us,[]⟩ (ps.zip (us++ds))
theorem Binds.all {K:PySem.W.Frag} {fd:FuncData} {ps:List Str} (h:∀ us:List Value,us.length=ps.length→bindArgs fd ⟨us,[]⟩=pure (ps.zip us)):Binds K fd ps []:=fun s us _ hl=>by
 rw [List.append_nil] at hl ⊢
 exact .of_eq (h us hl)
def cA (CX:CXT) (X:Cx) (E:XK):Prop:=∀ (pins:List (Addr×Obj)) (σ:St) (H:Hp) (s:Shared) (e:Value) (s':Shared),Inv X pins σ H s→CX X.stack H s E e s'→X.xe e s'
section
variable {X:Cx} {CX:CXT} {k:Nat} {f C:Addr} {fd:FuncData} {ps:List Str} {sp:Sp} {dvs:List V} {ds:List Value} {E:XK} {x m:Str} {p pos apos:Pos} {e o:Expr} {es:List Expr} {ta:TE} {t:TA}
theorem qV {pins:List (Addr×Obj)} {σ:St} {H:Hp} {s:Shared} {Q:VK} {us:List Value} {vs:List V} (F:FnOk X.prog X.w X.K X.mg X.base CX k f fd ps sp) (hr:Room k X.A) (hb:Binds X.K fd ps ds) (hd:Vals dvs ds) (hx:cA CX X E)
  (I:Inv X pins σ H s) (r:Vals vs us) (h:sp (vs++dvs) H Q E):wpAny (model X.prog X.w) X.A (call (.ref f) us) (EP X pins σ Q) X.xe s:=by
 have r2:Vals (vs++dvs) (us++ds):=r.append hd
 have hl:(us++ds).length=ps.length:=by rw [← r2.length];exact F.len _ _ _ _ h
 refine wpAny_call (codeAny_mono (F.run X.A X.stack s H ⟨us,[]⟩ (us++ds) (vs++dvs) Q E hr I.env0 (hb s us I.kIn hl) r2 h) fun r s' hq => ?_)
 cases r with
 | error e=>exact hx pins σ H s e s' I hq
 | ok fl=>
  cases fl with
  | ret u=>exact I.after hq
  | next=>exact False.elim hq
  | brk=>exact False.elim hq
  | cont=>exact False.elim hq
theorem we (F:FnOk X.prog X.w X.K X.mg X.base CX k f fd ps sp) (hr:Room k X.A) (hg:Gl X x) (hm:X.mg x=some (.ref f)) (hk:PySem.W.keepIn X.K (.ref f)=true) (hb:Binds X.K fd ps ds) (hd:Vals dvs ds) (hx:cA CX X E)
  (ha:PA X (e :: es) t) (hdb:(x == ("__debug__" : Str))=false:=by decide) (he:starEach (e :: es) X.env=(false,eval e X.env) :: starEach es X.env:=by rfl) (hpl:(backTo pos (starEach es X.env)).any (·.1)=false:=by rfl) :
  PE X (.Call (.Name x p) (e :: es) [] pos) (qU sp dvs E t):=by
 intro pins s σ H Q I h
 refine wpAny_Call_Name_kw (fQ I hg hm ?_ hdb)
 refine PySem.W.callWith_K (h₀:=X.base) I.ok.mod.kin hk (thn (ha pos pins s σ H _ I h) fun us s1 ⟨vs,H1,I1,r,q⟩=>⟨I1.kIn,?_⟩) he hpl
 exact qV F hr hb hd hx I1 r q
theorem wf {pl:Sem Bool} (he:PE X o ta) (c:Cls X.K C) (hm:Meth X.K C m f) (F:FnOk X.prog X.w X.K X.mg X.base CX k f fd ps sp) (hr:Room k X.A) (hb:Binds X.K fd ps ds) (hd:Vals dvs ds) (hx:cA CX X E) (ha:PA X (e :: es) t)
  (hst:starEach (e :: es) X.env=(false,eval e X.env) :: starEach es X.env:=by rfl) (hpl:(backTo pos (starEach es X.env)).any (·.1)=false:=by rfl)
  (ht:eval (.Call (.Attribute o m apos) (e :: es) [] pos) X.env=(do
   let ov ← eval o X.env
   standAt apos.atName
   let (f,first) ← holding [ov] (getMethod ov m pl)
   callWith pos f first (backTo pos (starEach (e :: es) X.env)) (backToKw pos (keywordEach [] X.env))):=by rfl) :
  PE X (.Call (.Attribute o m apos) (e :: es) [] pos) (li C m sp dvs E ta t):=by
 intro pins s σ H Q I h
 refine PySem.W.methodCall_KW (pl:=pl) (thn (he pins s σ H _ I h) fun u s1 ⟨x,H1,I1,rx,a,dx,fs,ex,ea,l,q⟩ => ?_) ht
 subst ex
 obtain rfl:u=Value.ref a:=rx
 refine jU I1 ea c hm l ?_
 refine PySem.W.callWith_K (first:=[.ref a]) (h₀:=X.base) I.ok.mod.kin hm.kp (thn (ha pos pins s1 σ H1 _ I1 q) fun us s2 ⟨vs,H2,I2,r,q2⟩=>⟨I2.kIn,?_⟩) hst hpl
 exact qV (us := .ref a :: us) (vs := .ref a :: vs) F hr hb hd hx I2 (.cons rfl r) q2
theorem ub {pl:Sem Bool} (he:PE X o ta) (c:Cls X.K C) (hm:Meth X.K C m f) (F:FnOk X.prog X.w X.K X.mg X.base CX k f fd ps sp) (hr:Room k X.A) (hb:Binds X.K fd ps ds) (hd:Vals dvs ds) (hx:cA CX X E)
  (ht:eval (.Call (.Attribute o m apos) [] [] pos) X.env=(do
   let ov ← eval o X.env
   standAt apos.atName
   let (f,first) ← holding [ov] (getMethod ov m pl)
   callWith pos f first (backTo pos (starEach [] X.env)) (backToKw pos (keywordEach [] X.env))):=by rfl) :
  PE X (.Call (.Attribute o m apos) [] [] pos) (li C m sp dvs E ta vr):=by
 intro pins s σ H Q I h
 refine PySem.W.methodCall_KW (pl:=pl) (thn (he pins s σ H _ I h) fun u s1 ⟨x,H1,I1,rx,a,dx,fs,ex,ea,l,q⟩ => ?_) ht
 subst ex
 obtain rfl:u=Value.ref a:=rx
 refine jU I1 ea c hm l ?_
 exact PySem.W.callWith_K0 (first:=[.ref a]) I1.kIn hm.kp (qV (us:=[.ref a]) (vs:=[.ref a]) F hr hb hd hx I1 (.cons rfl .nil) q)
structure Mk (K:PySem.W.Frag) (C f:Addr):Prop where
 makes:PySem.W.makesIn K C=true
 init:PySem.W.findIn K (.ref C) "__init__" = some (some (.ref f))
 fn:PySem.W.isFn K (.ref f)=true
 kp:PySem.W.keepIn K (.ref C)=true
theorem oG {pins:List (Addr×Obj)} {σ:St} {H:Hp} {s:Shared} {Q:VK} {us:List Value} {vs:List V} (M:Mk X.K C f) (F:FnOk X.prog X.w X.K X.mg X.base CX k f fd ps sp) (hr:Room (k+1) X.A) (hb:Binds X.K fd ps ds) (hd:Vals dvs ds)
  (hx:cA CX X E) (I:Inv X pins σ H s) (r:Vals vs us)
  (h:∀ x dx,H x=none→H dx=none→dx≠x→sp (.ref x :: (vs++dvs)) (upd (upd H dx (.own x)) x (.ins C dx [])) (fun v H2=>v = .non∧Q (.ref x) H2) E) :
  wpAny (model X.prog X.w) X.A (call (.ref C) us) (EP X pins σ Q) X.xe s:=by
 have hq:=h (s.heap.objs.size+1) s.heap.objs.size (I.hok.fresh (Nat.le_succ _)) (I.hok.fresh (Nat.le_refl _)) (Nat.ne_of_lt (Nat.lt_succ_self _))
 have I2:=Inv.made (C:=C) I
 have r2:Vals (V.ref (s.heap.objs.size+1) :: (vs++dvs)) (Value.ref (s.heap.objs.size+1) :: (us++ds)) := .cons rfl (r.append hd)
 have hl:(Value.ref (s.heap.objs.size+1) :: us++ds).length=ps.length:=by
  have e:=r2.length
  rw [F.len _ _ _ _ hq] at e
  exact e.symm
 refine wpAny_call (ua (f:=f) I.kIn M.makes M.init (beq_iff_eq.mp M.fn) (codeAny_mono (F.run _ X.stack _ _ ⟨Value.ref (s.heap.objs.size+1) :: us,[]⟩ (Value.ref (s.heap.objs.size+1) :: (us++ds)) _ _ E (hr.make C us [])
  (I2.env0.make C us []) (hb _ (Value.ref (s.heap.objs.size+1) :: us) I2.kIn hl) r2 hq) fun r s' hq' => ?_))
 cases r with
 | error e=>exact hx pins σ _ _ e s' I2 hq'
 | ok fl=>
  cases fl with
  | ret u=>
   obtain ⟨v,H',I3,rv,ev,q3⟩:=I2.after hq'
   subst ev
   exact ⟨rv,⟨V.ref (s.heap.objs.size+1),H',I3,rfl,q3⟩⟩
  | next=>exact False.elim hq'
  | brk=>exact False.elim hq'
  | cont=>exact False.elim hq'
theorem wg (M:Mk X.K C f) (F:FnOk X.prog X.w X.K X.mg X.base CX k f fd ps sp) (hr:Room (k+1) X.A) (hg:Gl X x) (hm:X.mg x=some (.ref C)) (hb:Binds X.K fd ps ds) (hd:Vals dvs ds) (hx:cA CX X E)
  (ha:PA X (e :: es) t) (hdb:(x == ("__debug__" : Str))=false:=by decide) (he:starEach (e :: es) X.env=(false,eval e X.env) :: starEach es X.env:=by rfl) (hpl:(backTo pos (starEach es X.env)).any (·.1)=false:=by rfl) :
  PE X (.Call (.Name x p) (e :: es) [] pos) (pM C sp dvs E t):=by
 intro pins s σ H Q I h
 refine wpAny_Call_Name_kw (fQ I hg hm ?_ hdb)
 refine PySem.W.callWith_K (h₀:=X.base) I.ok.mod.kin M.kp (thn (ha pos pins s σ H _ I h) fun us s1 ⟨vs,H1,I1,r,q⟩=>⟨I1.kIn,?_⟩) he hpl
 exact oG M F hr hb hd hx I1 r q
theorem uc (M:Mk X.K C f) (F:FnOk X.prog X.w X.K X.mg X.base CX k f fd ps sp) (hr:Room (k+1) X.A) (hg:Gl X x) (hm:X.mg x=some (.ref C)) (hb:Binds X.K fd ps ds) (hd:Vals dvs ds) (hx:cA CX X E)
  (hdb:(x == ("__debug__" : Str))=false:=by decide):PE X (.Call (.Name x p) [] [] pos) (pM C sp dvs E vr):=by
 intro pins s σ H Q I h
 refine wpAny_Call_Name_kw (fQ I hg hm ?_ hdb)
 exact PySem.W.callWith_K0 I.kIn M.kp (oG (us:=[]) M F hr hb hd hx I .nil h)
end
def PK (X:Cx) (kws:List Keyword) (t:TA):Prop:=
 ∀ (pos:Pos) (pins:List (Addr×Obj)) (s:Shared) (σ:St) (H:Hp) (Q:List V→Hp→Prop),Inv X pins σ H s→t σ H Q→wpAny (model X.prog X.w) X.A (evalAll ((backToKw pos (keywordEach kws X.env)).map (·.2))) (AP X pins σ Q) X.xe s
section
variable {X:Cx} {CX:CXT} {k:Nat} {f C:Addr} {fd:FuncData} {ps ks:List Str} {sp:Sp} {E:XK} {x m:Str} {p pos apos kpos:Pos} {e o:Expr} {es:List Expr} {kws:List Keyword} {te ta:TE} {t tk:TA} {nm:Option Str}
structure KBinds (K:PySem.W.Frag) (fd:FuncData) (ps ks:List Str) (g:List Value→List Value→List Value) (gV:List V→List V→List V):Prop where
 to:∀ (s:Shared) (us ws:List Value),K.In s.heap→(g us ws).length=ps.length→BindsTo s fd ⟨us,ks.zip ws⟩ (ps.zip (g us ws))
 rel:∀ {vs:List V} {us:List Value} {zs:List V} {ws:List Value},Vals vs us→Vals zs ws→Vals (gV vs zs) (g us ws)
def BO (sp:Sp) (gV:List V→List V→List V) (E:XK) (t tk:TA):TE:=fun σ H Q=>t σ H fun vs H1=>tk σ H1 fun zs H2=>sp (gV vs zs) H2 Q E
variable {g:List Value→List Value→List Value} {gV:List V→List V→List V}
end
structure FnScope (N P:List Str) (sc:Scope):Prop where
 kind:sc.kind = .function
 co:sc.isCoroutine=false
 gen:sc.isGenerator=false
 nd:N.Nodup
 pre:N.take P.length=P
 par:∀ x∈P,sc.names.lookup x=some .local∨sc.names.lookup x=some .cell
 nofree:∀ y∈sc.names,y.2 ≠ .free
theorem lj {kindOf:Str→Option NameKind} {x:Str}:∀ {binds:List (Str×Value)} {m:Str→Option Value},(∀ v,(x,v)∉binds)→bindL kindOf binds m x=m x
 | [],_,_=>rfl
 | (n,v) :: r,m,h=>by
  unfold bindL
  rw [lj fun w hw=>h w (List.mem_cons_of_mem _ hw)]
  split
  ·have:x≠n:=by rintro rfl;exact h v List.mem_cons_self
   simp [this]
  ·rfl
theorem ll {kindOf:Str→Option NameKind} {x:Str}:∀ {binds:List (Str×Value)} {m:Str→Option Value},(∀ v,(x,v)∉binds)→bindC kindOf binds m x=m x
 | [],_,_=>rfl
 | (n,v) :: r,m,h=>by
  unfold bindC
  rw [ll fun w hw=>h w (List.mem_cons_of_mem _ hw)]
  split
  ·rfl
  ·have:x≠n:=by rintro rfl;exact h v List.mem_cons_self
   simp [this]
theorem ln {kindOf:Str→Option NameKind} {x:Str} {v:Value}:∀ {P:List Str} {vs:List Value} {i:Nat} {m:Str→Option Value},P.Nodup→P[i]? = some x→vs[i]? = some v→kindOf x=some .local →
  bindL kindOf (P.zip vs) m x=some v
 | [],_,_,_,_,h,_,_=>by simp at h
 | _ :: _,[],_,_,_,_,h,_=>by simp at h
 | p :: P,w :: vs,0,m,nd,h1,h2,hk=>by
  simp at h1 h2;subst h1;subst h2
  show bindL kindOf ((p,w) :: P.zip vs) m p=_
  unfold bindL
  rw [lj fun v hv=>(List.nodup_cons.mp nd).1 (List.of_mem_zip hv).1,if_pos hk]
  simp
 | p :: P,w :: vs,i+1,m,nd,h1,h2,hk=>by
  show bindL kindOf ((p,w) :: P.zip vs) m x=_
  unfold bindL
  exact ln (i:=i) (List.nodup_cons.mp nd).2 (by simpa using h1) (by simpa using h2) hk
theorem lq {kindOf:Str→Option NameKind} {x:Str} {v:Value}:∀ {P:List Str} {vs:List Value} {i:Nat} {m:Str→Option Value},P.Nodup→P[i]? = some x→vs[i]? = some v→kindOf x≠some .local →
  bindC kindOf (P.zip vs) m x=some v
 | [],_,_,_,_,h,_,_=>by simp at h
 | _ :: _,[],_,_,_,_,h,_=>by simp at h
 | p :: P,w :: vs,0,m,nd,h1,h2,hk=>by
  simp at h1 h2;subst h1;subst h2
  show bindC kindOf ((p,w) :: P.zip vs) m p=_
  unfold bindC
  rw [ll fun v hv=>(List.nodup_cons.mp nd).1 (List.of_mem_zip hv).1,if_neg hk]
  simp
 | p :: P,w :: vs,i+1,m,nd,h1,h2,hk=>by
  show bindC kindOf ((p,w) :: P.zip vs) m x=_
  unfold bindC
  exact lq (i:=i) (List.nodup_cons.mp nd).2 (by simpa using h1) (by simpa using h2) hk
def start (N:List Str) (vs:List V):St:=vs.map some++List.replicate (N.length - vs.length) none
def bv (CX:CXT) (P:Program) (w:World) (K:PySem.W.Frag) (mg:Str→Option Value) (base:Heap) (N:List Str) (qual:Str) (scope:Scope) (f:Addr) (cd:Value) (A:Around) (outer:List Env) (s:Shared) (H:Hp) (E:XK):Cx where
 prog:=P
 w:=w
 K:=K
 mg:=mg
 base:=base
 A:=A.deeper (envOfC qual scope s.heap.objs.size f cd)
 N:=N
 s₀:=s
 H₀:=H
 env:=envOfC qual scope s.heap.objs.size f cd
 outer:=outer
 stack:=envOfC qual scope s.heap.objs.size f cd :: outer
 ex:=[]
 calm:=true
 fn:=fun _=>true
 pn:=[]
 xe:=fun e s'=>wpAny (model P w) (A.deeper (envOfC qual scope s.heap.objs.size f cd)) (leaving (envOfC qual scope s.heap.objs.size f cd) e) (fun _ s''=>CX outer H s E e s'') (fun e' s''=>CX outer H s E e' s'') s'
theorem oH {sc:Scope} {n:Nat} {x:Str} (h:sc.names.lookup x=some .cell):∃ c,(cellsFrom n sc.names []).lookup x=some c:=by
 have q:=PySem.W.cellsFrom_some sc.names n [] (.inl h)
 exact Option.isSome_iff_exists.mp q
theorem qW {CX:CXT} {P:Program} {w:World} {K:PySem.W.Frag} {mg:Str→Option Value} {base:Heap} {N ps:List Str} {qual:Str} {scope:Scope} {f:Addr} {cd:Value} {A:Around} {outer:List Env} {s s1:Shared} {H:Hp} {E:XK} {us:List Value} {vs:List V}
  (S:FnScope N ps scope) (hd:A.handled=none) (e0:Env0 P w K mg base A outer s H) (hl:vs.length=ps.length) (r:Vals vs us)
  (x:InCallC s s.heap.objs.size (bindL (envOfC qual scope s.heap.objs.size f cd).kindOf (ps.zip us) fun _=>none) (cellsFrom (s.heap.objs.size+1) scope.names []) (bindC (envOfC qual scope s.heap.objs.size f cd).kindOf (ps.zip us) fun _=>none) s1) :
  Inv (bv CX P w K mg base N qual scope f cd A outer s H E) [] (start N vs) H s1:=by
 have hpl:ps.length≤N.length:=by have:=congrArg List.length S.pre;rw [List.length_take] at this;omega
 obtain ⟨h1,tk,rfl,hk⟩:=x.done
 have noA:∀ b:Addr,b∉(bv CX P w K mg base N qual scope f cd A outer s H E).ex:=fun b z=>absurd (show b∈([]:List Addr) from z) (by simp)
 refine ⟨⟨e0.mod,S.kind,rfl,rfl,Nat.le_refl _,fun y z c h1 h2 => ?_,fun y hy => ?_,fun y c _ h => ?_,fun _=>hd,Around.frames_deeper e0.frames,.inr ⟨rfl,rfl⟩,fun b z=>absurd z (noA b),e0.bs,e0.bsz,fun b _ _=>noA b,fun b z=>absurd z (noA b),e0.funs,e0.frf⟩,
  rfl,e0.bare,Un.kept hk,⟨_,x.toInCall.ns,fun i y v h1 h2 h3 => ?_⟩,fun y c h=>⟨_,x.cell y c h⟩,e0.hok.fresh (Nat.le_refl _),fun y c h => ?_,fun p hp=>absurd (show p∈([]:List (Addr×Obj)) from hp) (by simp),e0.hok.kept hk,?_⟩
 ·exact name_of_addr x.apart (PySem.mem_of_lookup h1) (PySem.mem_of_lookup h2)
 ·have hy:scope.names.lookup y=some .cell∨scope.names.lookup y=some .free:=hy
  rcases hy with hy | hy
  ·exact oH hy
  ·exact absurd rfl (S.nofree _ (PySem.mem_of_lookup hy))
 ·exact Nat.le_of_lt (x.above y c (PySem.mem_of_lookup h))
 ·have hi:i < vs.length:=by
   unfold start at h2
   by_cases hi:i < vs.length
   ·exact hi
   ·rw [List.getElem?_append_right (by simpa using hi)] at h2
    rw [List.getElem?_replicate] at h2
    split at h2 <;> cases h2
  have ha:vs[i]? = some v:=by
   unfold start at h2
   rw [List.getElem?_append_left (by simpa using hi),List.getElem?_map] at h2
   cases e:vs[i]? with
   | none=>rw [e] at h2;cases h2
   | some a=>rw [e] at h2;cases h2;rfl
  obtain ⟨u,hu,rv⟩:=r.get ha
  have hp:ps[i]? = some y:=by
   rw [← S.pre,List.getElem?_take_of_lt (by omega)];exact h1
  have ndP:ps.Nodup:=by rw [← S.pre];exact S.nd.sublist (List.take_sublist _ _)
  refine ⟨u,rv,?_⟩
  rcases S.par y (List.mem_of_getElem? hp) with k | k
  ·exact .inl ⟨k,ln ndP hp hu k⟩
  ·obtain ⟨c,e⟩:=oH (n:=s.heap.objs.size+1) k
   refine .inr ⟨.inl k,c,e,?_⟩
   have q:=x.cell y c e
   rw [lq ndP hp hu (by show scope.names.lookup y≠_;rw [k];decide)] at q
   exact q
 ·exact e0.hok.fresh (Nat.le_of_lt (x.above y c (PySem.mem_of_lookup h)))
 ·unfold start
  show _=N.length
  rw [List.length_append,List.length_map,List.length_replicate]
  omega
theorem yg {CX:CXT} {P:Program} {w:World} {K:PySem.W.Frag} {mg:Str→Option Value} {base:Heap} {k:Nat} {f:Addr} {name qual:Str} {params:Arguments} {body:List Stmt} {scope:Scope} {dV kV doc pm cdv ct oc:Value} {an od:Option Addr}
  {osl:Array (Option Value)} {N ps:List Str} {sp:Sp} (lk:K.lookup f=some ⟨oc,od,.func (PySem.W.fnOf name qual params body scope dV kV doc pm an cdv ct),osl⟩) (hcd:PySem.W.codeIn K cdv qual=true) (S:FnScope N ps scope)
  (len:∀ vs H Q E,sp vs H Q E→vs.length=ps.length)
  (hbody:∀ (A:Around) (outer:List Env) (s:Shared) (H:Hp) (vs:List V) (Q:VK) (E:XK),Room k (A.deeper (envOfC qual scope s.heap.objs.size f cdv))→sp vs H Q E →
   ∃ t,PSs (bv CX P w K mg base N qual scope f cdv A outer s H E) body t∧t {nx:=fun _ H'=>Q .non H',rt:=Q} (start N vs) H) :
  FnOk P w K mg base CX (k+1) f (PySem.W.fnOf name qual params body scope dV kV doc pm an cdv ct) ps sp:=by
 refine ⟨len,fun A outer s H args us vs Q E hr e0 hb r hsp => ?_⟩
 have hl:=len _ _ _ _ hsp
 have KX:K.In s.heap:=e0.mod.kin.keeps fun b o e=>(e0.bs b o e).1
 have lim:s.heap.NoLimit:=e0.mod.nolimit.keeps fun b o e=>(e0.bs b o e).1
 have hkind:∀ y∈ps.zip us,scope.names.lookup y.1=some .local∨(scope.names.lookup y.1=some .cell∧((cellsFrom (s.heap.objs.size+1) scope.names []).lookup y.1).isSome=true):=fun ⟨n,v⟩ hy=>by
  rcases S.par n (List.of_mem_zip hy).1 with q | q
  ·exact .inl q
  ·exact .inr ⟨q,PySem.W.cellsFrom_some _ _ _ (.inl q)⟩
 refine codeAny_call_function hr.depth (KX _ _ lk) rfl S.co S.gen rfl (PySem.W.codeRec_of KX hcd) (hb _ _ _ _ ?_)
 refine wpAny_newFunctionEnv_cells S.kind hkind fun env he s1 x => ?_
 subst he
 refine ⟨lim.keeps x.toInCall.keep,codeAny_func ?_⟩
 obtain ⟨t,ht,hq⟩:=hbody A outer s H vs Q E (hr.deeper _) hsp
 have I:Inv (bv CX P w K mg base N qual scope f cdv A outer s H E) [] (start N vs) H s1:=qW S hr.hd e0 hl r x
 refine wpAny_mono (ht [] s1 (start N vs) H _ I hq) (fun fl s' hs => ?_) fun e s' hs=>hs
 have fin:∀ {σ':St} {H':Hp} {v:V} {u:Value},Inv (bv CX P w K mg base N qual scope f cdv A outer s H E) [] σ' H' s'→RelV v u→Q v H'→CE outer P w H s Q u s':=
  fun {σ' H' v u} J rv q=>⟨v,H',J.os,J.bare,J.base,J.hok,rv,q⟩
 cases fl with
 | ret u=>
  obtain ⟨v,σ',H',J,rv,q⟩:=hs
  exact fin J rv q
 | next=>
  obtain ⟨σ',H',J,q⟩:=hs
  exact fin (v:=V.non) (u:=Value.none) J rfl q
 | brk=>
  obtain ⟨_,_,_,q⟩:=hs
  exact False.elim q
 | cont=>
  obtain ⟨_,_,_,q⟩:=hs
  exact False.elim q
end L2
namespace L2
open PySem PySem.Spec PyProof.Rows
section
variable {X:Cx} {x:Str} {p pos:Pos} {e:Expr} {es:List Expr} {t:TA} {id T:String} {r:List V→Hp→VK→Prop}
def tCB (r:List V→Hp→VK→Prop) (t:TA):TE:=fun σ H Q=>t σ H fun vs H1=>r vs H1 Q
theorem ax (hc:dm X (.builtin id) r) (hg:Gl X x) (hm:X.mg x=none) (hv:bootBuiltins x=some (.builtin id)) (ha:PA X (e :: es) t) (hn:x ≠ "__name__" := by decide) (hdb:(x == ("__debug__" : Str))=false:=by decide)
  (he:starEach (e :: es) X.env=(false,eval e X.env) :: starEach es X.env:=by rfl) (hpl:(backTo pos (starEach es X.env)).any (·.1)=false:=by rfl):PE X (.Call (.Name x p) (e :: es) [] pos) (tCB r t):=by
 intro pins s σ H Q I h
 refine wpAny_Call_Name_kw (lg I hg hm hv ?_ hn hdb)
 exact PyProof.Rows.callWith_builtin1 (thn (ha pos pins s σ H _ I h) fun us s1 ⟨vs,H1,I1,r1,q1⟩=>hc pins s1 σ H1 vs us Q I1 r1 q1) he hpl
theorem cZ (hc:dm X (.type T) r) (hg:Gl X x) (hm:X.mg x=none) (hv:bootBuiltins x=some (.type T)) (ha:PA X (e :: es) t) (hn:x ≠ "__name__" := by decide) (hdb:(x == ("__debug__" : Str))=false:=by decide)
  (he:starEach (e :: es) X.env=(false,eval e X.env) :: starEach es X.env:=by rfl) (hpl:(backTo pos (starEach es X.env)).any (·.1)=false:=by rfl):PE X (.Call (.Name x p) (e :: es) [] pos) (tCB r t):=by
 intro pins s σ H Q I h
 refine wpAny_Call_Name_kw (lg I hg hm hv ?_ hn hdb)
 exact PyProof.Rows.callWith_type1 (thn (ha pos pins s σ H _ I h) fun us s1 ⟨vs,H1,I1,r1,q1⟩=>hc pins s1 σ H1 vs us Q I1 r1 q1) he hpl
end
end L2
namespace HT
open PySem PyProof.Rows
def lexLt:List Int→List Int→Bool
 | [],[]=>false
 | [],_ :: _=>true
 | _ :: _,[]=>false
 | x :: xs,y :: ys=>if x=y then lexLt xs ys else decide (x < y)
theorem lexLt_cons (x y:Int) (xs ys:List Int):lexLt (x :: xs) (y :: ys)=if x=y then lexLt xs ys else decide (x < y):=rfl
theorem lexLt_nil_nil:lexLt [] []=false:=rfl
theorem jy (y:Int) (ys:List Int):lexLt [] (y :: ys)=true:=rfl
theorem jz (x:Int) (xs:List Int):lexLt (x :: xs) []=false:=rfl
theorem ud (A:Around) (s:Shared) (a:Int) (t:Tok) (c:Int) (u:Tok):∃ e,SeqAt.EqAt A s (.int a t) (.int c u) e∧(e=true↔a=c):=
 ⟨(a == c),SeqAt.EqAt.int_int a t c u,by simp⟩
theorem ue (A:Around) (s:Shared) (a:Int) (t:Tok) (c:Int) (u:Tok) (prog:Program) (w:World) (E:Value→Shared→Prop) (Q:Value→Shared→Prop) (h:Q (.bool (decide (a < c))) s) :
  wpAny (model prog w) A (richCompare .Lt (.int a t) (.int c u)) Q E s:=
 (PyProof.Rows.lt_int h:wpAny (model prog w) A (compareOp .Lt (.int a t) (.int c u)) Q E s)
section
open PySem.SeqAt
open PySem.AutoSeq1 (wpAny_loadPart')
open PySem.MeetsSeq PySem.MeetsSeq2 PySem.MeetsSeq3
theorem kf (l b:Addr) (items items2:Array Value) (n n2:Nat) (dd dd2:Option Addr) (sl sl2:Array (Option Value)) (ns ms:List Int) (hi:IntsAre items.toList ns) (hj:IntsAre items2.toList ms) :
  Meets (Builtin.«tuple.__lt__» ⟨[.ref l,.ref b],[]⟩)
   (fun _ R s=>s.heap.get? l=some {cls := .type "tuple",dict:=dd,data := .seq items n,slots:=sl}∧s.heap.get? b=some {cls := .type "tuple",dict:=dd2,data := .seq items2 n2,slots:=sl2} ∧
    R (.ok (.ret (.bool (lexLt ns ms)))) s):=
 .of_wp fun prog w A R s h=>by
  obtain ⟨hp,g,d,tk,os⟩:=s;obtain ⟨hl,hb,h⟩:=h
  have f2:=AutoSeq1.sub_tuple_tuple
  have z1:items.size=ns.length:=by rw [← hi.length];simp
  have z2:items2.size=ms.length:=by rw [← hj.length];simp
  wp_walk using wpAny_loadPart' hl,wpAny_loadPart' hb,wpAny_forIn_list _ (fun rest b s'=>b.1=none∧s'=⟨hp,g,d,tk,os⟩∧∃ (vs ws:List Value) (ns' ms':List Int),rest=vs.zip ws ∧
   IntsAre vs ns'∧IntsAre ws ms'∧ns'.length+items2.size=ms'.length+items.size∧R (.ok (.ret (.bool (lexLt ns' ms')))) ⟨hp,g,d,tk,os⟩) _
  case turn=>
   rintro ⟨y,x⟩ rest b s' ⟨hb',rfl,vs,ws,ns',ms',hz,hvi,hwi,hlen,hR⟩
   cases hvi with
   | nil=>rw [List.zip_nil_left] at hz;cases hz
   | cons a t hvi'=>
    cases hwi with
    | nil=>rw [List.zip_nil_right] at hz;cases hz
    | cons c u hwi'=>
     rw [List.zip_cons_cons] at hz
     injection hz with hyx hrest
     injection hyx with hy hx
     subst hy hx
     rw [lexLt_cons] at hR
     simp only [List.length_cons] at hlen
     obtain ⟨e,he,hiff⟩:=ud A.in1 ⟨hp,g,d,tk,os⟩ a t c u
     refine wpAny_bind (he prog w _ _ ?_)
     cases e with
     | true=>
      rw [if_pos (hiff.mp rfl)] at hR
      wp_walk
      exact ⟨rfl,rfl,_,_,_,_,hrest,hvi',hwi',by omega,hR⟩
     | false=>
      rw [if_neg (fun q=>absurd (hiff.mpr q) Bool.false_ne_true)] at hR
      have hri:=ue A.in1 ⟨hp,g,d,tk,os⟩ a t c u prog w
      wp_walk using hri
      exact ⟨_,rfl,by simpa using hR⟩
  case fin=>
   rintro ⟨b1,b2⟩ s' ⟨hb',rfl,vs,ws,ns',ms',hz,hvi,hwi,hlen,hR⟩
   simp only at hb'
   subst hb'
   have hv:lexLt ns' ms'=decide (items.size < items2.size):=by
    cases hvi with
    | nil=>
     cases hwi with
     | nil=>
      simp only [List.length_nil] at hlen
      rw [lexLt_nil_nil]
      exact (decide_eq_false (by omega)).symm
     | cons c u hw=>
      simp only [List.length_nil,List.length_cons] at hlen
      rw [jy]
      exact (decide_eq_true (by omega)).symm
    | cons a t hv=>
     cases hwi with
     | nil=>
      simp only [List.length_nil,List.length_cons] at hlen
      rw [jz]
      exact (decide_eq_false (by omega)).symm
     | cons c u hw=>
      rw [List.zip_cons_cons] at hz
      cases hz
   rw [hv] at hR
   wp_walk
   exact ⟨_,rfl,by simpa [Builtin.Tuple.tupleCompareSizes] using hR⟩
  case h=>
   exact ⟨rfl,rfl,items.toList,items2.toList,ns,ms,rfl,hi,hj,by omega,h⟩
end
section
variable {prog:Program} {w:World} {A:Around} {E:Value→Shared→Prop} {s:Shared}
theorem lt_tupInts {l b:Addr} {items items2:Array Value} {ns ms:List Int} {Q:Value→Shared→Prop} (hl:IsTup s.heap l items) (hb:IsTup s.heap b items2) (hi:IntsAre items.toList ns) (hj:IntsAre items2.toList ms)
  (hu:A.units < cLine) (h:Q (.bool (lexLt ns ms)) s):wpAny (model prog w) A (compareOp .Lt (.ref l) (.ref b)) Q E s:=by
 obtain ⟨⟨cls,dd,data,sl⟩,ho,hc,n,hd⟩:=id hl
 obtain ⟨⟨cls2,dd2,data2,sl2⟩,ho2,hc2,n2,hd2⟩:=id hb
 simp only at hc hd hc2 hd2
 subst hc hd hc2 hd2
 exact richCompare_meets_room (op := .Lt) ⟨_,ho,rfl⟩ ⟨_,ho2,rfl⟩ PySem.F.slot_tuple_lt PySem.F.entry_tuple_lt (PySem.F.args_tuple_lt_2 _ _) (kf l b items items2 n n2 dd dd2 sl sl2 ns ms hi hj)
  ⟨ho,ho2,show Value.bool (lexLt ns ms)≠Value.notImplemented∧Q (.bool (lexLt ns ms)) s from ⟨(fun x=>nomatch x),h⟩⟩ hu
def sIx (n d:Nat):Option Int→Nat
 | none=>d
 | some v=>if v < 0 then (v+(n:Int)).toNat else min v.toNat n
theorem sIx_none (n d:Nat):sIx n d none=d:=rfl
theorem sIx_nat (n d k:Nat):sIx n d (some (k:Int))=min k n:=by
 show (if (k:Int) < 0 then ((k:Int)+(n:Int)).toNat else min (k:Int).toNat n)=min k n
 rw [if_neg (by omega),Int.toNat_natCast]
end
end HT
namespace L2
open PySem PySem.Spec PyProof.Rows
abbrev TO:=St→Hp→(Option Int→Hp→Prop)→Prop
def PO (X:Cx) (e:Option Expr) (t:TO):Prop:=
 ∀ (pins:List (Addr×Obj)) (s:Shared) (σ:St) (H:Hp) (Q:Option Int→Hp→Prop),Inv X pins σ H s→t σ H Q →
  wpAny (model X.prog X.w) X.A (evalPart e X.env) (fun u s'=>∃ o H',Inv X pins σ H' s'∧IsPart u o∧Q o H') X.xe s
def qX:TO:=fun _ H Q=>Q none H
def yh (t:TE):TO:=fun σ H Q=>t σ H fun x H1=>∃ i,x = .int i∧Q (some i) H1
theorem eJ {ns:List Int}:∀ {us:List Value},Vals (ns.map V.int) us→IntsAre us ns:=by
 induction ns with
 | nil=>intro us r;rw [List.map_nil] at r;cases r;exact .nil
 | cons n ns ih=>
  intro us r
  rw [List.map_cons] at r
  cases r with
  | cons r1 r2=>
   obtain ⟨t,e⟩:=r1
   subst e
   exact .cons n t (ih r2)
section
variable {X:Cx} {e:Expr} {te:TE} {lo hi:Option Expr} {tl th:TO} {pos p2:Pos}
theorem gY:PO X none qX:=by
 intro pins s σ H Q I h
 rw [evalPart_none]
 exact wpAny_pure ⟨none,H,I,.none,h⟩
theorem cc (h:PE X e te):PO X (some e) (yh te):=by
 intro pins s σ H Q I hw
 rw [evalPart_some]
 refine thn (h pins s σ H _ I hw) fun u s1 ⟨x,H1,I1,r1,q1⟩ => ?_
 obtain ⟨i,rfl,q⟩:=q1
 obtain ⟨t,rfl⟩:=r1
 exact ⟨some i,H1,I1,.int i t,q⟩
def SlR (X:Cx) (r:V→Option Int→Option Int→Hp→VK→Prop):Prop:=
 ∀ (pins:List (Addr×Obj)) (s:Shared) (σ:St) (H:Hp) (x:V) (v vl vu:Value) (lo hi:Option Int) (sl:Addr) (Q:VK),Inv X pins σ H s→RelV x v→s.heap.IsSliceOf sl vl vu .none→IsPart vl lo→IsPart vu hi→r x lo hi H Q →
  ∃ T id,typeLookup (.type T) "__getitem__" = pure (some (.builtin id))∧s.TypeIs v T∧wpAny (model X.prog X.w) X.A (getItem v (.ref sl)) (EP X pins σ Q) X.xe s
def tSl (r:V→Option Int→Option Int→Hp→VK→Prop) (te:TE) (tl th:TO):TE:=fun σ H Q=>te σ H fun x H1=>tl σ H1 fun l H2=>th σ H2 fun u H3=>r x l u H3 Q
theorem cq {r:V→Option Int→Option Int→Hp→VK→Prop} (hr:SlR X r) (he:PE X e te) (hl:PO X lo tl) (hu:PO X hi th):PE X (.Subscript e (.Slice lo hi none p2) pos) (tSl r te tl th):=by
 intro pins s σ H Q I h
 refine Subscript_ (thn (he pins s σ H _ I h) fun v s1 ⟨x,H1,I1,r1,q1⟩ => ?_)
 refine wpAny_Slice (thn (hl pins s1 σ H1 _ I1 q1) fun vl s2 ⟨l,H2,I2,pl,q2⟩=>thn (hu pins s2 σ H2 _ I2 q2) fun vu s3 ⟨u,H3,I3,pu,q3⟩ => ?_)
 rw [evalPart_none]
 refine wpAny_pure ?_
 have I4:Inv X pins σ H3 {s3 with heap:=s3.heap.push {cls := .type "slice",data := .fields #[vl,vu,.none]}}:=I3.kept (t':=s3.toks) fun b ob q=>Heap.get?_push_of_some _ q
 obtain ⟨T,id,hT,ht,hg⟩:=hr pins {s3 with heap:=s3.heap.push {cls := .type "slice",data := .fields #[vl,vu,.none]}} σ H3 x v vl vu l u s3.heap.objs.size Q I4 r1 (Heap.IsSliceOf.new ..) pl pu q3
 show wpAny (model X.prog X.w) X.A (subscriptTail e (.Slice lo hi none p2) v (.ref s3.heap.objs.size)) (EP X pins σ Q) X.xe {s3 with heap:=s3.heap.push {cls := .type "slice",data := .fields #[vl,vu,.none]}}
 exact tail_any (ops:=[.ref s3.heap.objs.size,v]) ht hT hg (by with_unfolding_all rfl)
def kg (xs:List V) (lo hi:Option Int):List V:=(xs.drop (HT.sIx xs.length 0 lo)).take (HT.sIx xs.length xs.length hi - HT.sIx xs.length 0 lo)
theorem m9 (xs:List V) (lo hi:Option Int):(kg xs lo hi).length≤xs.length:=by
 unfold kg
 rw [List.length_take,List.length_drop]
 omega
def Di (K:PySem.W.Frag):V→Option Int→Option Int→Hp→VK→Prop:=fun x lo hi H Q=>∃ a xs,x = .ref a∧SqT K H a xs ∧
 ¬ (HT.sIx xs.length 0 lo=0∧HT.sIx xs.length xs.length hi=xs.length)∧∀ p,H p=none→Q (.ref p) (upd H p (.tup (kg xs lo hi)))
def Dj (K:PySem.W.Frag):R2:=fun x y H Q=>∃ a b ns ms,x = .ref a∧y = .ref b∧SqT K H a (ns.map V.int)∧SqT K H b (ms.map V.int)∧Q (.bl (HT.lexLt ns ms)) H
def Cu (K:PySem.W.Frag):R2:=fun x y H Q=>∃ a b xs ys,x = .ref a∧y = .ref b∧SqT K H a xs∧SqT K H b ys∧xs≠[]∧xs.length+ys.length≤sizeLine ∧
 (ys=[]→Q (.ref a) H)∧(ys≠[]→∀ p,H p=none→Q (.ref p) (upd H p (.tup (xs++ys))))
end
end L2
namespace L2
open PySem PySem.Spec PyProof.Rows
def ixN (n:Nat) (i:Int):Option Nat:=if 0≤i then (if i < n then some i.toNat else none) else if -(n:Int)≤i then some (i+n).toNat else none
def atI {α:Type} (xs:List α) (i:Int):Option α:=(ixN xs.length i).bind fun j=>xs[j]?
theorem qY {n:Nat} {i:Int} {j:Nat} (h:ixN n i=some j):seqIndex? i n=some j∧j < n ∧ -(n:Int)≤i∧i < n:=by
 unfold ixN at h
 by_cases h0:0≤i
 ·rw [if_pos h0] at h
  by_cases h1:i < n
  ·rw [if_pos h1] at h
   have e:i.toNat=j:=Option.some.inj h
   exact ⟨by rw [seqIndex_of h0 h1,e],by omega,by omega,h1⟩
  ·rw [if_neg h1] at h;cases h
 ·rw [if_neg h0] at h
  by_cases h1 : -(n:Int)≤i
  ·rw [if_pos h1] at h
   have e:(i+n).toNat=j:=Option.some.inj h
   exact ⟨by rw [seqIndex_neg (by omega) h1,e],by omega,h1,by omega⟩
  ·rw [if_neg h1] at h;cases h
theorem qZ {α:Type} {xs:List α} {i:Int} {v:α} (h:atI xs i=some v):∃ j,seqIndex? i xs.length=some j∧xs[j]? = some v∧j < xs.length ∧ -(xs.length:Int)≤i∧i < xs.length:=by
 unfold atI at h
 cases e:ixN xs.length i with
 | none=>rw [e] at h;cases h
 | some j=>
  rw [e] at h
  obtain ⟨h1,h2,h3,h4⟩:=qY e
  exact ⟨j,h1,h,h2,h3,h4⟩
theorem kh {α:Type} {xs:List α} {j:Nat} {v:α} (h:xs[j]? = some v):atI xs (j:Int)=some v:=by
 have hj:j < xs.length:=(List.getElem?_eq_some_iff.mp h).1
 have e:ixN xs.length (j:Int)=some j:=by
  unfold ixN
  rw [if_pos (by omega),if_pos (by omega)];simp
 unfold atI;rw [e];exact h
theorem uf {α:Type} (xs:List α) (v:α):atI (xs++[v]) (-1)=some v:=by
 have hl:(xs++[v]).length=xs.length+1:=by simp
 have e:ixN (xs++[v]).length (-1)=some xs.length:=by
  unfold ixN
  rw [hl,if_neg (by decide),if_pos (by omega)]
  congr 1
  omega
 unfold atI
 rw [e]
 show (xs++[v])[xs.length]? = some v
 simp
def wj (b:Expr):Prop:=∀ o i,subscripted b false o i=operate [o,i] (getItem o i)
def IxR (X:Cx) (r:R2):Prop:=
 ∀ (value slice:Expr) (pins:List (Addr×Obj)) (s:Shared) (σ:St) (H:Hp) (x y:V) (v u:Value) (Q:VK),Inv X pins σ H s→RelV x v→RelV y u→r x y H Q →
  subscripted slice false v u=operate [v,u] (getItem v u)→wpAny (model X.prog X.w) X.A (subscriptTail value slice v u) (EP X pins σ Q) X.xe s
def MtR (X:Cx) (id:String) (r:V→List V→Hp→VK→Prop):Prop:=
 ∀ (pins:List (Addr×Obj)) (s:Shared) (σ:St) (H:Hp) (x:V) (xs:List V) (v:Value) (us:List Value) (Q:VK),Inv X pins σ H s→RelV x v→Vals xs us→r x xs H Q →
  wpAny (model X.prog X.w) X.A (call (.builtin id) (v :: us)) (EP X pins σ Q) X.xe s
section
variable {X:Cx} {a b:Expr} {ta tb:TE} {pos:Pos}
theorem aW {r:R2} (hr:IxR X r) (ha:PE X a ta) (hb:PE X b tb) (hs:wj b):PE X (.Subscript a b pos) (tOp r ta tb):=by
 intro pins s σ H Q I h
 exact Subscript_ (Ag ha hb I h fun v u s2 x y H2 I2 rx ry q=>hr a b pins s2 σ H2 x y v u Q I2 rx ry q (hs _ _))
def wk (K:PySem.W.Frag):R2:=fun x y H Q=>∃ p xs i v,x = .ref p∧y = .int i∧SqL K H p xs∧atI xs i=some v∧Q v H
def wm (K:PySem.W.Frag):R2:=fun x y H Q=>∃ p xs i v,x = .ref p∧y = .int i∧SqT K H p xs∧atI xs i=some v∧Q v H
def Cv:R2:=fun x y H Q=>∃ z i c,x = .str z∧y = .int i∧z.length≤sizeLine∧atI z.cps.toList i=some c∧Q (.str ⟨#[c]⟩) H
theorem wo:IxR X (wk X.K):=by
 intro value slice pins s σ H x y v u Q I rx ry h hs
 obtain ⟨p,xs,i,z,rfl,rfl,hq,he,q⟩:=h
 cases rx
 obtain ⟨t,rfl⟩:=ry
 obtain ⟨its,r,pl,hz⟩:=I.list hq
 obtain ⟨j,h1,h2,h3,h4,h5⟩:=qZ he
 obtain ⟨w,ew,rw'⟩:=r.get h2
 have hl:=r.length
 have hn:=lh
 have fin:EP X pins σ Q w s:=⟨z,H,I,rw',q⟩
 by_cases h0:0≤i
 ·have hj:i.toNat=j:=by
   rw [seqIndex_of h0 h5] at h1
   exact Option.some.inj h1
  exact item_listR pl.isList h0 (by omega) (by rw [hj];simpa using ew) fin hs
 ·have hj:(i+(its.toArray.size:Int)).toNat=j:=by
   rw [seqIndex_neg (by omega) h4] at h1
   rw [List.size_toArray,← hl]
   exact Option.some.inj h1
  exact subscriptTail_builtinR (x:=w) pl.isList.typeIs slot_list_getitem.lookup
   (wpAny_getItem_list_neg (Q:=fun r s'=>r=w∧EP X pins σ Q r s') pl.isList (by omega) (by rw [List.size_toArray] <;> omega) (by omega) (by rw [hj];simpa using ew) ⟨rfl,fin⟩) hs
theorem yi:IxR X (wm X.K):=by
 intro value slice pins s σ H x y v u Q I rx ry h hs
 obtain ⟨p,xs,i,z,rfl,rfl,hq,he,q⟩:=h
 cases rx
 obtain ⟨t,rfl⟩:=ry
 obtain ⟨its,r,pl,hz⟩:=I.tuple hq
 obtain ⟨j,h1,h2,h3,h4,h5⟩:=qZ he
 obtain ⟨w,ew,rw'⟩:=r.get h2
 have hl:=r.length
 have hn:=lh
 have fin:EP X pins σ Q w s:=⟨z,H,I,rw',q⟩
 exact subscriptTail_builtinR (x:=w) pl.typeIs slot_tuple_getitem.lookup
  (getItem_tuple (j:=j) (Q:=fun r s'=>r=w∧EP X pins σ Q r s') pl (by omega) (by omega) (by rw [List.size_toArray,← hl];exact h1) (by simpa using ew) ⟨rfl,fin⟩) hs
def rIx (K:PySem.W.Frag):R2:=fun x y H Q=>wk K x y H Q∨wm K x y H Q∨Cv x y H Q
theorem pN (its:List Value) (n j:Nat) (u:Value):Obj.mapSeq (·.setIfInBounds j u) {cls := .type "list",data := .seq its.toArray n}={cls := .type "list",data := .seq (its.set j u).toArray n}:=by
 simp [Obj.mapSeq]
theorem Inv.lst {pins:List (Addr×Obj)} {σ:St} {H:Hp} {s:Shared} {p:Addr} {xs:List V} (I:Inv X pins σ H s) (h:H p=some (.lst xs)) :
  ∃ (its:List Value) (n:Nat),Vals xs its∧s.heap.get? p=some {cls := .type "list",data := .seq its.toArray n}∧xs.length≤sizeLine:=by
 obtain ⟨z,its,n,r,e⟩:=I.hok p _ h
 exact ⟨its,n,r,e,z⟩
theorem Inv.lstUpd {pins:List (Addr×Obj)} {σ:St} {H:Hp} {s:Shared} {p:Addr} {xs ys:List V} {its its':List Value} {n n':Nat} {f:Obj→Obj} (I:Inv X pins σ H s) (h:H p=some (.lst xs))
  (ho:s.heap.get? p=some {cls := .type "list",data := .seq its.toArray n}) (hf:f {cls := .type "list",data := .seq its.toArray n}={cls := .type "list",data := .seq its'.toArray n'}) (r:Vals ys its') (hz:ys.length≤sizeLine) (t:Nat) :
  Inv X pins σ (upd H p (.lst ys)) {s with heap:=s.heap.update p f,toks:=t}:=by
 have e:(s.heap.update p f).get? p=some {cls := .type "list",data := .seq its'.toArray n'}:=by
  rw [Heap.get?_update_self f ho (by rw [hf] <;> rfl),hf]
 refine I.write (x:=p) (e:=p) (by rw [h];trivial) (.inl rfl) (fun b u hb q=>(Heap.get?_update_other _ _ (Ne.symm hb)).trans q) ⟨_,e⟩ ?_
 exact ⟨hz,its',n',r,e⟩
def yj:V→V→V→Hp→(Hp→Prop)→Prop:=fun o i v H Q=>∃ p xs k j,o = .ref p∧i = .int k∧H p=some (.lst xs)∧ixN xs.length k=some j∧Q (upd H p (.lst (xs.set j v)))
theorem ug:BG X yj:=by
 intro pins s σ H o i v ov iv u Q I ro ri rv h
 obtain ⟨p,xs,k,j,rfl,rfl,hp,hj,q⟩:=h
 cases ro
 obtain ⟨t,rfl⟩:=ri
 obtain ⟨its,n,r,ho,hz⟩:=I.lst hp
 obtain ⟨h1,h2,h3,h4⟩:=qY hj
 have hl:=r.length
 have hn:=lh
 have I':Inv X pins σ (upd H p (.lst (xs.set j v))) {s with heap:=s.heap.update p (Obj.mapSeq (·.setIfInBounds j u))}:=
  I.lstUpd hp ho (pN its n j u) (r.set rv j) (by rw [List.length_set];exact hz) s.toks
 by_cases h0:0≤k
 ·have hk:k.toNat=j:=by
   rw [seqIndex_of h0 h4] at h1
   exact Option.some.inj h1
  exact PySem.W.ki_setAt ho h0 (by omega) (by rw [List.size_toArray,← hl];exact h4) (by rw [hk];exact ⟨_,I',q⟩)
 ·have hk:(k+(its.toArray.size:Int)).toNat=j:=by
   rw [seqIndex_neg (by omega) h3] at h1
   rw [List.size_toArray,← hl]
   exact Option.some.inj h1
  exact PySem.W.ki_setBack ho (by omega) (by rw [List.size_toArray,← hl];exact h3) (by omega) (by rw [hk];exact ⟨_,I',q⟩)
theorem ls (lo hi:Option Int) (n:Nat):(sliceBounds lo hi none n).1=((HT.sIx n 0 lo:Nat):Int)∧(sliceBounds lo hi none n).2.1=((HT.sIx n n hi:Nat):Int)∧(sliceBounds lo hi none n).2.2=1:=by
 refine ⟨?_,?_,rfl⟩
 ·cases lo with
  | none=>simp [sliceBounds,HT.sIx]
  | some i=>
   simp only [sliceBounds,HT.sIx,Option.getD_none,show (1:Int) > 0 by decide,if_true]
   by_cases h:i < 0
   ·simp only [h,if_true] <;> omega
   ·simp only [h,if_false] <;> omega
 ·cases hi with
  | none=>simp [sliceBounds,HT.sIx]
  | some i=>
   simp only [sliceBounds,HT.sIx,Option.getD_none,show (1:Int) > 0 by decide,if_true]
   by_cases h:i < 0
   ·simp only [h,if_true] <;> omega
   ·simp only [h,if_false] <;> omega
theorem ki (its:List Value) (lo hi:Option Int):slicePick its.toArray lo hi none=((its.drop (HT.sIx its.length 0 lo)).take (HT.sIx its.length its.length hi - HT.sIx its.length 0 lo)).toArray:=by
 obtain ⟨h1,h2,h3⟩:=ls lo hi its.toArray.size
 unfold slicePick
 rw [h1,h2,h3]
 simp only [sliceRange_one,pick_run,List.size_toArray] <;> rfl
def Ak (K:PySem.W.Frag):V→Option Int→Option Int→Hp→VK→Prop:=fun x lo hi H Q=>∃ a xs,x = .ref a∧SqL K H a xs∧∀ p,H p=none→Q (.ref p) (upd H p (.lst (kg xs lo hi)))
theorem wp:SlR X (Ak X.K):=by
 intro pins s σ H x v vl vu lo hi sl Q I rx hs pl pu h
 obtain ⟨a,xs,rfl,hx,q⟩:=h
 cases rx
 obtain ⟨its,r,ht,hz⟩:=I.list hx
 have hlen:=r.length
 refine ⟨"list",_,slot_list_getitem.lookup,ht.isList.typeIs,?_⟩
 refine wpAny_getItem_list_slice ht.isList hs pl pu .none (by simp) ?_ (by rw [List.size_toArray] <;> omega)
 rw [ki,← hlen]
 refine ⟨.ref s.heap.objs.size,_,I.laid (t':=s.toks) (o := .lst (kg xs lo hi)) (fun b ob q=>Heap.get?_push_of_some _ q) (Nat.le_refl _) ?_,rfl,q _ (I.hok.fresh (Nat.le_refl _))⟩
 exact ⟨Nat.le_trans (m9 xs lo hi) hz,_,0,(r.drop (HT.sIx xs.length 0 lo)).take (HT.sIx xs.length xs.length hi - HT.sIx xs.length 0 lo),Heap.get?_push_size _ rfl⟩
def iT:V→Bool
 | .non=>true
 | .bl _=>true
 | .int _=>true
 | .str _=>true
 | _=>false
def eqV:V→V→Bool
 | .non,.non=>true
 | .bl a,.bl b=>a == b
 | .bl a,.int b=>(if a then 1 else 0) == b
 | .int a,.bl b=>a == (if b then 1 else 0)
 | .int a,.int b=>a == b
 | .str a,.str b=>a == b
 | _,_=>false
theorem q9 {A:Around} {s:Shared} {y x:V} {u v:Value} (ry:RelV y u) (rx:RelV x v) (fy:iT y=true) (fx:iT x=true):SeqAt.EqAt A s u v (eqV y x):=by
 cases y with
 | non=>
  cases ry
  cases x with
  | non=>cases rx;exact SeqAt.EqAt.same _
  | bl b=>cases rx;exact SeqAt.EqAt.none_bool b
  | int b=>obtain ⟨t,rfl⟩:=rx;exact SeqAt.EqAt.none_int b t
  | str b=>obtain ⟨t,rfl⟩:=rx;exact SeqAt.EqAt.none_str b t
  | _=>exact absurd (show false=true from fx) Bool.false_ne_true
 | bl a=>
  cases ry
  cases x with
  | non=>cases rx;exact SeqAt.EqAt.bool_none a
  | bl b=>cases rx;exact SeqAt.EqAt.bool_bool a b
  | int b=>obtain ⟨t,rfl⟩:=rx;exact SeqAt.EqAt.bool_int a b t
  | str b=>obtain ⟨t,rfl⟩:=rx;exact SeqAt.EqAt.bool_str a b t
  | _=>exact absurd (show false=true from fx) Bool.false_ne_true
 | int a=>
  obtain ⟨t',rfl⟩:=ry
  cases x with
  | non=>cases rx;exact SeqAt.EqAt.int_none a t'
  | bl b=>cases rx;exact SeqAt.EqAt.int_bool a t' b
  | int b=>obtain ⟨t,rfl⟩:=rx;exact SeqAt.EqAt.int_int a t' b t
  | str b=>obtain ⟨t,rfl⟩:=rx;exact SeqAt.EqAt.int_str a t' b t
  | _=>exact absurd (show false=true from fx) Bool.false_ne_true
 | str a=>
  obtain ⟨t',rfl⟩:=ry
  cases x with
  | non=>cases rx;exact SeqAt.EqAt.str_none a t'
  | bl b=>cases rx;exact SeqAt.EqAt.str_bool a t' b
  | int b=>obtain ⟨t,rfl⟩:=rx;exact SeqAt.EqAt.str_int a t' b t
  | str b=>obtain ⟨t,rfl⟩:=rx;exact SeqAt.EqAt.str_str a t' b t
  | _=>exact absurd (show false=true from fx) Bool.false_ne_true
 | _=>exact absurd (show false=true from fy) Bool.false_ne_true
def eqU (x:V) (u:Value):Bool:=match u with
 | .none=>eqV .non x
 | .bool b=>eqV (.bl b) x
 | .int i _=>eqV (.int i) x
 | .str z _=>eqV (.str z) x
 | _=>false
theorem vt {x y:V} {u:Value} (r:RelV y u) (f:iT y=true):eqU x u=eqV y x:=by
 cases y with
 | non=>cases r;rfl
 | bl b=>cases r;rfl
 | int i=>obtain ⟨t,rfl⟩:=r;rfl
 | str z=>obtain ⟨t,rfl⟩:=r;rfl
 | _=>exact absurd (show false=true from f) Bool.false_ne_true
theorem iU {x:V}:∀ {xs:List V} {us:List Value},Vals xs us→xs.all iT=true→us.any (eqU x)=xs.any fun y=>eqV y x
 | _,_,.nil,_=>rfl
 | y :: xs,u :: us,.cons r t,f=>by
  rw [List.all_cons,Bool.and_eq_true] at f
  rw [List.any_cons,List.any_cons,vt r f.1,iU t f.2]
theorem gv {A:Around} {s:Shared} {x:V} {v:Value} (rx:RelV x v) (fx:iT x=true):∀ {xs:List V} {us:List Value},Vals xs us→xs.all iT=true→∀ u∈us,SeqAt.EqAt A s u v (eqU x u)
 | _,_,.nil,_=>fun u hu=>by cases hu
 | y :: xs,u :: us,.cons r t,f=>fun u' hu=>by
  rw [List.all_cons,Bool.and_eq_true] at f
  rcases List.mem_cons.mp hu with rfl | hu
  ·rw [vt r f.1];exact q9 r rx f.1 fx
  ·exact gv rx fx t f.2 u' hu
def inV (x:V) (xs:List V):Bool:=xs.any fun y=>eqV y x
def rIn (K:PySem.W.Frag) (neg:Bool):R2:=fun x y H Q=>∃ p xs,y = .ref p∧(SqL K H p xs∨SqT K H p xs)∧iT x=true∧xs.all iT=true∧Q (.bl (if neg then !inV x xs else inV x xs)) H
theorem ra:OpR X (compareOp .In) (rIn X.K false):=by
 intro pins s σ H x y v u Q I rx ry h
 obtain ⟨p,xs,rfl,hq,fx,fs,q⟩:=h
 cases ry
 rcases hq with hq | hq
 ·obtain ⟨its,r,pl,hz⟩:=I.list hq
  refine SeqAt.in_listAt (eqU x) pl.isList (fun w hw=>gv rx fx r fs w (by simpa using hw)) ⟨.bl _,H,I,rfl,?_⟩
  rw [show its.toArray.any (eqU x)=its.any (eqU x) by simp,iU r fs]
  exact q
 ·obtain ⟨its,r,pl,hz⟩:=I.tuple hq
  refine SeqAt.in_tupleAt (eqU x) pl (fun w hw=>gv rx fx r fs w (by simpa using hw)) ⟨.bl _,H,I,rfl,?_⟩
  rw [show its.toArray.any (eqU x)=its.any (eqU x) by simp,iU r fs]
  exact q
theorem lu:OpR X (compareOp .NotIn) (rIn X.K true):=by
 intro pins s σ H x y v u Q I rx ry h
 obtain ⟨p,xs,rfl,hq,fx,fs,q⟩:=h
 cases ry
 rcases hq with hq | hq
 ·obtain ⟨its,r,pl,hz⟩:=I.list hq
  refine SeqAt.notIn_listAt (eqU x) pl.isList (fun w hw=>gv rx fx r fs w (by simpa using hw)) ⟨.bl _,H,I,rfl,?_⟩
  rw [show its.toArray.any (eqU x)=its.any (eqU x) by simp,iU r fs]
  exact q
 ·obtain ⟨its,r,pl,hz⟩:=I.tuple hq
  refine SeqAt.notIn_tupleAt (eqU x) pl (fun w hw=>gv rx fx r fs w (by simpa using hw)) ⟨.bl _,H,I,rfl,?_⟩
  rw [show its.toArray.any (eqU x)=its.any (eqU x) by simp,iU r fs]
  exact q
theorem lv:dm X (.builtin "len") (fun xs H Q=>∃ p ys,xs=[.ref p]∧(SqL X.K H p ys∨SqT X.K H p ys)∧Q (.int ys.length) H):=by
 intro pins s σ H xs us Q I r h
 obtain ⟨p,ys,rfl,hq,q⟩:=h
 obtain ⟨u,rfl,rx⟩:=ke r
 cases rx
 have hn:=lh
 rcases hq with hq | hq
 ·obtain ⟨its,r',pl,hz⟩:=I.list hq
  have hlen:=r'.length
  exact Calls.call_len_list pl.isList (by simp only [List.size_toArray] <;> omega) ⟨.int ys.length,H,I.tok _,⟨s.toks+1,by rw [List.size_toArray,hlen]⟩,q⟩
 ·obtain ⟨its,r',pl,hz⟩:=I.tuple hq
  have hlen:=r'.length
  exact len_tuple pl (by simp only [List.size_toArray] <;> omega) ⟨.int ys.length,H,I.tok _,⟨s.toks+1,by rw [List.size_toArray,hlen]⟩,q⟩
theorem lz:dm X (.type "list") (fun xs H Q=>∃ p ys,xs=[.ref p]∧(SqL X.K H p ys∨SqT X.K H p ys)∧∀ l,H l=none→Q (.ref l) (upd H l (.lst ys))):=by
 intro pins s σ H xs us Q I r h
 obtain ⟨p,ys,rfl,hq,q⟩:=h
 obtain ⟨u,rfl,rx⟩:=ke r
 cases rx
 have fin:∀ (its:List Value),Vals ys its→ys.length≤sizeLine→∀ (h':Heap) (c':Nat),(∀ b o',s.heap.get? b=some o'→h'.get? b=some o') →
   h'.get? s.heap.objs.size=some {cls := .type "list",dict:=none,data := .seq its.toArray c',slots:=#[]}→EP X pins σ Q (.ref s.heap.objs.size) {s with heap:=h'}:=fun its r' hz h' c' kp e=>
  ⟨.ref s.heap.objs.size,_,I.laid (t':=s.toks) kp (Nat.le_refl _) (show ObjOk X.prog X.w _ h' _ (.lst ys) from ⟨hz,its,c',r',e⟩),rfl,q _ (I.hok.fresh (Nat.le_refl _))⟩
 rcases hq with hq | hq
 ·obtain ⟨its,r',pl,hz⟩:=I.list hq
  have hlen:=r'.length
  obtain ⟨o,ho,hc,n,hd⟩:=pl.isList
  exact call_list_seq p (.inl rfl) ho hc hd (fun h' c' kp e=>fin its r' hz h' c' kp e) (by simp only [List.size_toArray] <;> omega)
 ·obtain ⟨its,r',pl,hz⟩:=I.tuple hq
  have hlen:=r'.length
  obtain ⟨o,ho,hc,n,hd⟩:=pl
  exact call_list_seq p (.inr rfl) ho hc hd (fun h' c' kp e=>fin its r' hz h' c' kp e) (by simp only [List.size_toArray] <;> omega)
def tyV (K:PySem.W.Frag) (T:String) (x:V) (H:Hp):Prop:=match x with
 | .str _=>T = "str"
 | .int _=>T = "int"
 | .ref p=>(T = "list" ∧ ∃ xs,SqL K H p xs)∨(T = "tuple" ∧ ∃ o,K.lookup p=some o∧o.cls = .type "tuple" ∧ o.dict=none) ∨
   (T = "dict" ∧ ((∃ kvs,H p=some (.dK kvs))∨∃ kvs,H p=some (.dT kvs)))∨(T = "set" ∧ ∃ S n,H p=some (.set S n))
 | _=>False
theorem yk {pins:List (Addr×Obj)} {σ:St} {H:Hp} {s:Shared} {T:String} {x:V} {v:Value} (I:Inv X pins σ H s) (r:RelV x v) (ty:tyV X.K T x H) :
  s.TypeIs v T∧∀ a,v = .ref a→∃ ob,s.heap.get? a=some ob∧ob.dict=none:=by
 cases x with
 | str z=>
  obtain ⟨t,rfl⟩:=r
  cases (show T = "str" from ty)
  exact ⟨typeIs_str s z t,fun _ e=>nomatch e⟩
 | int i=>
  obtain ⟨t,rfl⟩:=r
  cases (show T = "int" from ty)
  exact ⟨typeIs_int s i t,fun _ e=>nomatch e⟩
 | ref p=>
  cases r
  rcases ty with ⟨rfl,xs,hq⟩ | ⟨rfl,o,hk,hc,hd⟩ | ⟨rfl,hk⟩ | ⟨rfl,S,n,hk⟩
  ·obtain ⟨its,_,pl,_⟩:=I.list hq
   refine ⟨pl.isList.typeIs,fun a e => ?_⟩
   cases e
   obtain ⟨o,n,e,c,hd,_⟩:=pl
   exact ⟨o,e,hd⟩
  ·refine ⟨⟨o,I.kIn p o hk,hc⟩,fun a e => ?_⟩
   cases e
   exact ⟨o,I.kIn _ o hk,hd⟩
  ·have z:∃ o,s.heap.get? p=some o∧o.ExactDict:=by
    rcases hk with ⟨kvs,hk⟩ | ⟨kvs,hk⟩
    ·obtain ⟨_,_,_,_,o,_,_,e,ex,_⟩:=I.hok p _ hk
     exact ⟨o,e,ex⟩
    ·obtain ⟨_,_,_,_,o,_,_,e,ex,_⟩:=I.hok p _ hk
     exact ⟨o,e,ex⟩
   obtain ⟨o,e,ex⟩:=z
   refine ⟨⟨o,e,ex.1⟩,fun a e2 => ?_⟩
   cases e2
   exact ⟨o,e,ex.2.1⟩
  ·obtain ⟨o,_,_,_,e,ex,_⟩:=I.hok p _ hk
   refine ⟨⟨o,e,ex.1⟩,fun a e2 => ?_⟩
   cases e2
   exact ⟨o,e,ex.2.1⟩
 | _=>exact False.elim ty
def Dk (K:PySem.W.Frag) (T:String) (r:V→List V→Hp→VK→Prop) (to:TE):TE:=fun σ H Q=>to σ H fun x H1=>tyV K T x H1∧r x [] H1 Q
def tBM (K:PySem.W.Frag) (T:String) (r:V→List V→Hp→VK→Prop) (to:TE) (t:TA):TE:=fun σ H Q=>to σ H fun x H1=>tyV K T x H1∧t σ H1 fun xs H2=>r x xs H2 Q
variable {o e:Expr} {es:List Expr} {to:TE} {t:TA} {name:Str} {apos cpos:Pos} {T id:String} {r:V→List V→Hp→VK→Prop}
theorem Al (pa:PlainAttrs T) (slot:Slot T name id) (hty:typeOf (.builtin id)=pure (.type "method_descriptor")) (hm:MtR X id r) (ho:PE X o to) (ha:PA X (e :: es) t)
  (hbase:attributeBase o name X.env (eval o X.env)=eval o X.env:=by rfl)
  (hfew:((backTo cpos (starEach (e :: es) X.env)).all (fun x => !x.1) && (backToKw cpos (keywordEach [] X.env)).all (fun x=>x.1.isSome)
   && decide ((e :: es).length+([]:List Keyword).length+(if ([]:List Keyword).isEmpty then 0 else 1) < 30))=true:=by rfl)
  (hline:(apos.endLine == cpos.line)=true:=by rfl) (hs:starEach (e :: es) X.env=(false,eval e X.env) :: starEach es X.env:=by rfl) (hplain:(backTo cpos (starEach es X.env)).any (·.1)=false:=by rfl) :
  PE X (.Call (.Attribute o name apos) (e :: es) [] cpos) (tBM X.K T r to t):=by
 intro pins s σ H Q I h
 refine wpAny_Call_method_late hbase hfew hline rfl (thn (ho pins s σ H _ I h) fun v s1 ⟨x,H1,I1,r1,ty,q1⟩ => ?_)
 obtain ⟨h1,h2⟩:=yk I1 r1 ty
 refine ⟨T,id,pa,slot,hty,h1,h2,?_⟩
 have hA:=ha cpos pins s1 σ H1 _ I1 q1
 rw [hs] at hA ⊢
 refine Calls.callWith_builtin (by show (false || (backTo cpos (starEach es X.env)).any (·.1))=false;rw [hplain] <;> rfl) (Calls.evalArgs_plain ?_)
 exact thn hA fun us s2 ⟨vs,H2,I2,r2,q2⟩=>hm pins s2 σ H2 x vs v us Q I2 r1 r2 q2
end
end L2
namespace L2
open PySem PySem.Spec PyProof.Rows
def MtM (X:Cx) (id:String) (r:V→List V→Hp→VK→Prop):Prop:=
 ∀ (pins:List (Addr×Obj)) (s:Shared) (σ:St) (H:Hp) (x:V) (xs:List V) (v:Value) (us:List Value) (Q:VK),Inv X pins σ H s→RelV x v→Vals xs us→r x xs H Q →
  wpAny (model X.prog X.w) X.A (call (.builtin id) (v :: us)) (EP X pins σ Q) X.xe s
theorem Vals.one:∀ {x:V} {us:List Value},Vals [x] us→∃ u,us=[u]∧RelV x u
 | _,_,.cons r .nil=>⟨_,rfl,r⟩
theorem Vals.two:∀ {x y:V} {us:List Value},Vals [x,y] us→∃ u v,us=[u,v]∧RelV x u∧RelV y v
 | _,_,_,.cons r (.cons q .nil)=>⟨_,_,rfl,r,q⟩
theorem Vals.eraseIdx:∀ {xs:List V} {us:List Value} (i:Nat),Vals xs us→Vals (xs.eraseIdx i) (us.eraseIdx i)
 | _,_,_,.nil => .nil
 | _,_,0,.cons _ t=>t
 | _,_,i+1,.cons r t => .cons r (Vals.eraseIdx i t)
theorem Vals.rep {xs:List V} {us:List Value} (h:Vals xs us):∀ k:Nat,Vals (List.replicate k xs).flatten (List.replicate k us).flatten
 | 0 => .nil
 | k+1=>by
  rw [List.replicate_succ,List.replicate_succ,List.flatten_cons,List.flatten_cons]
  exact Vals.append h (Vals.rep h k)
theorem lA {α:Type}:∀ (l:List α) (i:Nat),(l.eraseIdx i).length≤l.length
 | [],_=>Nat.le_refl _
 | _ :: _,0=>Nat.le_succ _
 | _ :: r,i+1=>Nat.succ_le_succ (lA r i)
theorem lB (its:List Value):∀ (k:Nat) (acc:List Value),
  List.foldl (fun x1 x2=>x1++x2) acc.toArray (List.replicate k its.toArray)=(acc++(List.replicate k its).flatten).toArray
 | 0,acc=>by simp
 | k+1,acc=>by
  have e:acc.toArray++its.toArray=(acc++its).toArray:=by simp
  have e2:(acc++its)++(List.replicate k its).flatten=acc++(List.replicate (k+1) its).flatten:=by
   rw [List.replicate_succ,List.flatten_cons,List.append_assoc]
  rw [← e2,← lB its k (acc++its),← e,List.replicate_succ,List.foldl_cons]
section
variable {X:Cx} {pins:List (Addr×Obj)} {σ:St} {H:Hp} {s:Shared} {l b:Addr} {xs ys zs:List V}
theorem Inv.lset {its its':List Value} {n:Nat} {f:Array Value→Array Value} {t':Nat} (I:Inv X pins σ H s) (hH:H l=some (.lst xs))
  (e:s.heap.get? l=some {cls := .type "list",data := .seq its.toArray n}) (hf:f its.toArray=its'.toArray) (hv:Vals ys its') (hz:ys.length≤sizeLine) :
  Inv X pins σ (upd H l (.lst ys)) {s with heap:=s.heap.update l (Obj.mapSeq f),toks:=t'}:=by
 have q:=PySem.IsL.update e f
 rw [hf] at q
 refine I.write (x:=l) (e:=l) (by rw [hH];exact trivial) (.inl rfl) (fun b' u hb hu=>(Heap.get?_update_other s.heap (Obj.mapSeq f) (Ne.symm hb)).trans hu) ⟨_,q⟩ ?_
 exact ⟨hz,its',_,hv,q⟩
theorem Inv.lnew {its:List Value} {t':Nat} (I:Inv X pins σ H s) (hv:Vals ys its) (hz:ys.length≤sizeLine) :
  Inv X pins σ (upd H s.heap.objs.size (.lst ys)) {s with heap:=s.heap.push {cls := .type "list",data := .seq its.toArray},toks:=t'}:=
 I.laid (fun _ _ q=>Heap.get?_push_of_some _ q) (Nat.le_refl _) ⟨hz,its,0,hv,Heap.get?_push_size _ rfl⟩
theorem Inv.fresh (I:Inv X pins σ H s):H s.heap.objs.size=none:=I.hok.fresh (Nat.le_refl _)
theorem Inv.lstM (I:Inv X pins σ H s) (hH:H l=some (.lst xs)):xs.length≤sizeLine∧∃ (its:List Value) (n:Nat),Vals xs its∧xs.length=its.length∧s.heap.get? l=some {cls := .type "list",data := .seq its.toArray n}:=by
 obtain ⟨z,its,n,r,e⟩:=I.hok l _ hH
 exact ⟨z,its,n,r,r.length,e⟩
theorem oI {n:Nat} (h:n≤sizeLine):Builtin.List.listTooLong n=false:=by
 unfold Builtin.List.listTooLong
 exact decide_eq_false (by omega)
end
section
variable {X:Cx}
def rb:V→List V→Hp→VK→Prop:=fun x vs H Q=>∃ l xs y,x = .ref l∧vs=[y]∧H l=some (.lst xs)∧xs.length < sizeLine∧Q .non (upd H l (.lst (xs++[y])))
theorem bE:MtM X "list.append" rb:=by
 intro pins s σ H x vs v us Q I rx rv h
 obtain ⟨l,xs,y,rfl,rfl,hH,hz,q⟩:=h
 cases rx
 obtain ⟨u,rfl,ru⟩:=rv.one
 obtain ⟨z,its,n,r,hl,e⟩:=I.lstM hH
 refine call_meets F.slot_list_append ⟨_,e,rfl⟩ F.entry_list_append (F.args_list_append_2 _ _) (PySem.list_append l its.toArray n u (by rw [List.size_toArray];omega)) ⟨e,?_⟩
 refine ⟨.non,_,I.lset (its':=its++[u]) hH e (by simp) (r.append (.cons ru .nil)) ?_,rfl,q⟩
 rw [List.length_append,List.length_singleton]
 omega
def wq:V→List V→Hp→VK→Prop:=fun x vs H Q=>∃ l b xs zs,x = .ref l∧vs=[.ref b]∧H l=some (.lst xs)∧H b=some (.lst zs)∧xs.length+zs.length≤sizeLine∧Q .non (upd H l (.lst (xs++zs)))
theorem rf:MtM X "list.extend" wq:=by
 intro pins s σ H x vs v us Q I rx rv h
 obtain ⟨l,b,xs,zs,rfl,rfl,hH,hB,hz,q⟩:=h
 cases rx
 obtain ⟨u,rfl,ru⟩:=rv.one
 cases ru
 obtain ⟨z,its,n,r,hl,e⟩:=I.lstM hH
 obtain ⟨z2,its2,n2,r2,hl2,e2⟩:=I.lstM hB
 have hsz:its.toArray.size+its2.toArray.size≤sizeLine:=by rw [List.size_toArray,List.size_toArray];omega
 have hlong:¬ (!its.toArray.isEmpty && Builtin.List.listTooLong (its.toArray.size+its2.toArray.size))=true:=by
  rw [oI hsz,Bool.and_false]
  exact Bool.false_ne_true
 refine call_meets F.slot_list_extend ⟨_,e,rfl⟩ F.entry_list_extend (F.args_list_extend_2 _ _)
  (AutoSeq1.list_extend_list_list_0 l its.toArray n b its2.toArray n2 hlong (by rw [List.size_toArray];omega) (by omega)) ⟨e,e2,?_⟩
 refine ⟨.non,_,I.lset (its':=its++its2) hH e (by simp) (r.append r2) ?_,rfl,q⟩
 rw [List.length_append]
 omega
def Dl:V→List V→Hp→VK→Prop:=fun x vs H Q=>∃ l xs y,x = .ref l∧vs=[]∧H l=some (.lst xs)∧xs[xs.length - 1]? = some y∧Q y (upd H l (.lst xs.dropLast))
def ym:V→List V→Hp→VK→Prop:=fun x vs H Q=>∃ l xs i k y,x = .ref l∧vs=[.int i]∧H l=some (.lst xs) ∧ -(2 ^ 63)≤i∧i < 2 ^ 63∧seqIndex? i xs.length=some k∧xs[k]? = some y∧Q y (upd H l (.lst (xs.eraseIdx k)))
theorem uh:MtM X "list.pop" ym:=by
 intro pins s σ H x vs v us Q I rx rv h
 obtain ⟨l,xs,i,k,y,rfl,rfl,hH,h1,h2,hk,hy,q⟩:=h
 cases rx
 obtain ⟨u,rfl,ru⟩:=rv.one
 obtain ⟨t,rfl⟩:=ru
 obtain ⟨z,its,n,r,hl,e⟩:=I.lstM hH
 obtain ⟨w,hw,rw'⟩:=r.get hy
 refine call_meets F.slot_list_pop ⟨_,e,rfl⟩ F.entry_list_pop (F.args_list_pop_2 _ _)
  (MeetsSeq.list_pop_at l its.toArray n i t k w (fitsIndex_both h1 h2) (by rw [List.size_toArray,← hl];exact hk) (by rw [← Array.getElem?_toList];exact hw) (by rw [List.size_toArray];omega)) ⟨e,?_⟩
 refine ⟨y,_,I.lset (its':=its.eraseIdx k) hH e ?_ (r.eraseIdx k) ?_,rw',q⟩
 ·show its.toArray.eraseIdxIfInBounds k=(its.eraseIdx k).toArray
  rw [List.eraseIdxIfInBounds_toArray]
 ·have:=lA xs k
  omega
def zY:V→List V→Hp→VK→Prop:=fun x vs H Q=>∃ l xs,x = .ref l∧vs=[]∧H l=some (.lst xs)∧Q .non (upd H l (.lst xs.reverse))
def BP:V→List V→Hp→VK→Prop:=fun x vs H Q=>∃ l xs,x = .ref l∧vs=[]∧H l=some (.lst xs)∧Q .non (upd H l (.lst []))
def BQ:R2:=fun x y H Q=>∃ l b xs zs,x = .ref l∧y = .ref b∧H l=some (.lst xs)∧H b=some (.lst zs)∧xs.length+zs.length≤sizeLine∧∀ p,H p=none→Q (.ref p) (upd H p (.lst (xs++zs)))
theorem c6:OpR X (binaryOp .Add) BQ:=by
 intro pins s σ H x y v u Q I rx ry h
 obtain ⟨l,b,xs,zs,rfl,rfl,hH,hB,hz,q⟩:=h
 cases rx
 cases ry
 obtain ⟨z,its,n,r,hl,e⟩:=I.lstM hH
 obtain ⟨z2,its2,n2,r2,hl2,e2⟩:=I.lstM hB
 refine PySem.P.add_list e e2 ?_ (by rw [List.size_toArray,List.size_toArray];omega)
 have ea:its.toArray++its2.toArray=(its++its2).toArray:=by simp
 rw [ea]
 exact ⟨.ref _,_,I.lnew (t':=s.toks) (r.append r2) (by rw [List.length_append];omega),rfl,q _ I.fresh⟩
def BR:R2:=fun x y H Q=>∃ l k xs,x = .ref l∧y = .int k∧H l=some (.lst xs) ∧ -(2 ^ 63)≤k∧k < 2 ^ 63∧xs.length * k.toNat≤sizeLine ∧
 ∀ p,H p=none→Q (.ref p) (upd H p (.lst (List.replicate k.toNat xs).flatten))
theorem wt {α:Type} (xs:List α) (k:Nat):(List.replicate k xs).flatten.length=k * xs.length:=by
 induction k with
 | zero=>simp
 | succ k ih=>rw [List.replicate_succ,List.flatten_cons,List.length_append,ih,Nat.succ_mul,Nat.add_comm]
theorem lC:OpR X (binaryOp .Mult) BR:=by
 intro pins s σ H x y v u Q I rx ry h
 obtain ⟨l,k,xs,rfl,rfl,hH,h1,h2,hz,q⟩:=h
 cases rx
 obtain ⟨t,rfl⟩:=ry
 obtain ⟨z,its,n,r,hl,e⟩:=I.lstM hH
 have hlen:its.toArray.size * k.toNat≤sizeLine:=by rw [List.size_toArray,← hl];exact hz
 have hcap:¬ its.toArray.size * k.toNat > (2 ^ 63 - 1) / 8:=by
  have:(sizeLine:Nat)≤(2 ^ 63 - 1) / 8:=by decide
  omega
 have hfit:¬ (!Builtin.List.listFitsIndex k)=true:=by
  rw [fitsIndex_both h1 h2]
  exact Bool.false_ne_true
 have hlong:¬ Builtin.List.listTooLong (its.toArray.size * k.toNat)=true:=by
  rw [oI hlen]
  exact Bool.false_ne_true
 have hnew:List.foldl (fun x1 x2=>x1++x2) #[] (List.replicate (if its.toArray.isEmpty=true then 0 else k.toNat) its.toArray)=(List.replicate k.toNat its).flatten.toArray:=by
  have f0:∀ m:Nat,List.foldl (fun x1 x2=>x1++x2) #[] (List.replicate m its.toArray)=(List.replicate m its).flatten.toArray:=fun m=>by
   have:=lB its m []
   rw [List.nil_append] at this
   exact this
  rw [f0]
  cases its with
  | nil=>simp
  | cons a r'=>rw [if_neg (by simp)]
 refine wpAny_binaryOp_repeat_ref (T := "list") (U := "int") (by decide) ⟨_,e,rfl⟩ (fun s'=>typeIs_int s' k t) noFill_list_mul F.fills_int_mul F.slot_int_rmul repeat_list F.slot_int_index.lookup
  (call_meets F.slot_int_rmul (typeIs_int s k t) F.entry_int_rmul (F.args_int_rmul_2 _ _) (int___rmul___int_list k t l its.toArray n)
   ⟨e,rfl,⟨_,e,rfl⟩,call_meets F.slot_list_mul ⟨_,e,rfl⟩ F.entry_list_mul (F.args_list_mul_2 _ _) (AutoListH.list___mul___list_int_3 l its.toArray n k t hfit hcap hlong) ⟨e,?_⟩⟩)
 rw [hnew]
 exact ⟨.ref _,_,I.lnew (t':=s.toks) (r.rep k.toNat) (by rw [wt,Nat.mul_comm];exact hz),rfl,q _ I.fresh⟩
end
section
variable {prog:Program} {w:World} {A:Around} {E:Value→Shared→Prop} {s:Shared}
set_option maxRecDepth 100000 in
end
section
variable {X:Cx}
end
end L2
namespace Att
open PySem PySem.W PySem.Calls PyProof.Rows
theorem iV {P:Params} {h:Heap}:∀ (ns:List Int) (vs:List Value),WellAll P h vs (ns.map WData.int)→IntsAre vs ns:=by
 intro ns
 induction ns with
 | nil=>
  intro vs w
  rw [List.map_nil] at w
  cases w
  exact .nil
 | cons n ns ih=>
  intro vs w
  rw [List.map_cons] at w
  cases w with
  | cons a b=>
   cases a
   exact .cons _ _ (ih _ b)
theorem rg {l:OpenLaw} {n:Nat} (hn:l.most=some n) {P:Params} {h:Heap} {args:List WData} {vals:List Value}
  (hpre:l.row.toRowW.claim.pre args=true) (hwl:WellAll P h vals args) :
  ∃ a vs ns,vals=[Value.ref a]∧args=[WData.list (ns.map WData.int)]∧h.get? a=some {cls := .type "list",data := .seq vs.toArray}∧IntsAre vs ns∧ns.length≤n:=by
 have hsh:WShape.hasAll [] args [.list .int]=true:=(pre_splitW hpre).1
 have hc:l.pre.holds [] {args:=args}=true:=(pre_splitW hpre).2
 obtain ⟨d,r,rfl,h1,h2⟩:=hasAllW_cons hsh
 obtain rfl:=hasAllW_nil h2
 obtain ⟨xs,rfl,h3⟩:=hasW_list h1
 obtain ⟨ns,rfl⟩:=items_int h3
 have hlen:ns.length≤n:=by
  unfold OpenLaw.pre at hc
  have h4:(WTm.not (.lt (.lit (.int (n:Int))) (.len (.arg 0)))).holds [] {args:=[.list (ns.map .int)]}=true:=by
   have h4:=(holds_andW hc).1
   rw [hn] at h4
   exact h4
  have h5:=condW_of h4 (w_not (w_lt w_lit (w_len_list (w_arg rfl))))
  rw [List.length_map] at h5
  refine Nat.le_of_not_lt fun q => ?_
  have q':(n:Int) < ((ns.length:Nat):Int):=by omega
  first
   | (rw [decide_eq_true q'] at h5;exact absurd h5 (by decide))
   | (simp at h5;omega)
 cases hwl with
 | cons w1 w2=>
  cases w2
  cases w1 with
  | list ho hall=>exact ⟨_,_,ns,rfl,rfl,ho,iV ns _ hall,hlen⟩
theorem rh (l:OpenLaw) (args:List WData):l.row.toRowW.claim.post args (.bool true) args=true:=
 postW_of (r:=l.row.toRowW) (X:=(true == true))
  (show WShape.has [] (.bool true) .bool=true by first | rfl | decide | simp [WShape.has,WShape.arms,WShape.armsAll])
  (show (WTm.eq .res (.lit (.bool true))).value [] {args:=args,res:=some (.bool true),after:=args}=some (.bool (true == true)) from w_eq_bool (w_res rfl) w_lit) rfl
theorem attach_call {l:OpenLaw} {n:Nat} {q:Program} {loose:List Str} {XP:(Str→Option Value)→Heap→Prop} {YP:World→Heap→Prop} {d:DefRec}
  (hn:l.most=some n) (hdf:d.params.defaults=[])
  (call:∀ (w:World) (s₀ s₁:Shared) (mg mb:Str→Option Value) (fa:Addr) (o:Obj) (pm cd doc:Value) (a:Addr) (vs:List Value) (ns:List Int),
   Ground q loose [] XP w s₀ mg mb s₁.heap→YP w s₁.heap →
   s₁.heap.get? fa=some o→o.data = .func (docDef d.name d.params d.body d.scope pm cd doc)→s₁.heap.CodeRec cd d.name→mg d.name=some (.ref fa) →
   s₁.heap.get? a=some {cls := .type "list",data := .seq vs.toArray}→IntsAre vs ns→ns.length≤n→s₁.gens=#[] →
   codeAny (model l.prog w) callerA (.call (.ref fa) ⟨[.ref a],[]⟩) (fun r s'=>r = .ok (.ret (.bool true))∧OldK s₁.heap s'.heap∧s'.os=s₁.os∧AllBare s'.gens) s₁) :
  WalkO q loose XP YP l.row.toRowW d [] (fun f vs=>PySem.call f vs):=by
 intro w s₀ s₁ mg mb G Y fa o pm cd doc dV kV ho hd hcd hD hmg hg args vals as hpre hlay hrd hwl hlo
 obtain rfl:dV = .none:=Dflts.none hD hdf
 obtain rfl:kV = .none:=Dflts.noKw hD
 obtain ⟨a,vs,ns,rfl,rfl,hobj,hints,hlen⟩:=rg hn hpre hwl
 refine enter_call (codeAny_mono (call w s₀ s₁ mg mb fa o pm cd doc a vs ns G Y ho (fd_plain hd) hcd hmg hobj hints hlen hg) fun r s' hq => ?_)
 obtain ⟨rfl,h2,h3,h4⟩:=hq
 exact ⟨.inl ⟨.bool true,.bool true,[],rfl,fun _=>rfl,.bool true,rh l _,fun _=>⟨List.Pairwise.nil,fun _ hm=>(nomatch hm)⟩⟩,h2,h3,h4⟩
section
variable {prog:Program} {w:World} {A:Around} {E:Value→Shared→Prop} {s:Shared} {K:Frag}
def BS (h:Heap):Heap:={h with objs:=#[]}
def BT (h:Heap) (L d:Addr):List (Addr×Obj):=(List.range h.objs.size).filterMap fun a=>if a=L∨a=d then none else (h.get? a).map fun o=>(a,o)
end
end Att
namespace L2
open PySem PySem.Spec PyProof.Rows
theorem iW:∀ {vs:List Value} {ns:List Int},IntsAre vs ns→Vals (ns.map V.int) vs
 | _,_,.nil => .nil
 | _,_,.cons n t h => .cons ⟨t,rfl⟩ (iW h)
def Am (H:Hp):Prop:=∀ b,H b=none∨∃ o xs,H b=some (.frz o (.lst xs))
theorem ui {P:Program} {w:World} {K:PySem.W.Frag} {mg mb:Str→Option Value} {CX:CXT} {k:Nat} {fa a:Addr} {fd:FuncData} {x:Str} {sp:Sp} {s₁:Shared} {vs:List Value} {ns:List Int}
  (KX:K.In s₁.heap) (hns:s₁.heap.Ns mainGlobals mg) (hb:s₁.heap.Ns builtinsNs mb) (hbb:∀ x:Str,x ≠ "__name__" → mb x=bootBuiltins x) (hlim:s₁.heap.NoLimit) (hg:s₁.gens=#[])
  (ha:s₁.heap.get? a=some {cls := .type "list",data := .seq vs.toArray}) (hi:IntsAre vs ns) (hl:ns.length≤sizeLine) (hr:Room k callerA)
  (F:∀ base:Heap,K.In base→base.Ns mainGlobals mg→FnOk P w K mg base CX k fa fd [x] sp) (hbind:∀ (s:Shared) (u:Value),BindsTo s fd ⟨[u],[]⟩ [(x,u)])
  (hsp:∀ H:Hp,Am H→SqL K H a (ns.map V.int)→sp [.ref a] H (fun v _=>v = .bl true) fun _ _ _=>False)
  (hCX:∀ H e s',CX [] H s₁ (fun _ _ _=>False) e s'→False) :
  codeAny (model P w) callerA (.call (.ref fa) ⟨[.ref a],[]⟩) (fun r s'=>r = .ok (.ret (.bool true))∧OldK s₁.heap s'.heap∧s'.os=s₁.os∧AllBare s'.gens) s₁:=by
 have rv:=iW hi
 have lenV:=hi.length
 have core:∀ H:Hp,Am H→SqL K H a (ns.map V.int)→HOk P w H s₁.heap→(∀ b,H b≠none→b=a)→(H a≠none→K.lookup a=none) →
   codeAny (model P w) callerA (.call (.ref fa) ⟨[.ref a],[]⟩) (fun r s'=>r = .ok (.ret (.bool true))∧OldK s₁.heap s'.heap∧s'.os=s₁.os∧AllBare s'.gens) s₁:=by
  intro H hO hS hok hA hK
  have base_of:∀ {b:Addr} {o:Obj},s₁.heap.get? b=some o→H b=none→(tX s₁.heap H).get? b=some o:=fun e n=>tY e n
  have noA:∀ {b:Addr} {o:Obj} {es:Array DictEntry} {ep:Nat},s₁.heap.get? b=some o→o.data = .dict es ep→H b=none:=fun {b o es ep} e d=>by
   cases q:H b with
   | none=>rfl
   | some u=>
    have e':b=a:=hA b (by rw [q];simp)
    subst e'
    rw [ha] at e;cases e
    have d':Data.seq vs.toArray _=Data.dict es ep:=d
    cases d'
  have nsK:∀ {b:Addr} {m:Str→Option Value},s₁.heap.Ns b m→(tX s₁.heap H).Ns b m:=fun {b m} ⟨o,es,ep,e,d,r⟩=>⟨o,es,ep,base_of e (noA e d),d,r⟩
  have hKb:K.In (tX s₁.heap H):=fun b o e=>base_of (KX b o e) (by
   cases q:H b with
   | none=>rfl
   | some u=>
    have e':b=a:=hA b (by rw [q];simp)
    subst e'
    rw [hK (by rw [q];simp)] at e;cases e)
  have hM:Mod K mg (tX s₁.heap H):=⟨hKb,nsK hns,⟨mb,nsK hb,hbb⟩,let ⟨mc,h1,h2⟩:=hlim;⟨mc,nsK h1,h2⟩⟩
  have e0:Env0 P w K mg (tX s₁.heap H) callerA [] s₁ H:=⟨rfl,hM,fun b o e=>vP e,Nat.le_of_eq (qJ _ _),trivial,fun b hb=>absurd (show b∈([]:List Addr) from hb) (by simp),hok,.of_eq hg⟩
  refine codeAny_mono ((F _ hKb (nsK hns)).run callerA [] s₁ H ⟨[.ref a],[]⟩ [.ref a] [.ref a] _ _ hr e0 (hbind s₁ (.ref a)) (.cons rfl .nil) (hsp H hO hS)) fun r s' h => ?_
  cases r with
  | error e=>exact (hCX H e s' h).elim
  | ok fl=>
   cases fl with
   | next=>exact False.elim h
   | brk=>exact False.elim h
   | cont=>exact False.elim h
   | ret u=>
    obtain ⟨v,H',os,bare,un,hok',r',q⟩:=h
    have q':v = .bl true:=q
    subst q'
    obtain rfl:u=Value.bool true:=r'
    refine ⟨rfl,OldK.of_keep fun b o e => ?_,os,bare⟩
    cases q:H b with
    | none=>exact un.keep b o e q (by intro z;exact absurd (show b∈([]:List Addr) from z) (by simp)) (by simp)
    | some u=>
     rcases hO b with z | ⟨ob,xs,z⟩
     ·rw [q] at z;cases z
     ·have z2:=un.frzs b ob _ z
      obtain ⟨e1,_⟩:=hok b _ z
      obtain ⟨e2,_⟩:=hok' b _ z2
      rw [e] at e1;cases e1
      exact e2
 cases hk:K.lookup a with
 | some o=>
  have e:=KX a o hk
  rw [ha] at e
  cases e
  refine core (fun _=>none) (fun _ => .inl rfl) (.inr ⟨_,vs.toArray,_,hk,rfl,rfl,rfl,by rw [List.size_toArray,lenV];exact hl,by simpa using rv⟩) (fun b u z=>by have z':(none:Option HO)=some u:=z;cases z') (fun b z=>absurd rfl z) fun z=>absurd rfl z
 | none=>
  refine core (fun b=>if b=a then some (.frz {cls := .type "list",data := .seq vs.toArray} (.lst (ns.map V.int))) else none) (fun b => ?_) (.inl (.inr ⟨{cls := .type "list",data := .seq vs.toArray},if_pos rfl⟩)) (fun b u z => ?_) (fun b z => ?_) fun _=>hk
  ·by_cases hb:b=a
   ·exact .inr ⟨_,_,if_pos hb⟩
   ·exact .inl (if_neg hb)
  ·by_cases hb:b=a
   ·have z':=(if_pos hb).symm.trans z
    cases z'
    subst hb
    exact ⟨ha,by rw [List.length_map];exact hl,vs,_,rv,ha⟩
   ·have z':=(if_neg hb).symm.trans z
    cases z'
  ·by_cases hb:b=a
   ·exact hb
   ·exact absurd (if_neg hb) z
end L2
namespace L2
open PySem PySem.Spec PyProof.Rows
abbrev KOf {K:PySem.W.Frag} {h:Heap} (_:K.In h):PySem.W.Frag:=K
theorem walk_of {l:PySem.W.OpenLaw} {n k:Nat} {q:Program} {loose:List Str} {XP:(Str→Option Value)→Heap→Prop} {YP:World→Heap→Prop} {d:DefRec} {K:Params→PySem.W.Frag} {CX:World→CXT} {sp:World→Sp} {x:Str}
  (hn:l.most=some n) (hn2:n≤sizeLine) (hdf:d.params.defaults=[]) (hr:Room k callerA)
  (hY:∀ (w:World) (h:Heap),YP w h→(K w.params).In h)
  (F:∀ (w:World) (mg:Str→Option Value) (fa:Addr) (h:Heap),(K w.params).In h→h.Ns mainGlobals mg→mg d.name=some (.ref fa) →
   ∃ fd:FuncData,(∀ (s:Shared) (u:Value),BindsTo s fd ⟨[u],[]⟩ [(x,u)]) ∧
    ∀ base:Heap,(K w.params).In base→base.Ns mainGlobals mg→FnOk l.prog w (K w.params) mg base (CX w) k fa fd [x] (sp w))
  (hsp:∀ (w:World) (H:Hp) (a:Addr) (ns:List Int),ns.length≤n→Am H→SqL (K w.params) H a (ns.map V.int)→sp w [.ref a] H (fun v _=>v = .bl true) fun _ _ _=>False)
  (hCX:∀ (w:World) (H:Hp) (s:Shared) (e:Value) (s':Shared),CX w [] H s (fun _ _ _=>False) e s'→False) :
  PySem.W.WalkO q loose XP YP l.row.toRowW d [] (fun f vs=>PySem.call f vs):=by
 refine Att.attach_call hn hdf fun w s₀ s₁ mg mb fa o pm cd doc a vs ns G Y ho hd hcd hmg hobj hints hlen hg => ?_
 have KX:=hY w _ Y
 obtain ⟨fd,hb,hF⟩:=F w mg fa _ KX G.T.g hmg
 exact ui KX G.T.g G.T.b G.T.builtins G.T.nolimit hg hobj hints (Nat.le_trans hlen hn2) hr hF hb (fun H hO hS=>hsp w H a ns hlen hO hS) fun H e s'=>hCX w H s₁ e s'
end L2
namespace L2
open PySem PySem.Spec PyProof.Rows
def aj (s:Stmt) (j:Nat):Stmt:=match s with
 | .ClassDef _ _ _ body _ _ _ _ _ _ _=>body.getD j (.Pass ⟨0,0,0,0⟩)
 | _ => .Pass ⟨0,0,0,0⟩
def gZ (s:Stmt):Arguments:=match s with
 | .FunctionDef _ a _ _ _ _ _ _ _ _=>a
 | _=>{posonlyargs:=[],args:=[],vararg:=none,kwonlyargs:=[],kw_defaults:=[],kwarg:=none,defaults:=[]}
def bR (s:Stmt):List Stmt:=match s with
 | .FunctionDef _ _ b _ _ _ _ _ _ _=>b
 | _=>[]
def ai (s:Stmt):Scope:=match s with
 | .FunctionDef _ _ _ _ _ _ sc _ _ _=>sc
 | _=>{kind := .function,names:=[],isGenerator:=false,isCoroutine:=false}
abbrev CX0:CXT:=fun _ _ _ _ _ _=>False
abbrev E0:XK:=fun _ _ _=>False
theorem aw {X:Cx}:cA CX0 X E0:=fun _ _ _ _ _ _ _ h=>h.elim
structure Fun (K:PySem.W.Frag) (x qual:Str) (st:Stmt) (f:Addr) (fd:FuncData):Prop where
 ex:∃ (oc:Value) (od:Option Addr) (kV doc pm:Value) (an:Option Addr) (cdv ct:Value) (osl:Array (Option Value)),
  fd=PySem.W.fnOf x qual (gZ st) (bR st) (ai st) .none kV doc pm an cdv ct∧K.lookup f=some ⟨oc,od,.func fd,osl⟩∧PySem.W.codeIn K cdv qual=true
 kp:PySem.W.keepIn K (.ref f)=true
section
variable {P:Program} {w:World} {K:PySem.W.Frag} {mg:Str→Option Value} {base:Heap}
theorem Fun.ok {x qual:Str} {st:Stmt} {f:Addr} {fd:FuncData} {N ps:List Str} {k:Nat} {sp:Sp} (F:Fun K x qual st f fd) (S:FnScope N ps (ai st)) (len:∀ vs H Q E,sp vs H Q E→vs.length=ps.length)
  (hbody:∀ (cdv:Value) (A:Around) (outer:List Env) (s:Shared) (H:Hp) (vs:List V) (Q:VK) (E:XK),Room k (A.deeper (envOfC qual (ai st) s.heap.objs.size f cdv))→sp vs H Q E →
   ∃ t,PSs (bv CX0 P w K mg base N qual (ai st) f cdv A outer s H E).nox (bR st) t∧t {nx:=fun _ H'=>Q .non H',rt:=Q} (start N vs) H):FnOk P w K mg base CX0 (k+1) f fd ps sp:=by
 obtain ⟨oc,od,kV,doc,pm,an,cdv,ct,osl,rfl,lk,hcd⟩:=F.ex
 refine yg lk hcd S len fun A outer s H vs Q E hr hsp => ?_
 obtain ⟨t,h,q⟩:=hbody cdv A outer s H vs Q E hr hsp
 exact ⟨t,h.nox,q⟩
theorem Fun.binds {x qual:Str} {st:Stmt} {f:Addr} {fd:FuncData} {ps:List Str} (F:Fun K x qual st f fd)
  (h:∀ (kV doc pm:Value) (an:Option Addr) (cdv ct:Value) (us:List Value),us.length=ps.length→bindArgs (PySem.W.fnOf x qual (gZ st) (bR st) (ai st) .none kV doc pm an cdv ct) ⟨us,[]⟩=pure (ps.zip us)):Binds K fd ps []:=by
 obtain ⟨oc,od,kV,doc,pm,an,cdv,ct,osl,rfl,lk,hcd⟩:=F.ex
 exact .all (h kV doc pm an cdv ct)
theorem yn {x qual:Str} {st:Stmt} {f:Addr} {oc:Value} {od an:Option Addr} {osl:Array (Option Value)} {kV doc pm cdv ct:Value} (l:K.lookup f=some ⟨oc,od,.func (PySem.W.fnOf x qual (gZ st) (bR st) (ai st) .none kV doc pm an cdv ct),osl⟩)
  (c:PySem.W.codeIn K cdv qual=true) (k:PySem.W.keepIn K (.ref f)=true):Fun K x qual st f (PySem.W.fnOf x qual (gZ st) (bR st) (ai st) .none kV doc pm an cdv ct):=⟨⟨oc,od,kV,doc,pm,an,cdv,ct,osl,rfl,l,c⟩,k⟩
end
theorem bg {n:Nat} (h:n≤1000):n < sizeLine:=Nat.lt_of_le_of_lt h (by decide)
section
variable {X:Cx}
theorem pv (i:Nat) {x:Str} {pos:Pos} (hN:X.N[i]? = some x:=by rfl) (hv:Vis X.env.scope x:=by first | exact Or.inl rfl | exact Or.inr (Or.inl rfl) | exact Or.inr (Or.inr rfl)) (hd:(x == ("__debug__" : Str))=false:=by decide)
  (hcd:(x == ("__classdict__" : Str))=false:=by decide):PE X (.Name x pos) (jP i):=vm hN hv hd hcd
end
theorem vv {A B:Prop} (h:B):if false=true then A else B:=by
 rw [if_neg Bool.false_ne_true]
 exact h
theorem rj {A B:Prop} (h:A):if true=true then A else B:=by
 rw [if_pos rfl]
 exact h
theorem BU {c A B:Prop} [Decidable c] (h1:c→A) (h2:¬ c→B):if c then A else B:=by
 by_cases h:c
 ·rw [if_pos h]
  exact h1 h
 ·rw [if_neg h]
  exact h2 h
def Same (H H':Hp):Prop:=∀ b o,H b=some o→H' b=some o
theorem Same.refl (H:Hp):Same H H:=fun _ _ h=>h
theorem Same.trans {H H1 H2:Hp} (a:Same H H1) (b:Same H1 H2):Same H H2:=fun c o h=>b c o (a c o h)
theorem Same.free {H H':Hp} (e:Same H H') {l:Addr} (h:H' l=Option.none):H l=Option.none:=by
 cases q:H l with
 | none=>rfl
 | some o=>
  rw [e l o q] at h
  cases h
theorem Same.seq {K:PySem.W.Frag} {H H':Hp} {a:Addr} {xs:List V} (e:Same H H') (h:SqL K H a xs):SqL K H' a xs:=by
 rcases h with (h | ⟨o,h⟩) | h
 ·exact .inl (.inl (e _ _ h))
 ·exact .inl (.inr ⟨o,e _ _ h⟩)
 ·exact .inr h
end L2
set_option maxHeartbeats 4000000
namespace L2
open PySem PySem.Spec PyProof.Rows
def dI (env:Env) (cs:List (Str×Addr)) (y:Str×NameKind):List (Str×Addr):=
 if (y.2 == NameKind.free)=true then (y.1,(env.cells.lookup y.1).getD 0) :: cs else cs
def wu (scope:Scope) (env:Env):List (Str×Addr):=scope.names.foldl (dI env) []
theorem wv {scope:Scope} {env:Env} (h:∀ y∈scope.names,y.2 = .free→∃ c,env.cells.lookup y.1=some c):closureFor scope env=pure (wu scope env):=by
 have main:∀ (l:List (Str×NameKind)) (cs:List (Str×Addr)),(∀ y∈l,y.2 = .free→∃ c,env.cells.lookup y.1=some c) →
   (forIn l cs fun (y:Str×NameKind) (r:List (Str×Addr))=>match y with | (name,kind)=>if (kind == NameKind.free)=true then (do let a ← cellOf env name;pure (ForInStep.yield ((name,a) :: r)):Sem _) else pure (ForInStep.yield r))=(pure (l.foldl (dI env) cs):Sem _):=by
  intro l
  induction l with
  | nil=>intro cs _;rfl
  | cons y l ih=>
   intro cs hl
   obtain ⟨n,k⟩:=y
   rw [List.forIn_cons,List.foldl_cons]
   have hr:=fun cs'=>ih cs' fun z hz=>hl z (List.mem_cons_of_mem _ hz)
   by_cases hk:(k == NameKind.free)=true
   ·obtain ⟨c,hc⟩:=hl (n,k) List.mem_cons_self (by simpa using hk)
    have hc:env.cells.lookup n=some c:=hc
    have e1:dI env cs (n,k)=(n,c) :: cs:=by unfold dI;rw [if_pos hk,hc];rfl
    have e2:cellOf env n=pure c:=by unfold cellOf;rw [hc]
    rw [e1,← hr]
    simp only [if_pos hk,e2]
    rfl
   ·have e1:dI env cs (n,k)=cs:=by unfold dI;rw [if_neg hk]
    rw [e1,← hr]
    simp only [if_neg hk]
    rfl
 unfold wu closureFor
 have:=main scope.names [] h
 show (forIn scope.names [] _ >>= fun r=>pure r)=_
 rw [this]
 rfl
theorem vw {env:Env}:∀ {l:List (Str×NameKind)} {cs:List (Str×Addr)} {p:Str×Addr},p∈l.foldl (dI env) cs→p∈cs∨((p.1,NameKind.free)∈l∧p.2=(env.cells.lookup p.1).getD 0)
 | [],_,_,h => .inl h
 | y :: l,cs,p,h=>by
  rcases vw (l:=l) h with h | ⟨h,e⟩
  ·unfold dI at h
   by_cases hk:(y.2 == NameKind.free)=true
   ·rw [if_pos hk] at h
    rcases List.mem_cons.mp h with rfl | h
    ·refine .inr ⟨?_,rfl⟩
     have e:y.2=NameKind.free:=by simpa using hk
     rw [← e]
     exact List.mem_cons_self
    ·exact .inl h
   ·rw [if_neg hk] at h;exact .inl h
  ·exact .inr ⟨List.mem_cons_of_mem _ h,e⟩
theorem vx {env:Env}:∀ {l:List (Str×NameKind)} {cs:List (Str×Addr)} {x:Str},((x,NameKind.free)∈l∨∃ c,(x,c)∈cs)→∃ c,(x,c)∈l.foldl (dI env) cs
 | [],_,_,h=>by
  rcases h with h | h
  ·cases h
  ·exact h
 | y :: l,cs,x,h=>by
  refine vx (l:=l) ?_
  rcases h with h | ⟨c,h⟩
  ·rcases List.mem_cons.mp h with e | h
   ·subst e
    exact .inr ⟨_,by unfold dI;rw [if_pos (by rfl)];exact List.mem_cons_self⟩
   ·exact .inl h
  ·refine .inr ⟨c,?_⟩
   unfold dI
   split
   ·exact List.mem_cons_of_mem _ h
   ·exact h
theorem gw {α:Type}:∀ {l:List (Str×α)} {x:Str} {c:α},(x,c)∈l→∃ d,l.lookup x=some d
 | [],_,_,h=>by cases h
 | (n,d) :: l,x,c,h=>by
  by_cases e:(x == n)=true
  ·exact ⟨d,by rw [List.lookup_cons,e]⟩
  ·rcases List.mem_cons.mp h with q | h
   ·cases q;simp at e
   ·obtain ⟨d',hd⟩:=gw h
    exact ⟨d',by rw [List.lookup_cons,Bool.eq_false_iff.mpr e];exact hd⟩
theorem dP {env:Env}:∀ {names:List (Str×NameKind)} {x:Str} {k:NameKind},(∀ y∈names,y.2 ≠ .cell)→(k = .cell∨k = .free) →
  (names.map fun (n,k)=>if (k == NameKind.free && env.scope.kind == .function && env.kindOf n == some .cell) then (n,NameKind.cell) else (n,k)).lookup x=some k→(x,NameKind.free)∈names
 | [],_,_,_,_,h=>by simp at h
 | (n,k') :: r,x,k,hc,hk,h=>by
  have ih:=@dP env r x k (fun y hy=>hc y (List.mem_cons_of_mem _ hy)) hk
  rw [List.map_cons,List.lookup_cons] at h
  by_cases hx:(x == n)=true
  ·have e:x=n:=by simpa using hx
   subst e
   by_cases hb:(k' == NameKind.free && env.scope.kind == .function && env.kindOf x == some .cell)=true
   ·have:k' = .free:=by
     have:=(Bool.and_eq_true_iff.mp (Bool.and_eq_true_iff.mp hb).1).1
     simpa using this
    subst this
    exact List.mem_cons_self
   ·simp only [if_neg hb,hx] at h
    have e2:k'=k:=Option.some.inj h
    subst e2
    rcases hk with z | z
    ·exact absurd z (hc _ List.mem_cons_self)
    ·subst z;exact List.mem_cons_self
  ·have hx':(x == n)=false:=Bool.eq_false_iff.mpr hx
   by_cases hb:(k' == NameKind.free && env.scope.kind == .function && env.kindOf n == some .cell)=true
   ·simp only [if_pos hb,hx'] at h
    exact List.mem_cons_of_mem _ (ih h)
   ·simp only [if_neg hb,hx'] at h
    exact List.mem_cons_of_mem _ (ih h)
theorem io {env:Env}:∀ {names:List (Str×NameKind)} {x:Str},names.lookup x=some .free →
  (names.map fun (n,k)=>if (k == NameKind.free && env.scope.kind == .function && env.kindOf n == some .cell) then (n,NameKind.cell) else (n,k)).lookup x=some .cell ∨
  (names.map fun (n,k)=>if (k == NameKind.free && env.scope.kind == .function && env.kindOf n == some .cell) then (n,NameKind.cell) else (n,k)).lookup x=some .free
 | [],_,h=>by simp at h
 | (n,k') :: r,x,h=>by
  have ih:=@io env r x
  rw [List.lookup_cons] at h
  rw [List.map_cons,List.lookup_cons]
  by_cases hx:(x == n)=true
  ·simp only [hx] at h
   have e:k' = .free:=Option.some.inj h
   subst e
   by_cases hb:(NameKind.free == NameKind.free && env.scope.kind == .function && env.kindOf n == some .cell)=true
   ·left;simp only [if_pos hb,hx]
   ·right;simp only [if_neg hb,hx]
  ·have hx':(x == n)=false:=Bool.eq_false_iff.mpr hx
   simp only [hx'] at h
   by_cases hb:(k' == NameKind.free && env.scope.kind == .function && env.kindOf n == some .cell)=true
   ·simp only [if_pos hb,hx'];exact ih h
   ·simp only [if_neg hb,hx'];exact ih h
def ip (sc scope:Scope) (N:List Str) (x:Str) (fv:List Str) (js:List Nat):Bool:=
 (scope.kind == .function) && scope.names.all (fun y => !(y.2 == NameKind.cell)) && scope.names.all (fun y => !(y.2 == NameKind.local) || scope.names.lookup y.1 == some .local)
 && (scope.names.lookup x == some .local) && decide ((fv++[x]).Nodup) && (fv.map some == js.map (fun j=>N[j]?))
 && fv.all (fun y=>scope.names.lookup y == some .free)
 && scope.names.all (fun y => !(y.2 == NameKind.free) || sc.names.lookup y.1 == some .cell || sc.names.lookup y.1 == some .free)
structure Caps (sc scope:Scope) (N:List Str) (x:Str) (fv:List Str) (js:List Nat):Prop where
 kind:scope.kind = .function
 nocell:∀ y∈scope.names,y.2 ≠ .cell
 names:∀ y∈scope.names,y.2 = .local→scope.names.lookup y.1=some .local
 tgt:scope.names.lookup x=some .local
 nd:(fv++[x]).Nodup
 cap:fv.map some=js.map (fun j=>N[j]?)
 see:∀ y∈fv,scope.names.lookup y=some .free
 fre:∀ y∈scope.names,y.2 = .free→sc.names.lookup y.1=some .cell∨sc.names.lookup y.1=some .free
theorem Caps.of {sc scope:Scope} {N:List Str} {x:Str} {fv:List Str} {js:List Nat} (h:ip sc scope N x fv js=true):Caps sc scope N x fv js:=by
 unfold ip at h
 simp only [Bool.and_eq_true,List.all_eq_true,Bool.or_eq_true,Bool.not_eq_true',beq_iff_eq,decide_eq_true_eq] at h
 obtain ⟨⟨⟨⟨⟨⟨⟨h1,h2⟩,h3⟩,h4⟩,h5⟩,h6⟩,h7⟩,h8⟩:=h
 refine ⟨by simpa using h1,fun y hy e => ?_,fun y hy e => ?_,by simpa using h4,h5,h6,fun y hy=>by simpa using h7 y hy,fun y hy e => ?_⟩
 ·have:=h2 y hy
  rw [e] at this;simp at this
 ·rcases h3 y hy with z | z
  ·rw [e] at z;simp at z
  ·simpa using z
 ·rcases h8 y hy with (z | z) | z
  ·rw [e] at z;simp at z
  ·exact .inl (by simpa using z)
  ·exact .inr (by simpa using z)
def cxC (X:Cx) (N:List Str) (scope:Scope) (fp:List Addr) (s:Shared) (H:Hp):Cx where
 prog:=X.prog
 w:=X.w
 K:=X.K
 mg:=X.mg
 base:=X.base
 A:=X.A
 N:=N
 s₀:=s
 H₀:=H
 env:=compEnvC scope (wu scope X.env) s.heap.objs.size X.env
 outer:=X.stack
 stack:=X.stack
 ex:=fp
 fn:=fun _=>false
 calm:=X.calm
 pn:=[]
 xe:=fun _ _=>False
def mT (σ:St) (js:List Nat):St:=js.map fun j=>σ.getD j none
section
variable {X:Cx} {pins:List (Addr×Obj)} {σ:St} {H:Hp} {s:Shared} {scope:Scope} {x:Str} {fv:List Str} {js:List Nat} {fp:List Addr}
theorem Inv.capCell (I:Inv X pins σ H s) (C:Caps X.env.scope scope X.N x fv js) {y:Str} {c:Addr} (h:(wu scope X.env).lookup y=some c):X.env.cells.lookup y=some c:=by
 have hm:(y,c)∈scope.names.foldl (dI X.env) []:=PySem.mem_of_lookup h
 rcases vw hm with z | ⟨z,e⟩
 ·cases z
 ·obtain ⟨c',hc⟩:=I.ok.has y (C.fre _ z rfl)
  have e':c=c':=by
   have e:c=(X.env.cells.lookup y).getD 0:=e
   rw [hc] at e
   exact e
  rw [hc,e']
theorem Inv.capHas (C:Caps X.env.scope scope X.N x fv js) {y:Str} (h:(y,NameKind.free)∈scope.names):∃ c,(wu scope X.env).lookup y=some c:=by
 obtain ⟨c,hc⟩:=vx (env:=X.env) (cs:=[]) (.inl h)
 exact gw hc
theorem Caps.len {sc:Scope} {N:List Str} (C:Caps sc scope N x fv js):js.length=fv.length:=by
 have:=congrArg List.length C.cap
 rw [List.length_map,List.length_map] at this
 exact this.symm
theorem rk {h1:Heap} {t':Nat} {m1:Str→Option Value} (I:Inv X pins σ H s) (C:Caps X.env.scope scope X.N x fv js) (hf:∀ b∈fp,qG X pins H b) (hlt:∀ b∈fp,b < s.heap.objs.size)
  (hn:h1.Ns s.heap.objs.size m1) (hk:∀ b o,s.heap.get? b=some o→h1.get? b=some o) :
  Inv (cxC X (fv++[x]) scope fp s H) [] (mT σ js++[none]) H {s with heap:=h1,toks:=t'}:=by
 have jl:=C.len
 refine ⟨⟨I.ok.mod,C.kind,I.ok.glob,I.ok.blt,Nat.le_refl _,fun y z c e1 e2 => ?_,fun y hy => ?_,fun y c e _ => ?_,I.ok.hd,I.ok.frames,.inl rfl,fun b hb=>⟨?_,fun y c e => ?_⟩,I.bs,Nat.le_trans I.ok.bsz I.sz,fun b o e hb => ?_,fun b hb z => ?_,I.stack,I.stkFree⟩,
  rfl,I.bare,Un.kept hk,⟨m1,hn,fun i y v e1 e2 e3 => ?_⟩,fun y c e => ?_,I.hok.fresh (Nat.le_refl _),fun y c e => ?_,fun p hp=>absurd (show p∈([]:List (Addr×Obj)) from hp) (by simp),I.hok.kept hk,?_⟩
 ·exact I.ok.inj y z c (I.capCell C e1) (I.capCell C e2)
 ·refine Inv.capHas C (?_:(y,NameKind.free)∈scope.names)
  rcases hy with hy | hy
  ·exact dP C.nocell (.inl rfl) hy
  ·exact dP C.nocell (.inr rfl) hy
 ·cases e
 ·exact Nat.ne_of_lt (hlt b hb)
 ·exact (hf b hb).2.2.2.2.1 y c (I.capCell C e)
 ·rcases (hf b hb).2.2.2.1 with z | z
  ·exact I.ok.noex b o e z
  ·have h1:b < X.base.objs.size:=Heap.lt_size e
   have h2:=I.ok.bsz
   have z':X.s₀.heap.objs.size≤b:=z
   exact absurd (Nat.lt_of_lt_of_le h1 (Nat.le_trans h2 z')) (Nat.lt_irrefl _)
 ·rcases List.mem_cons.mp (I.stkSub b z) with q | q
  ·exact (hf b hb).2.1 q
  ·exact (hf b hb).2.2.1 q
 ·have e1:(fv++[x])[i]? = some y:=e1
  by_cases hi:i < fv.length
  ·rw [List.getElem?_append_left hi] at e1
   have hij:i < js.length:=by omega
   rw [List.getElem?_append_left (by unfold mT;rw [List.length_map];exact hij)] at e2
   unfold mT at e2
   rw [List.getElem?_map,List.getElem?_eq_getElem hij] at e2
   have e2':σ.getD js[i] none=some v:=Option.some.inj e2
   have hc:=congrArg (fun l=>l[i]?) C.cap
   simp only [List.getElem?_map] at hc
   rw [e1,List.getElem?_eq_getElem hij] at hc
   have hN:X.N[js[i]]? = some y:=(Option.some.inj hc).symm
   have hσ:σ[js[i]]? = some (some v):=by
    rw [List.getD_eq_getElem?_getD] at e2'
    cases q:σ[js[i]]? with
    | none=>rw [q] at e2';cases e2'
    | some o=>rw [q] at e2';exact congrArg some e2'
   have hy:y∈fv:=List.mem_of_getElem? e1
   have hfree:=PySem.mem_of_lookup (C.see y hy)
   have hout:=C.fre _ hfree rfl
   obtain ⟨m,_,hl⟩:=I.loc
   obtain ⟨u,r,l⟩:=hl _ y v hN hσ (hout.elim (fun z => .inr (.inl z)) fun z => .inr (.inr z))
   refine ⟨u,r,?_⟩
   rcases l with ⟨k,_⟩ | ⟨_,c,hc,hcell⟩
   ·have k:X.env.scope.names.lookup y=some .local:=k
    rcases hout with z | z <;> rw [k] at z <;> cases z
   ·obtain ⟨c',hc'⟩:=Inv.capHas (X:=X) C hfree
    have q:=I.capCell C hc'
    rw [hc] at q
    cases q
    refine .inr ⟨io (C.see y hy),c,hc',?_⟩
    obtain ⟨o,ho,hd⟩:=hcell
    exact ⟨o,hk _ _ ho,hd⟩
  ·have hl:(mT σ js).length=fv.length:=by unfold mT;rw [List.length_map];exact jl
   rw [List.getElem?_append_right (by omega)] at e2
   have:i - (mT σ js).length=0∨1≤i - (mT σ js).length:=by omega
   rcases this with z | z
   ·rw [z] at e2;cases e2
   ·rw [List.getElem?_eq_none (by simpa using z)] at e2;cases e2
 ·obtain ⟨v,o,ho,hd⟩:=I.cell y c (I.capCell C e)
  exact ⟨v,o,hk _ _ ho,hd⟩
 ·exact I.freeC y c (I.capCell C e)
 ·show (mT σ js++[none]).length=(fv++[x]).length
  unfold mT
  rw [List.length_append,List.length_append,List.length_map,jl]
  rfl
def bo:TT:=fun _ H Q=>Q true H
def Cw (J:It) (te:TE) (caps:St) (D:Addr) (W:Nat→Nat→List V→Hp→Prop) (Q:VK):Prop:=
 ∀ i n ys Hc,W i n ys Hc→Hc D=some (.lst ys)∧((J.stop i Hc∧Q (.ref D) Hc) ∨
  (J.go i Hc∧ys.length < sizeLine∧∀ v H',J.yld i Hc v H'→te (caps++[some v]) H' fun y H2=>H2 D=some (.lst ys)∧∃ n',n' < n∧W (i+1) n' (ys++[y]) (upd H2 D (.lst (ys++[y])))))
def dQ (J:It) (tt:TT) (te:TE) (caps:St) (D:Addr) (W:Nat→Nat→List V→Hp→Prop) (Q:VK):Prop:=
 ∀ i n ys Hc,W i n ys Hc→Hc D=some (.lst ys)∧((J.stop i Hc∧Q (.ref D) Hc) ∨
  (J.go i Hc∧ys.length < sizeLine∧∀ v H',J.yld i Hc v H'→tt (caps++[some v]) H' fun b H1=>
   if b=true then te (caps++[some v]) H1 fun y H2=>H2 D=some (.lst ys)∧∃ n',n' < n∧W (i+1) n' (ys++[y]) (upd H2 D (.lst (ys++[y])))
   else H1 D=some (.lst ys)∧∃ n',n' < n∧W (i+1) n' ys H1))
theorem yo {α β:Type} {M:Model} {A:Around} {a:α} {t:Sem β} {Q:α→Shared→Prop} {Q':β→Shared→Prop} {E E':Value→Shared→Prop} {s1:Shared} (h:wpAny M A (pure a:Sem α) Q E s1) (k:Q a s1→wpAny M A t Q' E' s1):wpAny M A t Q' E' s1:=
 fun G p hG=>k (h G p hG) G p hG
theorem kj {σc:St} {Hc:Hp} {sc:Shared} {Nc:List Str} {pc:List (Addr×Obj)} (I:Inv (cxC X Nc scope fp s H) pc σc Hc sc) (hn:∀ b∈fp,Hc b=none) (hp:pc=[]):∀ b∈fp,qG (cxC X Nc scope fp s H) pc Hc b:=fun b hb=>by
 subst hp
 exact ⟨hn b hb,(I.ok.exf b hb).1,I.ok.exfs b hb,.inl hb,(I.ok.exf b hb).2,fun p hp=>absurd (show p∈([]:List (Addr×Obj)) from hp) (by simp)⟩
theorem uj (l:St) (o:Option V) (v:V):(l++[o]).set l.length (some v)=l++[some v]:=by
 rw [List.set_append_right _ _ (Nat.le_refl _),Nat.sub_self]
 rfl
theorem rm {elt iter:Expr} {tt:TT} {te:TE} {ifs:List Expr} {px pos:Pos} {it D:Addr} {J:It} {tn:Nat→Heap→Prop} {W:Nat→Nat→List V→Hp→Prop} {Q:VK} {R:Result→Shared→Prop} {s1:Shared} {n:Nat} {caps:St}
  (C:Caps X.env.scope scope X.N x fv js) (hcalm:X.calm=true) (hcl:caps.length=fv.length) (T:Turn X.prog X.w X.K (.Name x px) J fp it tn) (he:PE (cxC X (fv++[x]) scope fp s H) elt te)
  (ht:(ifs=[]∧tt=bo)∨∃ c,ifs=[c]∧PT (cxC X (fv++[x]) scope fp s H) c tt)
  (turn:dQ J tt te caps D W Q) (I1:Inv (cxC X (fv++[x]) scope fp s H) [] (caps++[none]) H s1) (st1:tn 0 s1.heap) (hf1:∀ b∈fp,H b=none) (w1:W 0 n [] H)
  (hR:∀ s' Hc o,Inv (cxC X (fv++[x]) scope fp s H) [] (caps++[o]) Hc s'→Q (.ref D) Hc→R (.ok .next) s') :
  codeAny (model X.prog X.w) X.A (.compLoop (.ListComp elt [⟨.Name x px,iter,ifs,0⟩] scope pos) 0 (.ref it) (.ref D) (cxC X (fv++[x]) scope fp s H).env) R s1:=by
 have tgt:PG (cxC X (fv++[x]) scope fp s H) (.Name x px) (dk fv.length):=
  bD C.nd (by show (fv++[x])[fv.length]? = some x;simp) (.inl (lookup_relabel_local C.tgt)) (.inr (lookup_relabel_local C.tgt))
 refine codeAny_compLoop_tests (fun m s'=>∃ i ys Hc o,Inv (cxC X (fv++[x]) scope fp s H) [] (caps++[o]) Hc s'∧tn i s'.heap∧(∀ b∈fp,Hc b=none)∧W i m ys Hc) ?_ n ⟨0,[],H,none,I1,st1,hf1,w1⟩
 rintro m s3 ⟨i,ys,H3,o,I3,st3,fr3,w3⟩
 obtain ⟨hD,hw⟩:=turn i m ys H3 w3
 rcases hw with ⟨stop,q⟩ | ⟨go,hz,step⟩
 ·refine wpAny_mono (T.done (cxC X (fv++[x]) scope fp s H) rfl rfl rfl hcalm i [] s3 _ H3 (fun _ _=>False) I3 (kj I3 fr3 rfl) st3 stop) (fun r s4 ⟨hr,I4⟩ => ?_) fun _ _ f=>f.elim
  subst hr
  exact hR s4 H3 o I4 q
 ·refine wpAny_mono (T.item (cxC X (fv++[x]) scope fp s H) rfl rfl rfl hcalm i [] s3 _ H3 (fun _ _=>False) I3 (kj I3 fr3 rfl) st3 go) (fun r s4 ⟨u,hr,h4⟩ => ?_) fun _ _ f=>f.elim
  subst hr
  refine yo (a:=()) h4 fun ⟨v,H5,I5,r5,y5,st5,fr5⟩ => ?_
  have I5':=I5.pinned (kj I5 fr5 rfl) (T.obj _ _ st5)
  refine wpAny_mono (tgt _ s4 _ H5 v u (fun σ' H'=>σ'=caps++[some v]∧H'=H5) I5' r5 ⟨by rw [← hcl];exact uj caps o v,rfl⟩) (fun _ s6 ⟨σ6,H6,I6,e1,e2⟩ => ?_) fun _ _ f=>f.elim
  subst e1
  subst e2
  have again:∀ {o7:Option V} {H7:Hp} {ys7:List V} {s7:Shared},Inv (cxC X (fv++[x]) scope fp s H) ([]++jR fp s4.heap) (caps++[o7]) H7 s7→(∃ n',n' < m∧W (i+1) n' ys7 H7) →
    ∃ m',m' < m∧∃ i ys Hc o,Inv (cxC X (fv++[x]) scope fp s H) [] (caps++[o]) Hc s7∧tn i s7.heap∧(∀ b∈fp,Hc b=none)∧W i m' ys Hc:=fun {o7 H7 ys7 s7} I7 ⟨n',hn',w7⟩=>by
   refine ⟨n',hn',i+1,ys7,H7,o7,I7.unpinned,T.keep _ _ _ st5 fun b hb o e=>(I7.pin (b,o) (List.mem_append_right _ (List.mem_append_right _ (eH hb e)))).1,fun b hb => ?_,w7⟩
   obtain ⟨o,e,_⟩:=T.obj _ _ st5 b hb
   exact (I7.pin (b,o) (List.mem_append_right _ (List.mem_append_right _ (eH hb e)))).2.1
  have st:=step v H6 y5
  have after:∀ s8 H8,Inv (cxC X (fv++[x]) scope fp s H) ([]++jR fp s4.heap) (caps++[some v]) H8 s8 →
    (te (caps++[some v]) H8 fun y H2=>H2 D=some (.lst ys)∧∃ n',n' < m∧W (i+1) n' (ys++[y]) (upd H2 D (.lst (ys++[y]))))→∀ E':Value→Shared→Prop,
    wpAny (model X.prog X.w) X.A (eval elt (cxC X (fv++[x]) scope fp s H).env) (fun x' s9=>wpAny (model X.prog X.w) X.A (call (.builtin "list.append") [.ref D,x']) (fun _ s10=>∃ m',m' < m∧∃ i ys Hc o,Inv (cxC X (fv++[x]) scope fp s H) [] (caps++[o]) Hc s10∧tn i s10.heap∧(∀ b∈fp,Hc b=none)∧W i m' ys Hc) E' s9) E' s8:=fun s8 H8 I8 hq E'=>by
   refine wpAny_mono (he _ s8 _ H8 _ I8 hq) (fun u9 s9 ⟨y,H9,I9,r9,hD9,hw9⟩ => ?_) fun _ _ f=>f.elim
   refine wpAny_mono (bE (X:=cxC X (fv++[x]) scope fp s H) _ s9 _ H9 (.ref D) [y] (.ref D) [u9] (fun _ H'=>H'=upd H9 D (.lst (ys++[y]))) I9 rfl (.cons r9 .nil) ⟨D,ys,y,rfl,rfl,hD9,hz,rfl⟩) (fun _ s10 ⟨_,H10,I10,_,e10⟩ => ?_) fun _ _ f=>f.elim
   subst e10
   exact again I10 hw9
  rcases ht with ⟨rfl,rfl⟩ | ⟨c,rfl,hc⟩
  ·have st':te (caps++[some v]) H6 fun y H2=>H2 D=some (.lst ys)∧∃ n',n' < m∧W (i+1) n' (ys++[y]) (upd H2 D (.lst (ys++[y]))):=by
    have z:=st
    unfold bo at z
    dsimp only at z
    rw [if_pos rfl] at z
    exact z
   show wpAny _ _ (pure true) _ _ _
   exact wpAny_pure (after s6 H6 I6 st' _)
  ·show wpAny _ _ (forIn [c] true _) _ _ _
   rw [List.forIn_cons]
   refine wpAny_bind (wpAny_bind (wpAny_mono (hc _ s6 _ H6 _ I6 st) (fun b s7 ⟨H7,I7,q7⟩ => ?_) fun _ _ f=>f.elim))
   refine wpAny_pure ?_
   show wpAny _ _ (pure b) _ _ _
   refine wpAny_pure ?_
   cases b with
   | true=>exact after s7 H7 I7 q7 _
   | false=>exact again I7 q7.2
def km (wi:TI) (tt:TT) (te:TE) (js:List Nat):TE:=fun σ H Q=>wi σ H fun J H1=>∀ D,H1 D=none→∃ W:Nat→Nat→List V→Hp→Prop,(∃ n,W 0 n [] (upd H1 D (.lst [])))∧dQ J tt te (mT σ js) D W Q
theorem jW {elt iter:Expr} {tt:TT} {te:TE} {ifs:List Expr} {px pos:Pos} {J:It} {it:Addr} {tn:Nat→Heap→Prop} {Q:VK} {RR:Value→Addr→Result→Shared→Prop} {H2:Hp} {s2:Shared} {E:Value→Shared→Prop}
  (C:Caps X.env.scope scope X.N x fv js) (hcalm:X.calm=true) (he:∀ fp s H,PE (cxC X (fv++[x]) scope fp s H) elt te) (ht:(ifs=[]∧tt=bo)∨∃ c,ifs=[c]∧∀ fp s H,PT (cxC X (fv++[x]) scope fp s H) c tt)
  (I2:Inv X pins σ H2 s2) (T:Turn X.prog X.w X.K (.Name x px) J fp it tn) (st2:tn 0 s2.heap) (f2:∀ b∈fp,qG X pins H2 b)
  (q2:∀ D,H2 D=none→∃ W:Nat→Nat→List V→Hp→Prop,(∃ n,W 0 n [] (upd H2 D (.lst [])))∧dQ J tt te (mT σ js) D W Q)
  (hRR:∀ D F s' H' m,Inv X pins σ H' s'→qG X pins H' F→s'.heap.Ns F m→Q (.ref D) H'→RR (.ref D) F (.ok .next) s') :
  wpAny (model X.prog X.w) X.A (newList []) (fun acc s3=>wpAny (model X.prog X.w) X.A (newFunctionEnv scope X.env.globals (wu scope X.env) [] X.env.qual none .none (some X.env)) (fun cenv s4=>
   codeAny (model X.prog X.w) X.A (.compStart (.ListComp elt [⟨.Name x px,iter,ifs,0⟩] scope pos) 0 (.ref it) acc {cenv with scope:=relabel scope X.env}) (RR acc cenv.locals) s4) E s3) E s2:=by
 refine wpAny_newObj_type (wpAny_newFunctionEnv C.nocell (fun y hy=>absurd hy (by simp)) (fun h1 hns hsb => ?_) C.kind)
 dsimp only at hns hsb ⊢
 have hD:=I2.hok.fresh (Nat.le_refl s2.heap.objs.size)
 have I3:Inv X pins σ (upd H2 s2.heap.objs.size (.lst [])) {s2 with heap:=s2.heap.push {cls := .type "list",data := .seq ([]:List Value).toArray}}:=I2.lnew (t':=s2.toks) (its:=[]) (ys:=[]) .nil (Nat.zero_le _)
 obtain ⟨W,⟨n,w0⟩,turn⟩:=q2 _ hD
 have lt2:∀ b∈fp,b < s2.heap.objs.size:=fun b hb=>by
  obtain ⟨o,e,_⟩:=T.obj _ _ st2 b hb
  exact Heap.lt_size e
 have fr3:∀ b∈fp,upd H2 s2.heap.objs.size (.lst []) b=none:=fun b hb=>by
  rw [aU (Nat.ne_of_lt (lt2 b hb))]
  exact (f2 b hb).1
 have f3:∀ b∈fp,qG X pins (upd H2 s2.heap.objs.size (.lst [])) b:=fun b hb=>⟨fr3 b hb,(f2 b hb).2⟩
 generalize hs3:({s2 with heap:=s2.heap.push {cls := .type "list",data := .seq ([]:List Value).toArray}}:Shared)=s3 at I3
 have e3:s3.heap=s2.heap.push {cls := .type "list",data := .seq ([]:List Value).toArray}:=by rw [← hs3]
 have lt3:∀ b∈fp,b < s3.heap.objs.size:=fun b hb=>by
  rw [e3,Heap.size_push]
  exact Nat.lt_succ_of_lt (lt2 b hb)
 have hk:∀ b o,s3.heap.get? b=some o→h1.get? b=some o:=fun b o e=>by
  rw [e3] at e
  exact hsb.extBut b o (Nat.ne_of_lt (Heap.lt_size e)) (Heap.get?_push_of_some _ e)
 have st3:tn 0 h1:=T.keep _ _ _ st2 fun b _ o e=>hk b o (by rw [e3];exact Heap.get?_push_of_some _ e)
 have hns3:h1.Ns s3.heap.objs.size (fun x=>([]:List (Str×Value)).reverse.lookup x):=by rw [e3];exact hns
 have Ib:=rk (t':=s3.toks+([]:List (Str×Value)).length) I3 C f3 lt3 hns3 hk
 have jl:(mT σ js).length=fv.length:=by unfold mT;rw [List.length_map];exact C.len
 have loop:=rm (elt:=elt) (iter:=iter) (ifs:=ifs) (px:=px) (pos:=pos) (R:=RR (.ref s2.heap.objs.size) s3.heap.objs.size) (Q:=Q) C hcalm jl T (he fp s3 _) (ht.imp (fun z=>z) fun ⟨c,e,z⟩=>⟨c,e,z fp s3 _⟩) turn Ib st3 fr3 w0 fun s' Hc o Ic qc=>by
  obtain ⟨m,hm,_⟩:=Ic.loc
  have IX:Inv X pins σ Hc s':=I3.call' Ic.os Ic.base Ic.hok Ic.bare fun b hb=>⟨(f3 b hb).2.2.2.1,(f3 b hb).2.1,(f3 b hb).2.2.2.2.1,(f3 b hb).2.2.2.2.2⟩
  exact hRR _ _ s' Hc m IX (I3.fpOk (Nat.le_refl _) Ic.free) hm qc
 subst hs3
 exact codeAny_compStart_list loop (T.self _ 0 _ _ _ st3 loop)
theorem Inv.frameGone {H':Hp} {s':Shared} {F:Addr} {h':Heap} (I:Inv X pins σ H' s') (f:qG X pins H' F) (hs:Heap.SameBut F s'.heap h'):Inv X pins σ H' {s' with heap:=h'}:=
 I.turned (t':=s'.toks) (fun b o hb e=>hs.extBut b o hb e) f.1 f.2.1 f.2.2.2.1 f.2.2.2.2.1 f.2.2.2.2.2
theorem vy (I:Inv X pins σ H s) (C:Caps X.env.scope scope X.N x fv js):closureFor scope X.env=pure (wu scope X.env):=wv fun y hy e=>I.ok.has y.1 (C.fre y hy e)
theorem oJ {elt iter:Expr} {wi:TI} {tt:TT} {te:TE} {ifs:List Expr} {px pos:Pos} (hC:ip X.env.scope scope X.N x fv js=true) (hcalm:X.calm=true) (hi:PI X (.Name x px) iter wi) (he:∀ fp s H,PE (cxC X (fv++[x]) scope fp s H) elt te)
  (ht:(ifs=[]∧tt=bo)∨∃ c,ifs=[c]∧∀ fp s H,PT (cxC X (fv++[x]) scope fp s H) c tt) (hs:∀ v,foldedSetIterable iter X.env v=pure v) :
  PE X (.ListComp elt [⟨.Name x px,iter,ifs,0⟩] scope pos) (km wi tt te js):=by
 intro pins s σ H Q I h
 have C:=Caps.of hC
 rw [eval_ListComp]
 refine wpAny_comprehension_free (use:=none) rfl hs (vy I C) C.kind C.names (thn (hi pins s σ H _ I h) fun v s1 h1=>thn h1 fun itv s2 h2 => ?_)
 obtain ⟨it,fp,tn,J,H2,e,I2,T,st2,f2,q2⟩:=h2
 subst e
 exact jW (RR:=fun acc F=>compPost (model X.prog X.w) X.A X.xe none (EP X pins σ Q) acc F) C hcalm he ht I2 T st2 f2 q2 fun D F s' H' m I' f hm q=>⟨m,hm,fun h' hs'=>⟨.ref D,H',I'.frameGone f hs',rfl,q⟩⟩
theorem ce {elt iter:Expr} {wi:TI} {te:TE} {px pos:Pos} (fv:List Str) (js:List Nat) (hi:PI X (.Name x px) iter wi) (he:∀ fp s H,PE (cxC X (fv++[x]) scope fp s H) elt te)
  (hC:ip X.env.scope scope X.N x fv js=true:=by rfl) (hcalm:X.calm=true:=by rfl) (hs:∀ v,foldedSetIterable iter X.env v=pure v:=by intro _;rfl) :
  PE X (.ListComp elt [⟨.Name x px,iter,[],0⟩] scope pos) (km wi bo te js):=oJ hC hcalm hi he (.inl ⟨rfl,rfl⟩) hs
theorem uk {elt iter c:Expr} {wi:TI} {tt:TT} {te:TE} {px pos:Pos} (fv:List Str) (js:List Nat) (hi:PI X (.Name x px) iter wi) (ht:∀ fp s H,PT (cxC X (fv++[x]) scope fp s H) c tt) (he:∀ fp s H,PE (cxC X (fv++[x]) scope fp s H) elt te)
  (hC:ip X.env.scope scope X.N x fv js=true:=by rfl) (hcalm:X.calm=true:=by rfl) (hs:∀ v,foldedSetIterable iter X.env v=pure v:=by intro _;rfl) :
  PE X (.ListComp elt [⟨.Name x px,iter,[c],0⟩] scope pos) (km wi tt te js):=oJ hC hcalm hi he (.inr ⟨c,rfl,ht⟩) hs
theorem oK {i:Nat} {y:Str} {elt iter:Expr} {wi:TI} {tt:TT} {te:TE} {ifs:List Expr} {px py pos spos:Pos} (hN:X.N.Nodup) (hy:X.N[i]? = some y) (hl:Loc X.env.scope y) (hC:ip X.env.scope scope X.N x fv js=true) (hcalm:X.calm=true) (hi:PI X (.Name x px) iter wi)
  (he:∀ fp s H,PE (cxC X (fv++[x]) scope fp s H) elt te) (ht:(ifs=[]∧tt=bo)∨∃ c,ifs=[c]∧∀ fp s H,PT (cxC X (fv++[x]) scope fp s H) c tt) (hs:∀ v,foldedSetIterable iter X.env v=pure v)
  (hsw:swapsWith (.ListComp elt [⟨.Name x px,iter,ifs,0⟩] scope pos) (some (.Name y py)) spos.line X.env=pure true) (hf:X.fn y=true∨X.env.scope.names.lookup y=some .local) :
  PS X (.Assign [.Name y py] (.ListComp elt [⟨.Name x px,iter,ifs,0⟩] scope pos) spos) (xO (km wi tt te js) (dk i)):=by
 intro pins s σ H D I h
 have C:=Caps.of hC
 rw [exec_Assign_Name_used _ _ _ _ hsw]
 refine wpAny_bind (wpAny_standAt (wpAny_bind ?_))
 have key:wpAny (model X.prog X.w) X.A (comprehension (.ListComp elt [⟨.Name x px,iter,ifs,0⟩] scope pos) scope X.env (firstIterPos [⟨.Name x px,iter,ifs,0⟩] pos) (newList []) false (eval iter X.env) (some (assign (.Name y py) X.env))) (fun _ s'=>SP X pins D .next s') X.xe s:=by
  refine wpAny_comprehension_free (use:=some (assign (.Name y py) X.env)) rfl hs (vy I C) C.kind C.names (thn (hi pins s σ H _ I h) fun v s1 h1=>thn h1 fun itv s2 h2 => ?_)
  obtain ⟨it,fp,tn,J,H2,e,I2,T,st2,f2,q2⟩:=h2
  subst e
  refine jW (RR:=fun acc F=>compPost (model X.prog X.w) X.A X.xe (some (assign (.Name y py) X.env)) (fun _ s'=>SP X pins D .next s') acc F) C hcalm he ht I2 T st2 f2 q2 fun d F s' H' m I' f hm q => ?_
  show wpAny _ _ (assign (.Name y py) X.env (.ref d)) _ _ s'
  refine wpAny_assign_Name (le I' hN hy hl (v := .ref d) rfl (fun s'' I'' ⟨a,hsb,ha⟩ => ?_) hf)
  have hne:F≠a:=by
   rcases ha with z | z
   ·rw [z];exact f.2.1
   ·exact Ne.symm (f.2.2.2.2.1 y a z)
  exact ⟨m,hm.sameBut hsb hne,fun h' hs'=>⟨_,H',I''.frameGone ⟨f.1,f.2⟩ hs',q⟩⟩
 rw [arm_evalThenUse_ListComp]
 exact wpAny_bind (thn key fun _ s' q=>wpAny_pure (wpAny_pure q))
end
end L2
set_option maxHeartbeats 4000000
namespace L2
open PySem PySem.Spec PyProof.Rows
section
variable {X:Cx}
def rp:V→Option Value
 | .ty n=>some (.type n)
 | .ref a=>some (.ref a)
 | _=>none
def Dm (K:PySem.W.Frag):List V→Hp→VK→Prop:=fun xs H Q=>∃ x cls t c b,xs=[x,cls]∧TyOf K H x t∧rp cls=some c∧PySem.W.kitOne K t c=some b∧Q (.bl b) H
theorem vz {P:Program} {w:World} {A:Around} {bs:List Bool} {its:List Value} (r:Vals (bs.map V.bl) its):TruthOf P w A (fun i v=>its.toArray[i]? = some v) (fun i=>bs.getD i true):=fun i v s Q E hv hq=>by
 have hv':its[i]? = some v:=by simpa using hv
 have hl:=r.length
 rw [List.length_map] at hl
 have hi:i < bs.length:=by
  have:=(List.getElem?_eq_some_iff.mp hv').1
  omega
 obtain ⟨u,hu,ru⟩:=r.get (i:=i) (x := .bl bs[i]) (by rw [List.getElem?_map,List.getElem?_eq_getElem hi];rfl)
 rw [hv'] at hu
 cases hu
 have e:v=Value.bool bs[i]:=ru
 subst e
 refine wpAny_truthy_bool ?_
 have:bs.getD i true=bs[i]:=by simp [List.getD_eq_getElem?_getD,hi]
 rw [← this];exact hq
theorem um (bs:List Bool):(List.range bs.length).all (fun i=>bs.getD i true)=bs.all id:=by
 rw [Bool.eq_iff_iff,List.all_eq_true,List.all_eq_true]
 constructor
 ·intro h b hb
  obtain ⟨i,hi,rfl⟩:=List.mem_iff_getElem.mp hb
  have:=h i (List.mem_range.mpr hi)
  simpa [List.getD_eq_getElem?_getD,hi] using this
 ·intro h i hi
  have hi':i < bs.length:=List.mem_range.mp hi
  have:=h bs[i] (List.getElem_mem hi')
  simpa [List.getD_eq_getElem?_getD,hi'] using this
theorem uo (bs:List Bool):(List.range bs.length).any (fun i=>bs.getD i true)=bs.any id:=by
 rw [Bool.eq_iff_iff,List.any_eq_true,List.any_eq_true]
 constructor
 ·rintro ⟨i,hi,h⟩
  have hi':i < bs.length:=List.mem_range.mp hi
  exact ⟨bs[i],List.getElem_mem hi',by simpa [List.getD_eq_getElem?_getD,hi'] using h⟩
 ·rintro ⟨b,hb,h⟩
  obtain ⟨i,hi,rfl⟩:=List.mem_iff_getElem.mp hb
  exact ⟨i,List.mem_range.mpr hi,by simpa [List.getD_eq_getElem?_getD,hi] using h⟩
theorem Inv.walked {pins:List (Addr×Obj)} {σ:St} {H:Hp} {s:Shared} {h':Heap} {t':Nat} (I:Inv X pins σ H s) {o:Obj}
  (k:∀ b o',b∉[s.heap.objs.size]→(s.heap.push o).get? b=some o'→h'.get? b=some o'):Inv X pins σ H {s with heap:=h',toks:=t'}:=
 I.kept fun b u e=>k b u (by simpa using Nat.ne_of_lt (Heap.lt_size e)) (Heap.get?_push_of_some _ e)
def Cy:List V→Hp→VK→Prop:=fun xs H Q=>∃ (p:Addr) (bs:List Bool),xs=[.ref p]∧H p=some (.lst (bs.map V.bl))∧Q (.bl (bs.all id)) H
theorem nc (hc:X.calm=true):dm X (.builtin "all") Cy:=by
 intro pins s σ H xs us Q I r h
 obtain ⟨p,bs,rfl,hq,q⟩:=h
 obtain ⟨u,rfl,rx⟩:=ke r
 cases rx
 obtain ⟨its,r',pl,hz⟩:=I.list (SqL.of (K:=X.K) hq)
 have hl:=r'.length
 rw [List.length_map] at hl
 refine call_all_walk (wpAny_pyIter_list pl.isList ?_)
 have hne:p≠s.heap.objs.size:=by
  obtain ⟨o,ho,_⟩:=pl.isList
  exact Nat.ne_of_lt (Heap.lt_size ho)
 refine ⟨_,_,_,_,_,_,_,rfl,Walks.list (A:=X.A.in1) (I.ok.hd hc) s.heap.objs.size p hne its.toArray,⟨⟨_,Heap.get?_push_size _ rfl,rfl,rfl⟩,?_⟩,vz r',fun h' tk k=>⟨.bl _,H,I.walked k,rfl,?_⟩⟩
 ·exact pl.isList.at fun o e=>Heap.get?_push_of_some _ e
 ·rw [List.size_toArray,← hl,um];exact q
def Cz:List V→Hp→VK→Prop:=fun xs H Q=>∃ (p:Addr) (bs:List Bool),xs=[.ref p]∧H p=some (.lst (bs.map V.bl))∧Q (.bl (bs.any id)) H
theorem ng (hc:X.calm=true):dm X (.builtin "any") Cz:=by
 intro pins s σ H xs us Q I r h
 obtain ⟨p,bs,rfl,hq,q⟩:=h
 obtain ⟨u,rfl,rx⟩:=ke r
 cases rx
 obtain ⟨its,r',pl,hz⟩:=I.list (SqL.of (K:=X.K) hq)
 have hl:=r'.length
 rw [List.length_map] at hl
 refine call_any_walk (wpAny_pyIter_list pl.isList ?_)
 have hne:p≠s.heap.objs.size:=by
  obtain ⟨o,ho,_⟩:=pl.isList
  exact Nat.ne_of_lt (Heap.lt_size ho)
 refine ⟨_,_,_,_,_,_,_,rfl,Walks.list (A:=X.A.in1) (I.ok.hd hc) s.heap.objs.size p hne its.toArray,⟨⟨_,Heap.get?_push_size _ rfl,rfl,rfl⟩,?_⟩,vz r',fun h' tk k=>⟨.bl _,H,I.walked k,rfl,?_⟩⟩
 ·exact pl.isList.at fun o e=>Heap.get?_push_of_some _ e
 ·rw [List.size_toArray,← hl,uo];exact q
def EqW (X:Cx) (H:Hp) (n:Nat) (x y:V) (b:Bool):Prop:=
 ∀ (pins:List (Addr×Obj)) (σ:St) (s:Shared) (u v:Value),Inv X pins σ H s→RelV x u→RelV y v→∀ A:Around,A.units+n < cLine→SeqAt.EqAt A s u v b
def RcW (X:Cx) (H:Hp) (n:Nat) (x y:V) (b:Bool):Prop:=
 ∀ (pins:List (Addr×Obj)) (σ:St) (s:Shared) (u v:Value),Inv X pins σ H s→RelV x u→RelV y v→∀ A:Around,A.units+n < cLine→SeqAt.RcAt A s u v b∧SeqAt.RcNeAt A s u v (!b)
theorem up {H:Hp} {x y:V} (fx:iT x=true) (fy:iT y=true):EqW X H 0 x y (eqV x y):=fun _ _ _ _ _ _ rx ry _ _=>q9 rx ry fx fy
theorem nh {H:Hp} (i j:Int):EqW X H 0 (.int i) (.int j) (i == j):=up rfl rfl
theorem EqW.mono {H:Hp} {m n:Nat} {x y:V} {b:Bool} (h:EqW X H m x y b) (hl:m≤n):EqW X H n x y b:=fun pins σ s u v I rx ry A hu=>h pins σ s u v I rx ry A (by omega)
theorem RcW.mono {H:Hp} {m n:Nat} {x y:V} {b:Bool} (h:RcW X H m x y b) (hl:m≤n):RcW X H n x y b:=fun pins σ s u v I rx ry A hu=>h pins σ s u v I rx ry A (by omega)
theorem iX (A:Around):A.in1.units=A.units+1:=rfl
theorem ko {H:Hp} {n:Nat} {a b:Addr} {xs ys:List V} {e:Nat→Bool} (ha:SqL X.K H a xs) (hb:SqL X.K H b ys) (hl:xs.length=ys.length) (he:∀ j x y,xs[j]? = some x→ys[j]? = some y→EqW X H n x y (e j)) :
  RcW X H (n+1) (.ref a) (.ref b) ((List.range xs.length).all e):=by
 intro pins σ s u v I rx ry A hu
 cases rx
 cases ry
 obtain ⟨its,r,pl,hz⟩:=I.list ha
 obtain ⟨its2,r2,pl2,hz2⟩:=I.list hb
 have l1:=r.length
 have l2:=r2.length
 have key:∀ j (h1:j < its.toArray.size) (h2:j < its2.toArray.size),SeqAt.EqAt A.in1 s its.toArray[j] its2.toArray[j] (e j):=fun j h1 h2=>by
  rw [List.size_toArray] at h1 h2
  have hx:j < xs.length:=by omega
  have hy:j < ys.length:=by omega
  obtain ⟨u1,e1,q1⟩:=r.get (List.getElem?_eq_getElem hx)
  obtain ⟨u2,e2,q2⟩:=r2.get (List.getElem?_eq_getElem hy)
  have t1:its.toArray[j]=u1:=by
   rw [List.getElem?_eq_getElem h1] at e1
   simpa using Option.some.inj e1
  have t2:its2.toArray[j]=u2:=by
   rw [List.getElem?_eq_getElem h2] at e2
   simpa using Option.some.inj e2
  rw [t1,t2]
  exact he j _ _ (List.getElem?_eq_getElem hx) (List.getElem?_eq_getElem hy) pins σ s u1 u2 I q1 q2 A.in1 (by rw [iX];omega)
 have hs:its.toArray.size=its2.toArray.size:=by rw [List.size_toArray,List.size_toArray];omega
 have hsz:its.toArray.size=xs.length:=by rw [List.size_toArray];omega
 rw [← hsz]
 exact ⟨SeqAt.RcAt.lists pl.isList pl2.isList hs (by omega) key,SeqAt.RcNeAt.lists pl.isList pl2.isList hs (by omega) key⟩
theorem rq {H:Hp} {a b:Addr} {xs ys:List V} (ha:SqL X.K H a xs) (hb:SqL X.K H b ys) (hl:xs.length≠ys.length):RcW X H 0 (.ref a) (.ref b) false:=by
 intro pins σ s u v I rx ry A hu
 cases rx
 cases ry
 obtain ⟨its,r,pl,hz⟩:=I.list ha
 obtain ⟨its2,r2,pl2,hz2⟩:=I.list hb
 have l1:=r.length
 have l2:=r2.length
 have hne:(its.toArray.size != its2.toArray.size)=true:=by
  rw [List.size_toArray,List.size_toArray,bne_iff_ne]
  omega
 exact ⟨SeqAt.RcAt.lists_lengths pl.isList pl2.isList hne (by omega),SeqAt.RcNeAt.lists_lengths pl.isList pl2.isList hne (by omega)⟩
theorem rs {H:Hp} {n:Nat} {a b:Addr} {xs ys:List V} {e:Nat→Bool} (ha:SqT X.K H a xs) (hb:SqT X.K H b ys) (he:∀ j x y,xs[j]? = some x→ys[j]? = some y→EqW X H n x y (e j)) :
  RcW X H (n+1) (.ref a) (.ref b) ((List.range (min xs.length ys.length)).all e && xs.length == ys.length):=by
 intro pins σ s u v I rx ry A hu
 cases rx
 cases ry
 obtain ⟨its,r,pl,hz⟩:=I.tuple ha
 obtain ⟨its2,r2,pl2,hz2⟩:=I.tuple hb
 have l1:=r.length
 have l2:=r2.length
 have key:∀ j (h1:j < its.toArray.size) (h2:j < its2.toArray.size),SeqAt.EqAt A.in1 s its.toArray[j] its2.toArray[j] (e j):=fun j h1 h2=>by
  rw [List.size_toArray] at h1 h2
  have hx:j < xs.length:=by omega
  have hy:j < ys.length:=by omega
  obtain ⟨u1,e1,q1⟩:=r.get (List.getElem?_eq_getElem hx)
  obtain ⟨u2,e2,q2⟩:=r2.get (List.getElem?_eq_getElem hy)
  have t1:its.toArray[j]=u1:=by
   rw [List.getElem?_eq_getElem h1] at e1
   simpa using Option.some.inj e1
  have t2:its2.toArray[j]=u2:=by
   rw [List.getElem?_eq_getElem h2] at e2
   simpa using Option.some.inj e2
  rw [t1,t2]
  exact he j _ _ (List.getElem?_eq_getElem hx) (List.getElem?_eq_getElem hy) pins σ s u1 u2 I q1 q2 A.in1 (by rw [iX];omega)
 have s1:its.toArray.size=xs.length:=by rw [List.size_toArray];omega
 have s2:its2.toArray.size=ys.length:=by rw [List.size_toArray];omega
 rw [← s1,← s2]
 exact ⟨SeqAt.RcAt.tuples pl pl2 (by omega) key,SeqAt.RcNeAt.tuples pl pl2 (by omega) key⟩
theorem rA {H:Hp} {n:Nat} {a b:Addr} {k:Bool} (h:RcW X H n (.ref a) (.ref b) k) (hs:a=b→k=true):EqW X H n (.ref a) (.ref b) k:=by
 intro pins σ s u v I rx ry A hu
 cases rx
 cases ry
 by_cases e:a=b
 ·subst e
  rw [hs rfl]
  exact SeqAt.EqAt.same _
 ·exact SeqAt.EqAt.of_refs e (h pins σ s _ _ I rfl rfl A hu).1
def CA (X:Cx):R2:=fun x y H Q=>∃ b,RcW X H 8 x y b∧Q (.bl b) H
def CB (X:Cx):R2:=fun x y H Q=>∃ b,RcW X H 8 x y b∧Q (.bl (!b)) H
theorem yp {k:Nat} (hr:Room k X.A):OpR X (compareOp .Eq) (CA X):=by
 intro pins s σ H x y v u Q I rx ry h
 obtain ⟨b,hb,q⟩:=h
 exact (hb pins σ s v u I rx ry X.A (by have:=hr.units;omega)).1 _ _ _ _ ⟨.bl b,H,I,rfl,q⟩
theorem yq {k:Nat} (hr:Room k X.A):OpR X (compareOp .NotEq) (CB X):=by
 intro pins s σ H x y v u Q I rx ry h
 obtain ⟨b,hb,q⟩:=h
 exact (hb pins σ s v u I rx ry X.A (by have:=hr.units;omega)).2 _ _ _ _ ⟨.bl (!b),H,I,rfl,q⟩
theorem rB (xs ys:List Int) (h:xs.length=ys.length):(List.range xs.length).all (fun j=>xs.getD j 0 == ys.getD j 0)=decide (xs=ys):=by
 rw [Bool.eq_iff_iff,List.all_eq_true,decide_eq_true_eq]
 constructor
 ·intro hh
  refine List.ext_getElem h fun i h1 h2 => ?_
  have:=hh i (List.mem_range.mpr h1)
  simpa [List.getD_eq_getElem?_getD,h1,h2] using this
 ·rintro rfl i _
  simp
theorem oM {H:Hp} {a b:Addr} {xs ys:List Int} (ha:SqL X.K H a (xs.map V.int)) (hb:SqL X.K H b (ys.map V.int)):RcW X H 8 (.ref a) (.ref b) (decide (xs=ys)):=by
 by_cases hl:xs.length=ys.length
 ·have h:=ko (X:=X) (n:=0) (e:=fun j=>xs.getD j 0 == ys.getD j 0) ha hb (by simpa using hl) fun j x y ex ey=>by
   rw [List.getElem?_map] at ex ey
   cases e1:xs[j]? with
   | none=>rw [e1] at ex;cases ex
   | some i=>
    cases e2:ys[j]? with
    | none=>rw [e2] at ey;cases ey
    | some i'=>
     rw [e1] at ex
     rw [e2] at ey
     cases ex
     cases ey
     rw [List.getD_eq_getElem?_getD,List.getD_eq_getElem?_getD,e1,e2]
     exact nh i i'
  rw [List.length_map,rB xs ys hl] at h
  exact h.mono (by omega)
 ·have h:=rq (X:=X) ha hb (by simpa using hl)
  have:decide (xs=ys)=false:=decide_eq_false fun e=>hl (by rw [e])
  rw [this]
  exact h.mono (by omega)
end
theorem pO (a b:Nat):(a ^^^ b)+(a &&& b)=a ||| b:=by
 have h:=nat_or_add_and (a ^^^ b) (a &&& b)
 have e1:(a ^^^ b) ||| (a &&& b)=a ||| b:=by
  apply Nat.eq_of_testBit_eq
  intro i
  simp only [Nat.testBit_or,Nat.testBit_xor,Nat.testBit_and]
  cases a.testBit i <;> cases b.testBit i <;> rfl
 have e2:(a ^^^ b) &&& (a &&& b)=0:=by
  apply Nat.eq_of_testBit_eq
  intro i
  simp only [Nat.testBit_xor,Nat.testBit_and,Nat.zero_testBit]
  cases a.testBit i <;> cases b.testBit i <;> rfl
 rw [e1,e2] at h
 omega
theorem pQ (a b:Nat):Builtin.bitXor (a:Int) (b:Int)=((a ^^^ b:Nat):Int):=by
 rw [bitXor_and,bitAnd_pp (by omega) (by omega)]
 have h:=pO a b
 have h2:=nat_or_add_and a b
 simp only [Int.toNat_natCast]
 omega
end L2
set_option maxHeartbeats 4000000
namespace L2
open PySem PySem.Spec PyProof.Rows
theorem ap {H:Hp} {p:Addr} (h:H p=none) (o:HO):Same H (upd H p o):=fun b u q=>by rw [aU (aH q h)];exact q
theorem bT {H H':Hp} {p:Addr} {o:HO} (s:Same H H') (h:H p=none):Same H (upd H' p o):=fun b u q=>by rw [aU (aH q h)];exact s b u q
def Dn (H:Hp) (Q:VK) (l:List Int):Prop:=∀ r H',Same H H'→H r=none→H' r=some (.lst (l.map V.int))→Q (.ref r) H'
theorem small {n:Nat} (h:n≤1000):n≤sizeLine:=Nat.le_of_lt (bg h)
theorem jX (f:Nat→V) (i:Nat):(List.range i).map f++[f i]=(List.range (i+1)).map f:=by
 rw [List.range_succ,List.map_append];rfl
theorem uq {te:TE} {caps:St} {D:Addr} {H1:Hp} {lo:Int} {n:Nat} {Q:VK} (f:Nat→V) (hD:H1 D=none) (hn:n≤sizeLine)
  (he:∀ (i:Nat) (H':Hp) (R:VK),i < n→Same H1 H'→(∀ H2,Same H' H2→R (f i) H2)→te (caps++[some (.int (lo+i))]) H' R)
  (hQ:∀ Hf,Same H1 Hf→Hf D=some (.lst ((List.range n).map f))→Q (.ref D) Hf) :
  ∃ W:Nat→Nat→List V→Hp→Prop,(∃ m,W 0 m [] (upd H1 D (.lst [])))∧dQ (Itr lo n) bo te caps D W Q:=by
 refine ⟨fun i m ys Hc=>m=n - i∧i≤n∧ys=(List.range i).map f∧Same H1 Hc∧Hc D=some (.lst ys),⟨n,rfl,Nat.zero_le _,rfl,ap hD _,bz⟩,?_⟩
 rintro i m ys Hc ⟨rfl,hi,rfl,hs,hd⟩
 refine ⟨hd,?_⟩
 by_cases hlt:i < n
 ·refine .inr ⟨hlt,by rw [List.length_map,List.length_range];omega,fun v H' hy => ?_⟩
  obtain ⟨e1,e2⟩:=hy
  subst e1
  subst e2
  unfold bo
  dsimp only
  rw [if_pos rfl]
  refine he i _ _ hlt hs fun H2 s2=>⟨s2 _ _ hd,n - (i+1),by omega,rfl,hlt,?_,?_,bz⟩
  ·exact jX f i
  ·exact bT (hs.trans s2) hD
 ·have e:i=n:=by omega
  subst e
  exact .inl ⟨Nat.le_refl _,hQ Hc hs hd⟩
theorem ur {K:PySem.W.Frag} {te:TE} {caps:St} {a D:Addr} {xs:List V} {H1:Hp} {Q:VK} (f:V→V) (hD:H1 D=none) (hn:xs.length≤sizeLine) (hl:SqL K H1 a xs)
  (he:∀ (i:Nat) (x:V) (H':Hp) (R:VK),xs[i]? = some x→Same H1 H'→(∀ H2,Same H' H2→R (f x) H2)→te (caps++[some x]) H' R)
  (hQ:∀ Hf,Same H1 Hf→Hf D=some (.lst (xs.map f))→Q (.ref D) Hf) :
  ∃ W:Nat→Nat→List V→Hp→Prop,(∃ m,W 0 m [] (upd H1 D (.lst [])))∧dQ (Itl K a) bo te caps D W Q:=by
 refine ⟨fun i m ys Hc=>m=xs.length - i∧i≤xs.length∧ys=(xs.take i).map f∧Same H1 Hc∧Hc D=some (.lst ys),⟨xs.length,rfl,Nat.zero_le _,rfl,ap hD _,bz⟩,?_⟩
 rintro i m ys Hc ⟨rfl,hi,rfl,hs,hd⟩
 refine ⟨hd,?_⟩
 by_cases hlt:i < xs.length
 ·refine .inr ⟨⟨xs,xs[i],hs.seq hl,by simp [hlt]⟩,by rw [List.length_map,List.length_take];omega,fun v H' hy => ?_⟩
  obtain ⟨e1,e2⟩:=hy
  subst e1
  have hv:=e2 xs (hs.seq hl)
  unfold bo
  dsimp only
  rw [if_pos rfl]
  refine he i v _ _ hv hs fun H2 s2=>⟨s2 _ _ hd,xs.length - (i+1),by omega,rfl,hlt,?_,?_,bz⟩
  ·have ev:v=xs[i]:=by
    rw [List.getElem?_eq_getElem hlt] at hv
    exact (Option.some.inj hv).symm
   rw [List.take_succ_eq_append_getElem hlt,List.map_append,ev]
   rfl
  ·exact bT (hs.trans s2) hD
 ·have e:i=xs.length:=by omega
  subst e
  refine .inl ⟨⟨xs,hs.seq hl,Nat.le_refl _⟩,hQ Hc hs ?_⟩
  rw [List.take_of_length_le (Nat.le_refl _)] at hd
  exact hd
end L2
set_option maxHeartbeats 4000000
namespace L2
open PySem PySem.Spec PyProof.Rows
def cP (ns:List Int):List Int:=firstMet (fun i=>ns.getD i 0) ns.length
section
variable {X:Cx}
def BV (K:PySem.W.Frag):List V→Hp→VK→Prop:=fun xs H Q=>∃ p ns,xs=[.ref p]∧SqL K H p (ns.map V.int)∧ns.length≤100∧∀ l,H l=none→Q (.ref l) (upd H l (.set (fun k=>(cP ns).any (· == k)) (cP ns).length))
theorem kq (hc:X.calm=true):dm X (.type "set") (BV X.K):=by
 intro pins s σ H xs us Q I r h
 obtain ⟨p,ns,rfl,hq,hl,q⟩:=h
 obtain ⟨u,rfl,rx⟩:=ke r
 cases rx
 obtain ⟨its,r',pl,hz⟩:=I.list hq
 have hlen:=r'.length
 rw [List.length_map] at hlen
 have hs:its.toArray.size=ns.length:=by rw [List.size_toArray];omega
 refine PySem.call_set_list (ns:=ns) (I.ok.hd hc) pl.isList (by simpa using eJ r') (by rw [hs];exact Nat.lt_of_le_of_lt (Nat.succ_le_succ hl) (by decide)) fun h' tk hS hk => ?_
 rw [hs] at hS
 have kp:∀ b o,s.heap.get? b=some o→h'.get? b=some o:=fun b o e=>hk b o (Heap.lt_size e) e
 exact ⟨.ref s.heap.objs.size,_,I.laid (t':=tk) kp (Nat.le_refl _) (show ObjOk X.prog X.w _ h' _ (.set _ _) from hS),rfl,q _ (I.hok.fresh (Nat.le_refl _))⟩
def An:List V→Hp→VK→Prop:=fun xs H Q=>∃ p S n,xs=[.ref p]∧H p=some (.set S n)∧Q (.int n) H
theorem kr:dm X (.builtin "len") An:=by
 intro pins s σ H xs us Q I r h
 obtain ⟨p,S,n,rfl,hq,q⟩:=h
 obtain ⟨u,rfl,rx⟩:=ke r
 cases rx
 obtain ⟨o,es,ep,t,ho,hex,hd,_,_,hb,hf,hn⟩:=(show s.heap.SetOf (intKind X.prog X.w) p S n from I.hok p _ hq)
 refine PySem.call_len_set ho hex hd hf (by have:scanBound=4096:=rfl;omega) ⟨.int n,H,I.tok _,⟨_,by rw [hn]⟩,q⟩
end
theorem ut {acc:List Int} {x:Int} (h:acc.any (· == x)=true):step_dedup acc x=acc:=by
 unfold step_dedup
 rw [if_pos h]
theorem uu {ns:List Int}:(cP ns).length=1↔∃ x,ns≠[]∧∀ y∈ns,y=x:=by
 have hmem:∀ k,(cP ns).any (· == k)=ns.any (· == k):=fun k=>by
  unfold cP
  rw [firstMet_any]
  congr 1
  refine List.ext_getElem (by simp) fun i h1 h2 => ?_
  simp [List.getD_eq_getElem?_getD,h2]
 constructor
 ·intro h
  obtain ⟨x,e⟩:=List.length_eq_one_iff.mp h
  refine ⟨x,?_,fun y hy => ?_⟩
  ·rintro rfl
   rw [show cP []=[] from rfl] at e
   cases e
  ·have:=hmem y
   rw [e] at this
   have h2:ns.any (· == y)=true:=List.any_eq_true.mpr ⟨y,hy,by simp⟩
   rw [h2] at this
   have h3:(x == y)=true:=by simpa using this
   exact (beq_iff_eq.mp h3).symm
 ·rintro ⟨x,hne,hall⟩
  have key:∀ i,i < ns.length→firstMet (fun i=>ns.getD i 0) (i+1)=[x]:=by
   intro i
   induction i with
   | zero=>
    intro hi
    rw [firstMet_succ,firstMet_zero]
    have:ns.getD 0 0=x:=by
     have:=hall ns[0] (List.getElem_mem hi)
     simpa [List.getD_eq_getElem?_getD,hi] using this
    show step_dedup [] (ns.getD 0 0)=[x]
    rw [this]
    rfl
   | succ i ih=>
    intro hi
    rw [firstMet_succ,ih (by omega)]
    have:ns.getD (i+1) 0=x:=by
     have:=hall ns[i+1] (List.getElem_mem hi)
     simpa [List.getD_eq_getElem?_getD,hi] using this
    show step_dedup [x] (ns.getD (i+1) 0)=[x]
    rw [this]
    exact ut (by simp)
  have hl:0 < ns.length:=List.length_pos_iff.mpr hne
  have:=key (ns.length - 1) (by omega)
  rw [show ns.length - 1+1=ns.length by omega] at this
  unfold cP
  rw [this]
  rfl
end L2
set_option maxHeartbeats 4000000
namespace L2
open PySem PySem.Spec
theorem jA (o:Obj) (f):(o.mapFields f).dict=o.dict:=by
 obtain ⟨c,d,dt,sl⟩:=o;cases dt <;> rfl
def Ao (h base:Heap) (e:Addr) (cls:Value) (dd:Option Addr) (fl:Value):Prop:=
 ∃ oe vs T oT ts,h.get? e=some oe∧(oe.cls=cls∧oe.dict=dd)∧oe.data = .fields vs∧vs[1]? = some (.ref T)∧base.get? T=none∧T≠e∧h.get? T=some oT∧oT.data = .fields ts∧ts[3]? = some fl
structure Aloft (base:Heap) (l:List Env) (e:Addr) (cls:Value) (dd:Option Addr) (fl:Value) (h:Heap):Prop where
 stay:base.StaysIn h
 new:base.get? e=none
 frames:h.FunFrames base l
 err:Ao h base e cls dd fl
theorem Aloft.pop {base h:Heap} {env:Env} {l:List Env} {e:Addr} {cls fl:Value} {dd:Option Addr} (x:Aloft base (env :: l) e cls dd fl h):Aloft base l e cls dd fl h:=⟨x.stay,x.new,x.frames.2.2,x.err⟩
theorem Aloft.first {base h:Heap} {l:List Env} {e:Addr} {cls fl:Value} {dd:Option Addr} (x:Aloft base l e cls dd fl h):∃ oe vs,h.get? e=some oe∧oe.cls=cls∧oe.data = .fields vs∧oe.dict=dd:=
 let ⟨oe,vs,_,_,_,he,hc,hd,_⟩:=x.err;⟨oe,vs,he,hc.1,hd,hc.2⟩
section
variable {M:Model} {A:Around} {E:Value→Shared→Prop} {s:Shared}
theorem lD {base:Heap} {env:Env} {outer:List Env} {L e:Addr} {oe:Obj} {vs:Array Value} {head:Value} {hadNext:Bool} {Q:Unit→Shared→Prop}
  (hfr:A.frames=some (env :: outer)) (hl:s.heap.FunFrames base (env :: outer)) (hf:env.frame=some L)
  (he:s.heap.get? e=some oe) (hkb:base.StaysIn s.heap) (hen:base.get? e=none) (hd:oe.data = .fields vs) (hsz:1 < vs.size)
  (h:∀ h',Aloft base (env :: outer) e oe.cls oe.dict (rawInt L) h'→s.heap.UpToSlots h'→Q () {s with heap:=h'}) :
  wpAny M A (do let a ← frameOf env;let pl ← entryPlaceOf L hadNext;let b ← EntryCells.newEntry head a .none (rawInt L) .none pl;setField (.ref e) 1 b) Q E s:=by
 have hene:e∉(env :: outer).filterMap (·.frame):=fun hm=>by
  obtain ⟨_,o,ho,hnf⟩:=hl.mem hm
  rw [he] at ho;injection ho with ho;subst ho;exact hnf vs hd
 refine wpAny_bind (wpAny_frameOf_fun hfr hl hf fun h₁ hs₁ => ?_)
 refine wpAny_bind (wpAny_entryPlaceOf fun pl hpl => ?_)
 unfold EntryCells.newEntry newFields
 refine wpAny_bind (wpAny_newObj_type ?_ (hpl.sizeOk5 _ _ _ _ _))
 have he₁:h₁.get? e=some oe:=(hs₁.2.1 e hene).trans he
 have kb₁:base.StaysIn h₁:=fun b o hbo=>(hs₁.2.1 b fun hm=>by rw [(hl.mem hm).1] at hbo;cases hbo).trans (hkb b o hbo)
 have he₂:=Heap.get?_push_of_some (h:=h₁) {cls := .type "traceback",dict:=none,data := .fields ([head,.ref L,.none,rawInt L,.none]++(if pl.isEmpty then List.replicate 6 Value.none else pl)).toArray} he₁
 refine wpAny_setField he₂ hd hsz (h _ ?_ ?_)
 all_goals
  have hTe:h₁.objs.size≠e:=Nat.ne_of_gt (Heap.lt_size he₁)
  have hd₃:=Obj.data_mapFields hd (·.setIfInBounds 1 (Value.ref h₁.objs.size))
  have he₃:=Heap.get?_update_self (Obj.mapFields (·.setIfInBounds 1 (Value.ref h₁.objs.size))) he₂ (Obj.isFreed_of_fields hd₃)
  have hT₃:=(Heap.get?_update_other (h₁.push {cls := .type "traceback",dict:=none,data := .fields ([head,.ref L,.none,rawInt L,.none]++(if pl.isEmpty then List.replicate 6 Value.none else pl)).toArray})
   (Obj.mapFields (·.setIfInBounds 1 (Value.ref h₁.objs.size))) (Ne.symm hTe)).trans (Heap.get?_push_size h₁ rfl)
  have keep:∀ b o,b≠e→h₁.get? b=some o →
    ((h₁.push {cls := .type "traceback",dict:=none,data := .fields ([head,.ref L,.none,rawInt L,.none]++(if pl.isEmpty then List.replicate 6 Value.none else pl)).toArray}).update e (Obj.mapFields (·.setIfInBounds 1 (Value.ref h₁.objs.size)))).get? b=some o:=
   fun b o hbe hb=>by
    rw [Heap.get?_update_other _ _ (Ne.symm hbe)]
    exact Heap.get?_push_of_some _ hb
  have noRecord:∀ b o,s.heap.get? b=some o→(∀ vs,o.data ≠ .fields vs)→b≠e:=fun b o hb hnf q=>by
   rw [q,he] at hb;injection hb with hb;subst hb;exact hnf vs hd
 ·refine ⟨fun b o hbo=>keep b o (fun q=>by rw [q,hen] at hbo;cases hbo) (kb₁ b o hbo),hen,hl.of_keeps fun b o hb hnf => ?_,?_⟩
  ·obtain ⟨sl,hs⟩:=hs₁.2.2 b o hb
   exact ⟨_,keep b _ (noRecord b o hb hnf) hs,rfl⟩
  ·exact ⟨_,_,h₁.objs.size,_,_,he₃,⟨Obj.cls_mapFields _ _,jA _ _⟩,hd₃,by simp [hsz],kb₁.fresh,hTe,hT₃,rfl,by first | (simp;done) | (rcases hpl with rfl | ⟨_,_,_,_,_,_,_,rfl⟩ <;> simp)⟩
 ·intro b o hb hnf
  obtain ⟨sl,hs⟩:=hs₁.2.2 b o hb
  exact ⟨sl,keep b _ (noRecord b o hb hnf) hs⟩
theorem pR {base:Heap} {env:Env} {outer:List Env} {L e:Addr} {oe:Obj} {vs:Array Value} {Q:Unit→Shared→Prop}
  (hfr:A.frames=some (env :: outer)) (hl:s.heap.FunFrames base (env :: outer)) (hf:env.frame=some L)
  (he:s.heap.get? e=some oe) (hkb:base.StaysIn s.heap) (hen:base.get? e=none) (hd:oe.data = .fields vs) (h1:vs[1]? = some .none)
  (h:∀ h',Aloft base (env :: outer) e oe.cls oe.dict (rawInt L) h'→s.heap.UpToSlots h'→Q () {s with heap:=h'}):wpAny M A (noteFrame (.ref e) env) Q E s:=by
 unfold noteFrame
 simp only [hf]
 refine wpAny_bind (wpAny_field he hd h1 ?_)
 rw [if_neg (by decide)]
 exact lD hfr hl hf he hkb hen hd (Array.getElem?_eq_some_iff.mp h1).1 h
theorem lE {base:Heap} {env:Env} {outer:List Env} {L e:Addr} {cls:Value} {dd:Option Addr} {Q:Unit→Shared→Prop}
  (hfr:A.frames=some (env :: outer)) (hf:env.frame=some L) (x:Aloft base (env :: outer) e cls dd .none s.heap)
  (h:∀ h',Aloft base (env :: outer) e cls dd (rawInt L) h'→s.heap.UpToSlots h'→Q () {s with heap:=h'}):wpAny M A (noteFrame (.ref e) env) Q E s:=by
 obtain ⟨hkb,hen,hl,oe,vs,T,oT,ts,he,⟨hcls,hdd⟩,hd,h1,hnT,hTe,hT,hdT,h3⟩:=x
 subst hcls
 subst hdd
 unfold noteFrame
 simp only [hf]
 refine wpAny_bind (wpAny_field he hd h1 ?_)
 rw [if_pos (show (Value.ref T != Value.none)=true from by simp)]
 refine wpAny_bind (wpAny_field hT hdT h3 ?_)
 rw [if_neg (show ¬ ((Value.none == rawInt L)=true) from by simp [rawInt])]
 refine wpAny_bind (wpAny_setField hT hdT (Array.getElem?_eq_some_iff.mp h3).1 ?_)
 have other:∀ b,b≠T→(s.heap.update T (Obj.mapFields (·.setIfInBounds 3 Value.none))).get? b=s.heap.get? b:=fun b hb=>Heap.get?_update_other _ _ (Ne.symm hb)
 have noRecord:∀ b o,s.heap.get? b=some o→(∀ vs,o.data ≠ .fields vs)→b≠T:=fun b o hb hnf q=>by
  rw [q,hT] at hb;injection hb with hb;subst hb;exact hnf ts hdT
 exact lD hfr (hl.of_keeps fun b o hb hnf=>⟨o,(other b (noRecord b o hb hnf)).trans hb,rfl⟩) hf ((other e (Ne.symm hTe)).trans he)
  (fun b o hbo=>(other b fun q=>by rw [q,hnT] at hbo;cases hbo).trans (hkb b o hbo)) hen hd (Array.getElem?_eq_some_iff.mp h1).1
  fun h' x1 x4=>h h' x1 fun b o hb hnf=>x4 b o ((other b (noRecord b o hb hnf)).trans hb) hnf
theorem uv {base:Heap} {l:List Env} {e:Addr} {cls fl:Value} {dd:Option Addr} {Q:Unit→Shared→Prop} (x:Aloft base l e cls dd fl s.heap)
  (h:∀ h',Aloft base l e cls dd .none h'→s.heap.UpToSlots h'→Q () {s with heap:=h'}):wpAny M A (setFlight (.ref e) none) Q E s:=by
 obtain ⟨hkb,hen,hl,oe,vs,T,oT,ts,he,hcls,hd,h1,hnT,hTe,hT,hdT,h3⟩:=x
 have hsz3:3 < ts.size:=(Array.getElem?_eq_some_iff.mp h3).1
 have other:∀ b,b≠T→(s.heap.update T (Obj.mapFields (·.setIfInBounds 3 ((none:Option Addr).elim Value.none fun f=>rawInt f)))).get? b=s.heap.get? b:=
  fun b hb=>Heap.get?_update_other _ _ (Ne.symm hb)
 have noRecord:∀ b o,s.heap.get? b=some o→(∀ vs,o.data ≠ .fields vs)→b≠T:=fun b o hb hnf q=>by
  rw [q,hT] at hb;injection hb with hb;subst hb;exact hnf ts hdT
 unfold setFlight
 refine wpAny_bind (wpAny_field he hd h1 ?_)
 rw [if_pos (show (Value.ref T != Value.none)=true from by simp)]
 refine wpAny_setField hT hdT hsz3 (h _ ⟨fun b o hbo=>(other b fun q=>by rw [q,hnT] at hbo;cases hbo).trans (hkb b o hbo),hen,
  hl.of_keeps fun b o hb hnf=>⟨o,(other b (noRecord b o hb hnf)).trans hb,rfl⟩,?_⟩ fun b o hb hnf=>⟨o.slots,(other b (noRecord b o hb hnf)).trans hb⟩)
 exact ⟨oe,vs,T,_,_,(other e (Ne.symm hTe)).trans he,hcls,hd,h1,hnT,hTe,Heap.get?_update_self _ hT (Obj.isFreed_of_fields (Obj.data_mapFields hdT _)),Obj.data_mapFields hdT _,by simp [hsz3]⟩
theorem lF {base:Heap} {env:Env} {outer:List Env} {L e:Addr} {oe:Obj} {vs:Array Value} {Q:Unit→Shared→Prop}
  (hfr:A.frames=some (env :: outer)) (hl:s.heap.FunFrames base (env :: outer)) (hf:env.frame=some L)
  (he:s.heap.get? e=some oe) (hkb:base.StaysIn s.heap) (hen:base.get? e=none) (hd:oe.data = .fields vs) (h1:vs[1]? = some .none)
  (h:∀ h',Aloft base outer e oe.cls oe.dict .none h'→s.heap.UpToSlots h'→Q () {s with heap:=h'}):wpAny M A (leaving env (.ref e)) Q E s:=by
 unfold leaving
 exact wpAny_bind (pR hfr hl hf he hkb hen hd h1 fun h1 x1 u1=>uv (s:={s with heap:=h1}) x1 fun h2 x2 u2=>h h2 x2.pop (u1.trans u2))
theorem ni {base:Heap} {env:Env} {outer:List Env} {L e:Addr} {cls:Value} {dd:Option Addr} {Q:Unit→Shared→Prop}
  (hfr:A.frames=some (env :: outer)) (hf:env.frame=some L) (x:Aloft base (env :: outer) e cls dd .none s.heap)
  (h:∀ h',Aloft base outer e cls dd .none h'→s.heap.UpToSlots h'→Q () {s with heap:=h'}):wpAny M A (leaving env (.ref e)) Q E s:=by
 unfold leaving
 exact wpAny_bind (lE hfr hf x fun h1 x1 u1=>uv (s:={s with heap:=h1}) x1 fun h2 x2 u2=>h h2 x2.pop (u1.trans u2))
end
end L2
set_option maxHeartbeats 4000000
namespace L2
open PySem PySem.Spec PyProof.Rows
section
variable {P:Program} {w:World}
theorem ObjOk.there {H:Hp} {h:Heap} {a:Addr} {o:HO} (x:ObjOk P w H h a o):∃ ob,h.get? a=some ob:=by
 cases o with
 | lst xs=>obtain ⟨_,_,_,_,e⟩:=x;exact ⟨_,e⟩
 | tup xs=>obtain ⟨_,_,_,ob,e,_⟩:=x;exact ⟨_,e⟩
 | dK kvs=>obtain ⟨_,_,_,_,ob,_,_,e,_⟩:=x;exact ⟨_,e⟩
 | dT kvs=>obtain ⟨_,_,_,_,ob,_,_,e,_⟩:=x;exact ⟨_,e⟩
 | set S n=>obtain ⟨ob,_,_,_,e,_⟩:=x;exact ⟨_,e⟩
 | ins C dx fs=>obtain ⟨_,_,_,e,_⟩:=x;exact ⟨_,e⟩
 | own y=>exact x
 | xd fs=>obtain ⟨_,⟨_,_,_,e,_⟩,_⟩:=x;exact ⟨_,e⟩
 | rng lo hi=>obtain ⟨_,_,_,e⟩:=x;exact ⟨_,e⟩
 | frz ob u=>obtain ⟨e,_⟩:=x;exact ⟨_,e⟩
 | tbl ps=>exact ⟨_,(show h.get? a=some _ from x)⟩
 | met f y=>exact ⟨_,(show h.get? a=some _ from x)⟩
 | ext φ=>obtain ⟨_,e,_⟩:=x;exact e
structure Fly (P:Program) (w:World) (outer:List Env) (H:Hp) (s:Shared) (ea:Addr) (cls:Value) (dd:Option Addr) (B:Heap) (H':Hp) (s':Shared):Prop where
 os:s'.os=s.os
 bare:AllBare s'.gens
 fl:Aloft B outer ea cls dd .none s'.heap
 hok:HOk P w H' B
 new:s.heap.get? ea=none
 bk:∀ b o,s.heap.get? b=some o→H b=none→b∉frs outer→B.get? b=some o
 th:∀ b o,s.heap.get? b=some o→b∉frs outer→∃ o',B.get? b=some o'
 un:Un (frs outer) [] H H' s.heap s'.heap
theorem Fly.free {outer:List Env} {H:Hp} {s:Shared} {ea:Addr} {cls:Value} {dd:Option Addr} {B:Heap} {H':Hp} {s':Shared} (y:Fly P w outer H s ea cls dd B H' s'):H' ea=none:=by
 cases q:H' ea with
 | none=>rfl
 | some o=>
  obtain ⟨ob,e⟩:=(y.hok ea o q).there
  rw [y.fl.new] at e
  cases e
def CXe (P:Program) (w:World):CXT:=fun outer H s E e s'=>∃ (ea C:Addr) (dd:Option Addr) (B:Heap) (H':Hp),e = .ref ea∧Fly P w outer H s ea (.ref C) dd B H' s'∧E (.ref C) dd H'
section
variable {K:PySem.W.Frag} {mg:Str→Option Value} {base:Heap} {N:List Str} {qual:Str} {scope:Scope} {f:Addr} {cd:Value} {A:Around} {outer:List Env} {s₀:Shared} {H₀:Hp} {E:XK}
def del (H:Hp) (e:Addr):Hp:=fun b=>if b=e then none else H b
theorem lG {H:Hp} {e b:Addr} (h:b≠e):del H e b=H b:=by unfold del;rw [if_neg h]
theorem uw {H:Hp} {e b:Addr} (h:H b=none):del H e b=none:=by unfold del;split <;> first | rfl | exact h
theorem yr {H:Hp} {e b:Addr} {o:HO} (h:del H e b=some o):b≠e∧H b=some o:=by
 unfold del at h
 split at h
 ·cases h
 ·rename_i n;exact ⟨n,h⟩
theorem ux {H:Hp} {e:Addr} (h:H e=none):del H e=H:=by
 funext b
 unfold del
 split
 ·rename_i z;rw [z,h]
 ·rfl
theorem rC {pins:List (Addr×Obj)} {σ:St} {H:Hp} {s:Shared} {h':Heap} {e C:Addr} {dd:Option Addr} {oe:Obj} {vs:Array Value} (I:Inv (bv (CXe P w) P w K mg base N qual scope f cd A outer s₀ H₀ E) pins σ H s)
  (k:∀ b o,b≠e→s.heap.get? b=some o→h'.get? b=some o) (he:h'.get? e=some oe) (hc:oe.cls = .ref C) (hdd:oe.dict=dd) (hd:oe.data = .fields vs) (h1:vs[1]? = some .none)
  (hnew:s₀.heap.get? e=none) (hs:∀ o,s.heap.get? e=some o→∃ vs,o.data = .fields vs) (hH:s.heap.get? e=none∨∃ φ,H e=some (.ext φ)) (hE:E (.ref C) dd (del H e)) :
  (bv (CXe P w) P w K mg base N qual scope f cd A outer s₀ H₀ E).xe (.ref e) {s with heap:=h'}:=by
 subst hdd
 have hfr:frs (envOfC qual scope s₀.heap.objs.size f cd :: outer)=s₀.heap.objs.size :: frs outer:=rfl
 have hb:Un (frs outer) [] H₀ H s₀.heap s.heap:=I.base
 have hHe:H e=none∨∃ φ,H e=some (.ext φ):=by
  rcases hH with q | q
  ·refine .inl ?_
   cases r:H e with
   | none=>rfl
   | some o=>
    obtain ⟨ob,z⟩:=(I.hok e o r).there
    rw [q] at z
    cases z
  ·exact .inr q
 have notT:∀ b o,H b=some o→(∀ φ,o ≠ .ext φ)→b≠e:=fun b o q n z=>by
  subst z
  rcases hHe with r | ⟨φ,r⟩ <;> rw [q] at r
  ·cases r
  ·cases r;exact n φ rfl
 have ne0:∀ b o,s₀.heap.get? b=some o→b≠e:=fun b o q z=>by rw [z,hnew] at q;cases q
 have nf:e∉frs (envOfC qual scope s₀.heap.objs.size f cd :: outer):=fun z=>by
  obtain ⟨_,o,q,n⟩:=I.stack.mem z
  obtain ⟨vs,r⟩:=hs o q
  exact n vs r
 have keepB:∀ b o,s.heap.get? b=some o→b≠e→b∉frs (envOfC qual scope s₀.heap.objs.size f cd :: outer)→(PySem.W.hideAll s.heap (e :: frs (envOfC qual scope s₀.heap.objs.size f cd :: outer))).get? b=some o:=fun b o q ne hb=>
  PySem.W.hideAll_get _ q fun z=>(List.mem_cons.mp z).elim ne hb
 have notF:∀ b o,s₀.heap.get? b=some o→b∉frs outer→b∉frs (envOfC qual scope s₀.heap.objs.size f cd :: outer):=fun b o q hb z=>by
  rw [hfr] at z
  rcases List.mem_cons.mp z with z | z
  ·exact absurd (Heap.lt_size q) (by rw [z];exact Nat.lt_irrefl _)
  ·exact hb z
 have stB:(PySem.W.hideAll s.heap (e :: frs (envOfC qual scope s₀.heap.objs.size f cd :: outer))).StaysIn h':=fun b o q=>by
  refine k b o (fun z => ?_) (PySem.W.of_hideAll _ q)
  rw [z,PySem.W.hideAll_none _ (List.mem_cons_self)] at q
  cases q
 have ff:s.heap.FunFrames (PySem.W.hideAll s.heap (e :: frs (envOfC qual scope s₀.heap.objs.size f cd :: outer))) (envOfC qual scope s₀.heap.objs.size f cd :: outer):=
  PySem.W.funFrames_hide I.stack fun env he b hb=>List.mem_cons_of_mem _ (List.mem_filterMap.mpr ⟨env,he,hb⟩)
 have ff':h'.FunFrames (PySem.W.hideAll s.heap (e :: frs (envOfC qual scope s₀.heap.objs.size f cd :: outer))) (envOfC qual scope s₀.heap.objs.size f cd :: outer):=
  ff.of_keeps fun b o q n=>⟨o,k b o (fun z=>by subst z;obtain ⟨vs,r⟩:=hs o q;exact n vs r) q,rfl⟩
 refine lF (s:={s with heap:=h'}) I.ok.frames ff' rfl he stB (PySem.W.hideAll_none _ (List.mem_cons_self)) hd h1 fun h'' fl ups => ?_
 have hst:∀ b o,b∈frs outer→s.heap.get? b=some o→∃ sl,h''.get? b=some {o with slots:=sl}:=fun b o hb q=>by
  have hb':b∈frs (envOfC qual scope s₀.heap.objs.size f cd :: outer):=by rw [hfr];exact List.mem_cons_of_mem _ hb
  obtain ⟨_,o',q',nf'⟩:=I.stack.mem hb'
  rw [q] at q'
  cases q'
  exact ups b o (k b o (fun z=>nf (z ▸ hb')) q) nf'
 rw [hc] at fl
 refine ⟨e,C,oe.dict,_,del H e,rfl,⟨I.os,I.bare,fl,fun a o q => ?_,hnew,fun b o q n hb' => ?_,fun b o q hb' => ?_,⟨fun b o q n hb' _ => ?_,fun b o q n hb' _ => ?_,fun b o q n hx'=>uw (hb.free b o q n hx'),fun b o q _ => ?_,
  fun b xs q => ?_,fun b o u q => ?_,fun b ps q => ?_⟩⟩,hE⟩
 ·obtain ⟨na,q⟩:=yr q
  refine (I.hok a o q).stay (fun b u hb' r=>keepB b u r (fun z => ?_) fun z => ?_) (fun b r => ?_) fun b xs r => ?_
  ·rcases hb' with hb' | hb'
   ·exact na (hb' ▸ z)
   ·exact notT b _ hb' (fun φ z=>by cases z) z
  ·have hn:=I.stkFree b z
   rcases hb' with rfl | hb'
   ·rw [q] at hn;cases hn
   ·rw [hb'] at hn;cases hn
  ·rw [lG (notT b _ r fun φ z=>by cases z)];exact r
  ·rw [lG (notT b _ r fun φ z=>by cases z)];exact r
 ·exact keepB b o (hb.keep b o q n hb' (by simp)) (ne0 b o q) (notF b o q hb')
 ·obtain ⟨o',r⟩:=hb.there b o q (by simp)
  exact ⟨o',keepB b o' r (ne0 b o q) (notF b o q hb')⟩
 ·exact fl.stay b o (keepB b o (hb.keep b o q n hb' (by simp)) (ne0 b o q) (notF b o q hb'))
 ·obtain ⟨sl,r⟩:=hb.slot b o q n hb' (by simp)
  obtain ⟨sl',r'⟩:=hst b _ hb' r
  exact ⟨sl',r'⟩
 ·obtain ⟨o',r⟩:=hb.there b o q (by simp)
  by_cases hb':b∈frs outer
  ·obtain ⟨sl,r'⟩:=hst b o' hb' r
   exact ⟨_,r'⟩
  ·exact ⟨o',fl.stay b o' (keepB b o' r (ne0 b o q) (notF b o q hb'))⟩
 ·have r:=hb.tups b xs q
  rw [lG (notT b _ r fun φ z=>by cases z)];exact r
 ·have r:=hb.frzs b o u q
  rw [lG (notT b _ r fun φ z=>by cases z)];exact r
 ·obtain ⟨m,r⟩:=hb.tbls b ps q
  exact ⟨m,by rw [lG (notT b _ r fun φ z=>by cases z)];exact r⟩
theorem gz {pins:List (Addr×Obj)} {σ:St} {H:Hp} {s:Shared} {h':Heap} {e C:Addr} {vs:List Value} (I:Inv (bv (CXe P w) P w K mg base N qual scope f cd A outer s₀ H₀ E) pins σ H s) (hx:Heap.MadeExcOf s.heap h' e (.ref C) vs) (hE:E (.ref C) none H) :
  (bv (CXe P w) P w K mg base N qual scope f cd A outer s₀ H₀ E).xe (.ref e) {s with heap:=h'}:=by
 have hb:Un (frs outer) [] H₀ H s₀.heap s.heap:=I.base
 obtain ⟨t,he,htn,ht⟩:=hx.there
 have hn:=hx.new
 have hf:H e=none:=by
  cases r:H e with
  | none=>rfl
  | some o=>
   obtain ⟨ob,z⟩:=(I.hok e o r).there
   rw [hn] at z
   cases z
 refine rC I (fun b o _ q=>hx.keeps b o q) he rfl rfl rfl rfl ?_ (fun o q=>by rw [hn] at q;cases q) (.inl hn) (by rw [ux hf];exact hE)
 cases q:s₀.heap.get? e with
 | none=>rfl
 | some o=>
  obtain ⟨o',r⟩:=hb.there e o q (by simp)
  rw [hn] at r
  cases r
theorem nj {E':XK} (hE:∀ c d H',E' c d H'→E c d H'):cA (CXe P w) (bv (CXe P w) P w K mg base N qual scope f cd A outer s₀ H₀ E) E':=by
 rintro pins σ H s e s' I ⟨ea,C,dd,B,H',rfl,y,hq⟩
 have hfr:frs (envOfC qual scope s₀.heap.objs.size f cd :: outer)=s₀.heap.objs.size :: frs outer:=rfl
 have hb:Un (frs outer) [] H₀ H s₀.heap s.heap:=I.base
 have y:Fly P w (envOfC qual scope s₀.heap.objs.size f cd :: outer) H s ea (.ref C) dd B H' s':=y
 have notF:∀ b o,s₀.heap.get? b=some o→b∉frs outer→b∉frs (envOfC qual scope s₀.heap.objs.size f cd :: outer):=fun b o q hb z=>by
  rw [hfr] at z
  rcases List.mem_cons.mp z with z | z
  ·exact absurd (Heap.lt_size q) (by rw [z];exact Nat.lt_irrefl _)
  ·exact hb z
 have inF:∀ b,b∈frs outer→b∈frs (envOfC qual scope s₀.heap.objs.size f cd :: outer):=fun b hb=>by rw [hfr];exact List.mem_cons_of_mem _ hb
 refine ni I.ok.frames rfl y.fl fun h'' fl ups => ?_
 have hst:∀ b o,b∈frs outer→s.heap.get? b=some o→H b=none→∃ sl,h''.get? b=some {o with slots:=sl}:=fun b o hb q n=>by
  obtain ⟨sl,r⟩:=y.un.slot b o q n (inF b hb) (by simp)
  obtain ⟨_,o',q',nf⟩:=y.fl.frames.mem (inF b hb)
  rw [r] at q'
  cases q'
  obtain ⟨sl',r'⟩:=ups b _ r nf
  exact ⟨sl',r'⟩
 refine ⟨ea,C,dd,B,H',rfl,⟨y.os.trans I.os,y.bare,fl,y.hok,?_,fun b o q n hb' => ?_,fun b o q hb' => ?_,⟨fun b o q n hb' _ => ?_,fun b o q n hb' _ => ?_,fun b o q n hx' => ?_,fun b o q _ => ?_,
  fun b xs q=>y.un.tups b xs (hb.tups b xs q),fun b o u q=>y.un.frzs b o u (hb.frzs b o u q),fun b ps q => ?_⟩⟩,hE _ _ _ hq⟩
 ·cases q:s₀.heap.get? ea with
  | none=>rfl
  | some o=>
   obtain ⟨o',r⟩:=hb.there ea o q (by simp)
   have hne:=y.new
   rw [r] at hne
   cases hne
 ·exact y.bk b o (hb.keep b o q n hb' (by simp)) (hb.free b o q n (by simp)) (notF b o q hb')
 ·obtain ⟨o',r⟩:=hb.there b o q (by simp)
  exact y.th b o' r (notF b o q hb')
 ·exact fl.stay b o (y.bk b o (hb.keep b o q n hb' (by simp)) (hb.free b o q n (by simp)) (notF b o q hb'))
 ·obtain ⟨sl,r⟩:=hb.slot b o q n hb' (by simp)
  obtain ⟨sl',r'⟩:=hst b _ hb' r (hb.free b o q n (by simp))
  exact ⟨sl',r'⟩
 ·obtain ⟨o',r⟩:=hb.there b o q (by simp)
  exact y.un.free b o' r (hb.free b o q n hx') (by simp)
 ·obtain ⟨o',r⟩:=hb.there b o q (by simp)
  by_cases hb':b∈frs outer
  ·obtain ⟨sl,r'⟩:=hst b o' hb' r (I.stkFree b (inF b hb'))
   exact ⟨_,r'⟩
  ·obtain ⟨o2,r2⟩:=y.th b o' r (notF b o q hb')
   exact ⟨o2,fl.stay b o2 r2⟩
 ·obtain ⟨m1,e1⟩:=hb.tbls b ps q
  obtain ⟨m2,e2⟩:=y.un.tbls b _ e1
  exact ⟨m1++m2,by rw [e2,Array.append_assoc]⟩
end
end
end L2
set_option maxHeartbeats 4000000
namespace L2
open PySem PySem.Spec PyProof.Rows
section
variable {X:Cx}
abbrev TJ:=St→Hp→(Hp→Prop)→Prop
def PJ (X:Cx) (es:List Expr) (m:Nat) (t:TJ):Prop:=∀ (acc:Str) (pins:List (Addr×Obj)) (s:Shared) (σ:St) (H:Hp) (Q:VK),acc.length+m≤100000→Inv X pins σ H s→(t σ H fun H'=>∀ y:Str,Q (.str y) H') →
 wpAny (model X.prog X.w) X.A (joinParts acc (evalEach es X.env)) (EP X pins σ Q) X.xe s
theorem ww {n:Nat} (h:n≤100000):n≤sizeLine:=by rw [sizeLine_eq];omega
theorem lH:PJ X [] 0 (fun _ H k=>k H):=fun acc pins s σ H Q hl I h=>joinParts_nil ⟨.str acc,H,I.tok _,⟨_,rfl⟩,h acc⟩ (ww hl)
theorem vA {x:Str} {es:List Expr} {j pos m} {t:TJ} (hr:PJ X es m t) (hx:x.length≤200:=by decide):PJ X (.Constant (.str x) j pos :: es) (m+200) t:=fun acc pins s σ H Q hl I h=>by
 refine joinParts_cons (Calls.Constant_str ⟨?_,?_⟩)
 ·rw [strLen_append];exact ww (by omega)
 ·exact hr (acc++x) pins _ σ H Q (by rw [strLen_append];omega) (I.tok _) h
theorem yt {e:Expr} {es:List Expr} {pos m} {te:TE} {t:TJ} (he:PE X e te) (hr:PJ X es m t):PJ X (.FormattedValue e (-1) none pos :: es) (m+1921) (fun σ H k=>te σ H fun v H1=>∃ i,v = .int i∧i.natAbs.log2 < 1920∧t σ H1 k):=fun acc pins s σ H Q hl I h=>by
 refine joinParts_cons (FormattedValue_plain (thn (he pins s σ H _ I h) fun v s1 ⟨x,H1,I1,r1,i,e,hi,q⟩ => ?_))
 subst e
 obtain ⟨tk,rfl⟩:=r1
 have hlen:=int_text_len_1921 hi
 refine wpAny_formatField_int hi ⟨?_,?_⟩
 ·rw [strLen_append];exact ww (by omega)
 ·exact hr _ pins _ σ H1 Q (by rw [strLen_append];omega) (I1.tok _) q
def Ap (t:TJ):TE:=fun σ H Q=>t σ H fun H'=>∀ y:Str,Q (.str y) H'
theorem iY {v1 v2:Expr} {rest:List Expr} {pos:Pos} {m:Nat} {t:TJ} (h:PJ X (v1 :: v2 :: rest) m t) (hm:m≤100000:=by decide):PE X (.JoinedStr (v1 :: v2 :: rest) pos) (Ap t):=fun pins s σ H Q I hq=>
 JoinedStr_many (h Str.empty pins s σ H Q (by show 0+m≤100000;omega) I hq)
theorem wx {K:PySem.W.Frag} {h:Heap} {C:Addr} {bmB:List Value} {newId:String} (KX:K.In h) (q:PySem.W.excIn K C bmB newId=true) :
  ∃ bm N nm qn bs hdct sn sub ab col dd k0 k1 k2 k3 k5 mN,h.get? C=some (excClassObj nm qn C N bs bm hdct sn sub ab col dd k0 k1 k2 k3 k5 newId)∧h.Ns N mN∧mN "__init__" = none∧OwnTail h bmB bm:=by
 unfold PySem.W.excIn at q
 split at q
 ·rename_i dd cdt slots hlk
  split at q
  ·rename_i C2 tl k0 k1 k2 k3 nn k5 hmro hsl
   simp only [Bool.and_eq_true,beq_iff_eq,Bool.not_eq_true'] at q
   obtain ⟨⟨⟨⟨⟨e1,e2⟩,e3⟩,e4⟩,e5⟩,e6⟩:=q
   subst e1
   subst e2
   obtain ⟨nm,bs,mro,nsa,qn,hdc,sn,sub,ab,col,del⟩:=cdt
   dsimp only at hmro e3 e5 e6
   subst hmro
   subst e3
   obtain ⟨lst⟩:=slots
   dsimp only at hsl
   subst hsl
   exact ⟨tl,nsa,nm,qn,bs,hdc,sn,sub,ab,col,dd,k0,k1,k2,k3,k5,_,KX _ _ hlk,.of_isNs (PySem.W.isNs_of_in KX e5),PySem.W.nsMap_none_of_in KX e5 e6,PySem.W.tail_of_in KX e4⟩
  ·cases q
 ·cases q
def yu (C:Addr) (E:XK) (ta:TA):TS:=fun _ σ H=>ta σ H fun vs H1=>vs.length≤100∧E (.ref C) none H1
theorem gA {E:XK} {x:Str} {C:Addr} {e0:Expr} {rest:List Expr} {ta:TA} {bmB:List Value} {B newId initId:String} {np cpos pos:Pos}
  (hX:∀ (pins:List (Addr×Obj)) (σ:St) (H:Hp) (s:Shared) (h':Heap) (e:Addr) (vs:List Value),Inv X pins σ H s→Heap.MadeExcOf s.heap h' e (.ref C) vs→E (.ref C) none H→X.xe (.ref e) {s with heap:=h'})
  (FB:ExcBaseFacts B newId initId bmB) (q:PySem.W.excIn X.K C bmB newId=true) (hc:X.calm=true) (hg:Gl X x) (hm:X.mg x=some (.ref C)) (ha:PA X (e0 :: rest) ta)
  (he:starEach (e0 :: rest) X.env=(false,eval e0 X.env) :: starEach rest X.env:=by rfl) (hpl:(backTo cpos (starEach rest X.env)).any (·.1)=false:=by rfl) (hd:(x == ("__debug__" : Str))=false:=by decide) :
  PS X (.Raise (some (.Call (.Name x np) (e0 :: rest) [] cpos)) none pos) (yu C E ta):=by
 intro pins s σ H D I h
 obtain ⟨bm,N,nm,qn,bs,hdct,sn,sub,ab,col,dd,k0,k1,k2,k3,k5,mN,hC,hN,hni,T⟩:=wx I.mod.kin q
 have hb:=T.hasType FB.hasBase
 refine wpAny_Raise_call_subT (C:=C) (nm:=nm) (q:=qn) (N:=N) (bs:=bs) (bm:=bm) (hdct:=hdct) (sn:=sn) (sub:=sub) (ab:=ab) (col:=col) (dd:=dd) (k0:=k0) (k1:=k1) (k2:=k2) (k3:=k3) (k5:=k5) (mN:=mN)
  FB hb (I.ok.hd hc) (by rw [he];show (false || (backTo cpos (starEach rest X.env)).any (·.1))=false;rw [hpl];rfl) hni (fQ I hg hm ⟨rfl,?_⟩ hd)
 have hp:=ha cpos pins s σ H _ I h
 rw [he] at hp ⊢
 refine Calls.evalArgs_plain (wpAny_mono hp (fun us s1 ⟨vs,H1,I1,r1,hl,hq⟩=>⟨rfl,?_,I1.bk _ _ hC,hN.keeps I1.bk,T.keeps I1.bk,fun h' e hx=>hX pins σ H1 s1 h' e us I1 hx hq⟩) fun _ _ z=>z)
 rw [← r1.length]
 exact small (by omega)
end
theorem Fun.okE {P:Program} {w:World} {K:PySem.W.Frag} {mg:Str→Option Value} {base:Heap} {x qual:Str} {st:Stmt} {f:Addr} {fd:FuncData} {N ps:List Str} {k:Nat} {sp:Sp} (F:Fun K x qual st f fd) (S:FnScope N ps (ai st)) (len:∀ vs H Q E,sp vs H Q E→vs.length=ps.length)
  (hbody:∀ (cdv:Value) (A:Around) (outer:List Env) (s:Shared) (H:Hp) (vs:List V) (Q:VK) (E:XK),Room k (A.deeper (envOfC qual (ai st) s.heap.objs.size f cdv))→sp vs H Q E →
   ∃ t,PSs (bv (CXe P w) P w K mg base N qual (ai st) f cdv A outer s H E) (bR st) t∧t {nx:=fun _ H'=>Q .non H',rt:=Q} (start N vs) H):FnOk P w K mg base (CXe P w) (k+1) f fd ps sp:=by
 obtain ⟨oc,od,kV,doc,pm,an,cdv,ct,osl,rfl,lk,hcd⟩:=F.ex
 exact yg lk hcd S len fun A outer s H vs Q E hr hsp=>hbody cdv A outer s H vs Q E hr hsp
end L2
set_option maxHeartbeats 4000000
namespace L2
open PySem PySem.Spec PyProof.Rows
theorem Fly.move {P:Program} {w:World} {outer:List Env} {H:Hp} {s:Shared} {ea:Addr} {cls:Value} {dd:Option Addr} {B:Heap} {H':Hp} {s':Shared} {h5:Heap} (y:Fly P w outer H s ea cls dd B H' s') (fl:Aloft B outer ea cls dd .none h5) (ups:s'.heap.UpToSlots h5)
  (stf:∀ b∈frs outer,H b=none) (fns:∀ b∈frs outer,∃ o,s.heap.get? b=some o):Fly P w outer H s ea cls dd B H' {s' with heap:=h5}:=by
 have hst:∀ b o,b∈frs outer→s.heap.get? b=some o→∃ sl,h5.get? b=some {o with slots:=sl}:=fun b o hb q=>by
  obtain ⟨sl,r⟩:=y.un.slot b o q (stf b hb) hb (by simp)
  obtain ⟨_,o',q',nf⟩:=y.fl.frames.mem hb
  rw [r] at q'
  cases q'
  obtain ⟨sl',r'⟩:=ups b _ r nf
  exact ⟨sl',r'⟩
 refine ⟨y.os,y.bare,fl,y.hok,y.new,y.bk,y.th,⟨fun b o q n hb _=>fl.stay b o (y.bk b o q n hb),fun b o q n hb _=>hst b o hb q,y.un.free,fun b o q _ => ?_,y.un.tups,y.un.frzs,y.un.tbls⟩⟩
 by_cases hb:b∈frs outer
 ·obtain ⟨sl,r⟩:=hst b o hb q
  exact ⟨_,r⟩
 ·obtain ⟨o',r⟩:=y.th b o q hb
  exact ⟨o',fl.stay b o' r⟩
def tV (ea C:Addr) (dd:Option Addr:=none):HO := .ext fun h=>∃ o vs,h.get? ea=some o∧o.cls = .ref C∧o.data = .fields vs∧o.dict=dd
section
variable {X:Cx} {pins:List (Addr×Obj)} {σ:St} {H:Hp} {s:Shared}
theorem Inv.caught {ea C:Addr} {dd:Option Addr} {B:Heap} {H':Hp} {s':Shared} (I:Inv X pins σ H s) (y:Fly X.prog X.w X.stack H s ea (.ref C) dd B H' s'):Inv X pins σ (upd H' ea (tV ea C dd)) s':=by
 have hn:=y.free
 have ne:∀ b o,s.heap.get? b=some o→b≠ea:=fun b o q z=>by
  have:=y.new
  rw [← z,q] at this
  cases this
 have nt:∀ b o,H' b=some o→b≠ea:=fun b o q z=>by rw [z,hn] at q;cases q
 have hok:HOk X.prog X.w H' s'.heap:=y.hok.kept y.fl.stay
 refine I.call' (ch:=[]) y.os ⟨y.un.keep,y.un.slot,fun b o q n hx=>by rw [aU (ne b o q)];exact y.un.free b o q n hx,y.un.there,fun b xs q => ?_,fun b o u q => ?_,fun b ps q => ?_⟩ (fun a o q => ?_) y.bare fun b hb=>absurd hb (by simp)
 ·have r:=y.un.tups b xs q
  rw [aU (nt b _ r)];exact r
 ·have r:=y.un.frzs b o u q
  rw [aU (nt b _ r)];exact r
 ·obtain ⟨more,r⟩:=y.un.tbls b ps q
  exact ⟨more,by rw [aU (nt b _ r)];exact r⟩
 ·by_cases ha:a=ea
  ·subst ha
   rw [bz] at q
   cases q
   obtain ⟨oe,vs,h1,h2,h3,h4⟩:=y.fl.first
   exact ⟨⟨oe,vs,h1,h2,h3,h4⟩,⟨oe,h1⟩,fun h1 h2 ⟨o,vs,e1,e2,e3⟩ k=>⟨o,vs,k o e1,e2,e3⟩⟩
  ·rw [aU ha] at q
   exact (hok a o q).stay (fun b u _ r=>r) (fun b r=>by rw [aU (nt b _ r)];exact r) fun b xs r=>by rw [aU (nt b _ r)];exact r
abbrev Cx.marked (X:Cx) (e:Value):Cx:={X with A:=X.A.mark (some e),calm:=false,xe:=fun _ _=>False}
theorem Inv.mark (I:Inv X pins σ H s) (e:Value):Inv (X.marked e) pins σ H s:=
 ⟨⟨I.ok.mod,I.ok.kind,I.ok.glob,I.ok.blt,I.ok.above,I.ok.inj,I.ok.has,I.ok.cab,(fun z=>by cases z),I.ok.frames,I.ok.stk,I.ok.exf,I.ok.bs,I.ok.bsz,I.ok.noex,I.ok.exfs,I.ok.funs,I.ok.frf⟩,I.os,I.bare,I.base,I.loc,I.cell,I.free,I.freeC,I.pin,I.hok,I.len⟩
theorem Inv.unmark {e:Value} (ok:X.Ok) (I:Inv (X.marked e) pins σ H s):Inv X pins σ H s:=
 ⟨ok,I.os,I.bare,I.base,I.loc,I.cell,I.free,I.freeC,I.pin,I.hok,I.len⟩
theorem Inv.unbound {i:Nat} {n:Str} {h':Heap} {m:Str→Option Value} {u:Option Value} (I:Inv X pins σ H s) (hN:X.N.Nodup) (hi:X.N[i]? = some n) (hn:s.heap.Ns X.env.locals m)
  (hm:∀ (j:Nat) (y:Str) (v:V),X.N[j]? = some y→σ[j]? = some (some v)→Vis X.env.scope y→∃ u,RelV v u∧Ae X.env s.heap m y u)
  (hn':h'.Ns X.env.locals (fun x=>if x=n then u else m x)) (hs:Heap.SameBut X.env.locals s.heap h'):Inv X pins (σ.set i none) H {s with heap:=h'}:=by
 have neL:∀ b o,X.s₀.heap.get? b=some o→b≠X.env.locals:=fun b o e=>Nat.ne_of_lt (Nat.lt_of_lt_of_le (Heap.lt_size e) I.ok.above)
 refine ⟨I.ok,I.os,I.bare,⟨fun b o e n hb hx => ?_,fun b o e n hb hx => ?_,I.base.free,fun b o e hx => ?_,I.base.tups,I.base.frzs,I.base.tbls⟩,⟨_,hn',fun j y v e1 e2 e3 => ?_⟩,fun y c e => ?_,I.free,I.freeC,fun p hp => ?_,fun a o q => ?_,by simpa using I.len⟩
 ·exact (hs.2 b (neL b o e)).trans (I.base.keep b o e n hb hx)
 ·obtain ⟨sl,r⟩:=I.base.slot b o e n hb hx
  exact ⟨sl,(hs.2 b (neL b o e)).trans r⟩
 ·obtain ⟨o',r⟩:=I.base.there b o e hx
  exact ⟨o',(hs.2 b (neL b o e)).trans r⟩
 ·by_cases hj:j=i
  ·subst hj
   by_cases hl:j < σ.length
   ·rw [List.getElem?_set_self hl] at e2;cases e2
   ·rw [List.getElem?_eq_none (by simpa using hl)] at e2;cases e2
  ·rw [List.getElem?_set_ne (Ne.symm hj)] at e2
   obtain ⟨u',r',q⟩:=hm j y v e1 e2 e3
   refine ⟨u',r',?_⟩
   rcases q with ⟨k,e⟩ | ⟨k,c,e,z⟩
   ·have hne:y≠n:=fun e=>hj (j9 hN e1 (e ▸ hi))
    exact .inl ⟨k,by simp [hne,e]⟩
   ·exact .inr ⟨k,c,e,z.sameBut hs (I.cne y c e)⟩
 ·obtain ⟨w',z⟩:=I.cell y c e
  exact ⟨w',z.sameBut hs (I.cne y c e)⟩
 ·obtain ⟨e,n,ne,nf,d⟩:=I.pin p hp
  exact ⟨(hs.2 p.1 ne).trans e,n,ne,nf,d⟩
 ·refine (I.hok a o q).stay (fun c w' hc r=>(hs.2 c ?_).trans r) (fun _ r=>r) fun _ _ r=>r
  rintro rfl
  rcases hc with rfl | hc
  ·rw [I.free] at q;cases q
  ·rw [I.free] at hc;cases hc
theorem Inv.bound {i:Nat} {n:Str} {v:V} (I:Inv X pins σ H s) (hi:X.N[i]? = some n) (hv:σ[i]? = some (some v)) (hk:X.env.scope.names.lookup n=some .local) :
  ∃ m u,s.heap.Ns X.env.locals m∧m n=some u∧∀ (j:Nat) (y:Str) (v:V),X.N[j]? = some y→σ[j]? = some (some v)→Vis X.env.scope y→∃ u,RelV v u∧Ae X.env s.heap m y u:=by
 obtain ⟨m,hn,hl⟩:=I.loc
 obtain ⟨u,_,l⟩:=hl i n v hi hv (.inl hk)
 rcases l with ⟨_,e⟩ | ⟨k,_⟩
 ·exact ⟨m,u,hn,e,hl⟩
 ·have k:X.env.scope.names.lookup n=some .cell∨X.env.scope.names.lookup n=some .free:=k
  rcases k with k | k <;> rw [hk] at k <;> cases k
end
theorem nk {M:Model} {A:Around} {E:Value→Shared→Prop} {K:PySem.W.Frag} {s:Shared} {ea C D:Addr} {o:Obj} {Q:Bool→Shared→Prop} (KX:K.In s.heap) (ho:s.heap.get? ea=some o) (hc:o.cls = .ref C)
  (h1:PySem.W.typeIn K (.ref D)=some (.type "type")) (h2:(PySem.W.clsIn K D).isSome=true) (h3:PySem.W.mroIn K D (.type "BaseException")=some true) (h4:PySem.W.mroIn K C (.ref D)=some true) (q:Q true s) :
  wpAny M A (excMatches (.ref ea) (.ref D)) Q E s:=by
 have L1:PySem.W.Looks M s.heap (typeOf (.ref D)) (.type "type"):=PySem.W.looks_typeIn KX h1
 have L2:PySem.W.Looks M s.heap (isSubtype (.ref D) (.type "BaseException")) true:=PySem.W.looks_mroIn KX h3
 have L3:PySem.W.Looks M s.heap (isSubtype (.ref C) (.ref D)) true:=PySem.W.looks_mroIn KX h4
 have L4:PySem.W.Looks M s.heap (typeOf (.ref ea)) (.ref C):=hc ▸ (PySem.W.Looks.ld ho).andThen .now
 have L5:PySem.W.Looks M s.heap (isType (.ref D)) true:=by
  obtain ⟨cd,e⟩:=Option.isSome_iff_exists.mp h2
  unfold PySem.W.clsIn at e
  split at e
  ·rename_i ho2
   intro A' Q' E' s' k q
   unfold isType loadHead
   exact wpAny_bind (wpAny_loadPart (k _ _ (KX _ _ ho2)) (wpAny_pure q))
  ·cases e
 have f:isSubtype (.type "type") (.type "tuple")=pure false:=tc_notTuple
 unfold excMatches isInstance isExcClass
 refine wpAny_bind (wpAny_bind (L1.at ?_))
 rw [f]
 refine wpAny_pure ?_
 simp only [Bool.false_eq_true,if_false]
 refine wpAny_bind (wpAny_pure ?_)
 rw [List.forIn_cons]
 refine wpAny_bind (wpAny_bind (wpAny_bind (wpAny_bind (L5.at ?_))))
 rw [if_pos rfl]
 refine L2.at ?_
 rw [if_neg (by decide)]
 refine wpAny_pure ?_
 show wpAny M A (pure PUnit.unit) _ E _
 refine wpAny_pure (wpAny_bind (L4.at ?_))
 rw [List.forIn_cons]
 refine wpAny_bind (wpAny_bind (wpAny_bind (L3.at ?_)))
 rw [if_pos rfl]
 exact wpAny_pure (wpAny_pure (wpAny_pure q))
end L2
set_option maxHeartbeats 4000000
namespace L2
open PySem PySem.Spec PyProof.Rows
section
variable {X:Cx}
def BW (X:Cx) (pins:List (Addr×Obj)) (σ:St) (ex:Addr→Option Addr→Hp→Prop) (e:Value) (s1:Shared):Prop:=
 ∃ (ea C:Addr) (dd:Option Addr) (B:Heap) (H' H0:Hp) (s0:Shared),e = .ref ea∧Inv X pins σ H0 s0∧Fly X.prog X.w X.stack H0 s0 ea (.ref C) dd B H' s1∧ex C dd H'
abbrev exK (ex:Addr→Option Addr→Hp→Prop):XK:=fun c dd H'=>∃ C,c = .ref C∧ex C dd H'
theorem pS {k:Nat} {f:Addr} {fd:FuncData} {ps:List Str} {sp:Sp} {x:Str} {p pos:Pos} {e:Expr} {es:List Expr} {t:TA} {dvs:List V} {ds:List Value} {pins:List (Addr×Obj)} {s:Shared} {σ:St} {H:Hp} {Q:VK} {ex:Addr→Option Addr→Hp→Prop}
  (F:FnOk X.prog X.w X.K X.mg X.base (CXe X.prog X.w) k f fd ps sp) (hr:Room k X.A) (hg:Gl X x) (hm:X.mg x=some (.ref f)) (hk:PySem.W.keepIn X.K (.ref f)=true) (hb:Binds X.K fd ps ds) (hd:Vals dvs ds) (ha:PA X.nox (e :: es) t)
  (I:Inv X pins σ H s) (h:t σ H fun vs H1=>sp (vs++dvs) H1 Q (exK ex)) (hdb:(x == ("__debug__" : Str))=false) (he:starEach (e :: es) X.env=(false,eval e X.env) :: starEach es X.env) (hpl:(backTo pos (starEach es X.env)).any (·.1)=false) :
  wpAny (model X.prog X.w) X.A (eval (.Call (.Name x p) (e :: es) [] pos) X.env) (EP X pins σ Q) (BW X pins σ ex) s:=by
 refine wpAny_Call_Name_kw (fQ I hg hm ?_ hdb)
 refine PySem.W.callWith_K (h₀:=X.base) I.ok.mod.kin hk (wpAny_mono (ha pos pins s σ H _ (I.wish _) h) (fun us s1 ⟨vs,H1,I1,r,q⟩=>⟨I1.unwish.kIn,?_⟩) fun _ _ z=>z.elim) he hpl
 have I1':Inv X pins σ H1 s1:=I1.unwish
 have r2:Vals (vs++dvs) (us++ds):=r.append hd
 have hl:(us++ds).length=ps.length:=by rw [← r2.length];exact F.len _ _ _ _ q
 refine wpAny_call (codeAny_mono (F.run X.A X.stack s1 H1 ⟨us,[]⟩ (us++ds) (vs++dvs) Q _ hr I1'.env0 (hb s1 us I1'.kIn hl) r2 q) fun r s' hq => ?_)
 cases r with
 | error e'=>
  obtain ⟨ea,C,dd,B,H',rfl,y,D,hD,z⟩:=hq
  cases hD
  exact ⟨ea,C,dd,B,H',H1,s1,rfl,I1',y,z⟩
 | ok fl=>
  cases fl with
  | ret u=>exact I1'.after hq
  | next=>exact False.elim hq
  | brk=>exact False.elim hq
  | cont=>exact False.elim hq
abbrev TB:=St→Hp→(St→Hp→Prop)→(Addr→Option Addr→Hp→Prop)→Prop
def PB (X:Cx) (body:List Stmt) (t:TB):Prop:=∀ (pins:List (Addr×Obj)) (s:Shared) (σ:St) (H:Hp) (nx:St→Hp→Prop) (ex:Addr→Option Addr→Hp→Prop),Inv X pins σ H s→t σ H nx ex →
 wpAny (model X.prog X.w) X.A (execs body X.env) (fun f s1=>f = .next∧∃ σ' H',Inv X pins σ' H' s1∧nx σ' H') (BW X pins σ ex) s
theorem wy {k:Nat} {f:Addr} {fd:FuncData} {ps:List Str} {sp:Sp} {x:Str} {p pos apos:Pos} {e:Expr} {es:List Expr} {t:TA} {dvs:List V} {ds:List Value}
  (F:FnOk X.prog X.w X.K X.mg X.base (CXe X.prog X.w) k f fd ps sp) (hr:Room k X.A) (hg:Gl X x) (hm:X.mg x=some (.ref f)) (hk:PySem.W.keepIn X.K (.ref f)=true) (hb:Binds X.K fd ps ds) (hd:Vals dvs ds) (ha:PA X.nox (e :: es) t)
  (hs:swapsWith (.Call (.Name x p) (e :: es) [] pos) none apos.line X.env=pure false:=by rfl)
  (hdb:(x == ("__debug__" : Str))=false:=by decide) (he:starEach (e :: es) X.env=(false,eval e X.env) :: starEach es X.env:=by rfl) (hpl:(backTo pos (starEach es X.env)).any (·.1)=false:=by rfl) :
  PB X [.Expr (.Call (.Name x p) (e :: es) [] pos) apos] (fun σ H nx ex=>t σ H fun vs H1=>sp (vs++dvs) H1 (fun _ H2=>nx σ H2) (exK ex)):=by
 intro pins s σ H nx ex I h
 refine wpAny_execs_cons (wpAny_Expr_any (thn (pS F hr hg hm hk hb hd ha I h hdb he hpl) fun v s1 ⟨u,H1,I1,r1,q1⟩ => ?_) I.quiet hs)
 exact wpAny_execs_nil ⟨rfl,_,H1,I1,q1⟩
theorem yv {body:List Stmt} {tb:TB} {bx n z:Str} {D:Addr} {iz ie:Nat} {np pz pn zp hpos pos:Pos} (hB:PB X body tb) (hst:X.stack=X.env :: X.outer) (hfr:X.env.frame=some X.env.locals) (hg:Gl X bx) (hm:X.mg bx=some (.ref D))
  (h1:PySem.W.typeIn X.K (.ref D)=some (.type "type")) (h2:(PySem.W.clsIn X.K D).isSome=true) (h3:PySem.W.mroIn X.K D (.type "BaseException")=some true)
  (hN:X.N.Nodup) (hi:X.N[ie]? = some n) (hl:X.env.scope.names.lookup n=some .local) (hz:X.N[iz]? = some z) (hlz:Loc X.env.scope z) (hf:X.fn z=true∨X.env.scope.names.lookup z=some .local:=by first | exact .inl rfl | exact .inr rfl | assumption)
  (hsw:swapsWith (.Name n pn) (some (.Name z pz)) zp.line X.env=pure false:=by rfl) (hdb:(bx == ("__debug__" : Str))=false:=by decide) (hd1:(n == ("__debug__" : Str))=false:=by decide) (hd2:(n == ("__classdict__" : Str))=false:=by decide) :
  PS X (.Try body [.ExceptHandler (some (.Name bx np)) (some n) [.Assign [.Name z pz] (.Name n pn) zp] hpos] [] [] pos)
   (fun D' σ H=>tb σ H D'.nx fun C d H'=>PySem.W.mroIn X.K C (.ref D)=some true∧∀ ea,H' ea=none→D'.nx (((σ.set ie (some (.ref ea))).set iz (some (.ref ea))).set ie none) (upd H' ea (tV ea C d))):=by
 intro pins s σ H D' I h
 refine wpAny_Try_except (wpAny_mono (hB pins s σ H _ _ I h) (fun f s1 ⟨hf',σ',H',I',q⟩ => ?_) (fun e s1 hx => ?_))
 ·subst hf'
  exact wpAny_execs_nil ⟨σ',H',I',q⟩
 ·obtain ⟨ea,C,dd,B,H',H0,s0,rfl,I0,y,hmro,q⟩:=hx
  have frs0:X.A.frames=some (X.env :: X.outer):=by rw [← hst];exact I0.ok.frames
  have y':Fly X.prog X.w (X.env :: X.outer) H0 s0 ea (.ref C) dd B H' s1:=by rw [← hst];exact y
  have stf:∀ b∈frs X.stack,H0 b=none:=I0.stkFree
  have fns:∀ b∈frs X.stack,∃ o,s0.heap.get? b=some o:=fun b hb=>by
   obtain ⟨_,o,q,_⟩:=I0.stack.mem hb
   exact ⟨o,q⟩
  refine lE frs0 hfr y'.fl fun h4 held4 ups4 => ?_
  refine uv (s:={s1 with heap:=h4}) held4 fun h5 fl5 ups5 => ?_
  have y5:Fly X.prog X.w X.stack H0 s0 ea (.ref C) dd B H' {s1 with heap:=h5}:=y.move (by rw [hst];exact fl5) (ups4.trans ups5) stf fns
  have I5:=I0.caught y5
  obtain ⟨oe,ve,hoe,hoc,_,_⟩:=y5.fl.first
  refine wpAny_handleBy_cons (codeAny_handlers_test (fQ (X:=X.marked (.ref ea)) (I5.mark (.ref ea)) hg hm ?_ hdb)) (fun z=>nomatch z)
  refine nk I5.kIn hoe hoc h1 h2 h3 hmro ?_
  rw [if_pos rfl]
  refine codeAny_handlers_suite_as (uv (s:={s1 with heap:=h5}) fl5 fun h6 fl6 ups6 => ?_)
  have y6:Fly X.prog X.w X.stack H0 s0 ea (.ref C) dd B H' {s1 with heap:=h6}:=y5.move (s':={s1 with heap:=h5}) (by rw [hst];exact fl6) ups6 stf fns
  have I6:=(I0.caught y6).mark (.ref ea)
  refine gs (X:=X.marked (.ref ea)) (i:=ie) I6 hN hi (.inl hl) (v := .ref ea) rfl (fun s7 I7 => ?_) (.inr hl)
  have asg:PSs (X.marked (.ref ea)) [.Assign [.Name z pz] (.Name n pn) zp] _:=af (az (i:=iz) hN hz hlz (vm (i:=ie) hi (.inl hl) hd1 hd2) hsw hf)
  have len7:=I7.len
  have len0:=I0.len
  have hie:ie < σ.length:=by
   have:=(List.getElem?_eq_some_iff.mp hi).1
   rw [len0];exact this
  refine wpAny_mono (asg pins s7 _ _ {nx:=fun σ' H''=>σ'=(σ.set ie (some (.ref ea))).set iz (some (.ref ea))∧H''=upd H' ea (tV ea C dd),rt:=fun _ _=>False} I7 ⟨.ref ea,by rw [List.getElem?_set_self hie],rfl,rfl⟩) (fun fl s8 q8 => ?_) fun _ _ z=>z.elim
  cases fl with
  | brk=>obtain ⟨_,_,_,z⟩:=q8;exact z.elim
  | cont=>obtain ⟨_,_,_,z⟩:=q8;exact z.elim
  | ret u=>obtain ⟨_,_,_,_,_,z⟩:=q8;exact z.elim
  | next=>
   obtain ⟨σ8,H8,I8,e1,e2⟩:=q8
   subst e1
   subst e2
   have I8':Inv X pins _ _ s8:=I8.unmark I0.ok
   refine wpAny_bind (wpAny_bindName (gs (i:=ie) I8' hN hi (.inl hl) (v := .non) rfl (fun s9 I9 => ?_) (.inr hl)))
   have hie8:ie < (((σ.set ie (some (.ref ea))).set iz (some (.ref ea))).set ie (some V.non)).length:=by simpa using hie
   obtain ⟨m,u,hn,hmn,hall⟩:=I9.bound (i:=ie) (n:=n) (v := .non) hi (by rw [List.getElem?_set_self (by simpa using hie)]) hl
   have hp:(X.env.scope.kind == .class || (X.env.scope.kind == .module && X.env.locals != X.env.globals))=false:=by rw [I9.ok.kind];rfl
   refine wpAny_onRaise (wpAny_mono (wpAny_unbindName_local (E:=X.xe) hl hn hmn hp fun h' u' hn' hs' => ?_) (fun _ _ z=>z) fun _ _ z => ?_)
   ·have I10:=I9.unbound hN hi hn hall hn' hs'
    rw [List.set_set] at I10
    exact ⟨_,_,I10,q ea y.free⟩
   ·exact wpAny_standAt z
end
end L2
set_option maxHeartbeats 400000
set_option maxRecDepth 100000
namespace L2
open PySem PySem.Spec PyProof.Rows PySem.W PySem.Calls PySem.Builtin PySem.Builtin.ObjectAttr PySem.Builtin.Getset_descriptor
structure ExcC (K:PySem.W.Frag) (C:Addr):Prop where
 ga:PySem.W.findIn K (.ref C) "__getattribute__" = some (some (.builtin "BaseException.__getattribute__"))
 gt:PySem.W.findIn K (.ref C) "__getattr__" = some none
 ca:PySem.W.findIn K (.ref C) "__class__" = some (some (.builtin "object.__class__"))
 gg:PySem.W.specialIn K (.builtin "object.__class__") "__get__" = some (some (.builtin "getset_descriptor.__get__"))
 tk:PySem.W.takesIn K (.builtin "object.__class__")=some true
 mo:PySem.W.mroIn K C (.type "object")=some true
 mb:PySem.W.mroIn K C (.type "BaseException")=some true
 cl:(PySem.W.clsIn K C).isSome=true
section
variable {prog:Program} {w:World} {A:Around} {E:Value→Shared→Prop} {s:Shared} {K:PySem.W.Frag} {x C:Addr}
theorem kt {tp:Value} {R:Result→Shared→Prop} (L0:PySem.W.Looks (model prog w) s.heap (typeOf (.ref x)) (.ref C)) (KX:K.In s.heap) (T:ExcC K C) (h:R (.ok (.ret (.ref C))) s) :
  codeAny (model prog w) A (.call (.builtin "getset_descriptor.__get__") ⟨[.builtin "object.__class__",.ref x,tp],[]⟩) R s:=by
 have L1:=PySem.W.looks_mroIn (M:=model prog w) KX T.mo
 obtain ⟨hh,g,dr,t,os⟩:=s
 refine codeAny_call_builtin KF.slot_gs.plain KF.entry_gs (KF.slot_gs.check _ _ _ _ _ _ _ _ KF.type_class (KF.args_gs _ _ _) ?_)
 unfold Builtin.«getset_descriptor.__get__» descrGet
 rw [dga_obj]
 refine wpAny_bind (wpAny_pure ?_)
 unfold descrGetter descrCheckInstance descrNameAndClass isInstance
 simp only [KF.owner_class]
 repeat lk
 refine ⟨Code.quiet_builtin _ (by decide +kernel),codeAny_builtin KF.entry_class ?_⟩
 unfold Builtin.«object.__class__» shownTypeOf
 repeat lk
 exact h
theorem oN (L0:PySem.W.Looks (model prog w) s.heap (typeOf (.ref x)) (.ref C)) (KX:K.In s.heap) (T:ExcC K C):PySem.W.Looks (model prog w) s.heap (find (.ref x) (.ref C) "__class__") (.bind (.builtin "getset_descriptor.__get__") (.builtin "object.__class__")):=by
 have a1:=PySem.W.looks_findIn (M:=model prog w) KX T.ca
 have a2:=PySem.W.looks_specialIn (M:=model prog w) KX T.gg
 have a3:=PySem.W.looks_takesIn (M:=model prog w) KX T.tk
 have a4:PySem.W.Looks (model prog w) s.heap (dataDescriptor? (some (.builtin "object.__class__")) (some (.builtin "getset_descriptor.__get__"))) (some (.builtin "getset_descriptor.__get__",.builtin "object.__class__")):=a3.andThen .now
 exact a1.andThen ((show PySem.W.Looks (model prog w) s.heap (getOf (some (.builtin "object.__class__"))) _ from a2).andThen (a4.andThen (PySem.W.Looks.tag .now)))
theorem rD {M:Model} {id:String} {args:Args} {Q:Unit→Shared→Prop} (ha:argsOk id args) (h:Q () s):wpAny M A (match Manifest.signature? id with | some sig=>Bind.checkArgs id sig args | _=>pure ()) Q E s:=by
 unfold argsOk at ha
 cases hs:Manifest.signature? id with
 | none=>exact wpAny_pure h
 | some sig=>
  rw [hs] at ha
  have e:Bind.checkArgs id sig args=pure ():=ha
  show wpAny M A (Bind.checkArgs id sig args) Q E s
  rw [e]
  exact wpAny_pure h
theorem rE {tk:Tok} {Q:Fin→Shared→Prop} (L0:PySem.W.Looks (model prog w) s.heap (typeOf (.ref x)) (.ref C)) (KX:K.In s.heap) (T:ExcC K C) (h:Q (.done (.ret (.ref C))) s) :
  wpAny (model prog w) A (Builtin.«object.__getattribute__» ⟨[.ref x,.str (Str.ofString "__class__") tk],[]⟩) Q E s:=by
 have a4:=oN L0 KX T
 have e1:slotArgs "__getattribute__" 1 ⟨[.ref x,.str (Str.ofString "__class__") tk],[]⟩=pure (.ref x,[.str (Str.ofString "__class__") tk]):=rfl
 have e2:ObjectAttr.attrName (.str (Str.ofString "__class__") tk)=pure (Str.ofString "__class__"):=rfl
 unfold Builtin.«object.__getattribute__»
 rw [e1]
 refine wpAny_bind (wpAny_pure ?_)
 dsimp only
 rw [e2]
 refine wpAny_bind (wpAny_pure (wpAny_bind (L0.at (wpAny_bind (a4.at ?_)))))
 dsimp only
 have e3:bindTo (.builtin "getset_descriptor.__get__") (.builtin "object.__class__") (.ref x) (.ref C)=(holding [.builtin "object.__class__"] (call (.builtin "getset_descriptor.__get__") [.builtin "object.__class__",.ref x,.ref C]) >>= ret):=rfl
 rw [e3]
 exact wpAny_bind (wpAny_holding (wpAny_call (kt L0 KX T (wpAny_pure h))))
theorem uy {Q:Option Value→Shared→Prop} (L0:PySem.W.Looks (model prog w) s.heap (typeOf (.ref x)) (.ref C)) (KX:K.In s.heap) (T:ExcC K C) (h:Q (some (.ref C)) {s with toks:=s.toks+1}) :
  wpAny (model prog w) A (getAttr? (.ref x) "__class__") Q E s:=by
 have a1:=PySem.W.looks_findIn (M:=model prog w) KX T.ga
 have a2:=PySem.W.looks_findIn (M:=model prog w) KX T.gt
 have a3:=PySem.W.looks_mroIn (M:=model prog w) KX T.mb
 have a4:=oN L0 KX T
 have hb:=PySem.F.attr_ValueError.ga.bind (.ref x)
 unfold getAttr? getAttrBy? getAttrBy
 refine wpAny_bind (wpAny_mkText (wpAny_bind (wpAny_attempt (wpAny_holding (wpAny_bind (L0.at (wpAny_bind (a1.at ?_))))))))
 show wpAny _ _ (if (onTheHeap (.ref C) && (Value.builtin "BaseException.__getattribute__") == Value.builtin "object.__getattribute__")=true then _ else _) _ _ _
 rw [if_neg (by rw [show (Value.builtin "BaseException.__getattribute__" == Value.builtin "object.__getattribute__")=false by decide +kernel,Bool.and_false];decide)]
 unfold getAttrByItsOwn hookBefore
 rw [if_pos (show onTheHeap (Value.ref C)=true from rfl)]
 refine wpAny_bind (a2.at (wpAny_bind (wpAny_attempt (wpAny_holding ?_))))
 show wpAny _ _ (boundAndCalled (.builtin "BaseException.__getattribute__") (.ref x) _) _ _ _
 unfold boundAndCalled
 rw [hb]
 refine wpAny_bind (wpAny_pure (wpAny_call (codeAny_call_builtin PySem.F.attr_ValueError.ga.plain PySem.F.entry_bexc_ga ?_)))
 have hk:builtinKind "BaseException.__getattribute__" = some .slot:=by decide +kernel
 have hsplit:splitId "BaseException.__getattribute__" = some ("BaseException", "__getattribute__"):=by decide +kernel
 have ha:=PySem.F.args_bexc_ga (.ref x) (.str (Str.ofString "__class__") s.toks)
 simp only [checkBuiltinCall,hk,hsplit]
 refine wpAny_bind ?_
 unfold isInstance
 refine wpAny_bind (L0.at (a3.at ?_))
 rw [if_neg (by decide)]
 have key:wpAny (model prog w) A.in1 (match Manifest.signature? "BaseException.__getattribute__" with | some sig=>Bind.checkArgs "BaseException.__getattribute__" sig ⟨[.ref x,.str (Str.ofString "__class__") s.toks],[]⟩ | _=>pure ()) (fun _ s'=>s'={s with toks:=s.toks+1}) (fun _ _=>False) {s with toks:=s.toks+1}:=rD ha rfl
 refine wpAny_mono key (fun _ s1 es => ?_) (fun _ _ z=>z.elim)
 subst es
 refine rE (s:={s with toks:=s.toks+1}) L0 KX T ?_
 exact PySem.W.handed_on rfl (wpAny_pure h)
theorem uz {dd:Option Addr} (T:ExcC K C):PySem.W.KitX K (.ref x) (.ref C) (fun h=>∃ o vs,h.get? x=some o∧o.cls = .ref C∧o.data = .fields vs∧o.dict=dd) where
 ty:=fun _ _ _ ⟨_,_,ho,hc,_⟩=>hc ▸ (PySem.W.Looks.ld ho).andThen .now
 it:=fun _ _ KX _=>by
  obtain ⟨cd,e⟩:=Option.isSome_iff_exists.mp T.cl
  unfold PySem.W.clsIn at e
  split at e
  ·rename_i ho2
   intro A' Q' E' s' k q
   unfold isType loadHead
   exact wpAny_bind (wpAny_loadPart (k _ _ (KX _ _ ho2)) (wpAny_pure q))
  ·cases e
 ne:=fun h tp dd its n sl KX htp=>by
  obtain ⟨cd,e⟩:=Option.isSome_iff_exists.mp T.cl
  refine Bool.eq_false_iff.mpr fun q => ?_
  have e2:C=tp:=Value.ref.inj (beq_iff_eq.mp q)
  subst e2
  unfold PySem.W.clsIn at e
  split at e
  ·rename_i ho2
   have:=KX _ _ ho2
   rw [htp] at this
   cases this
  ·cases e
 ca:=fun KX ⟨_,_,ho,hc,_⟩ q=>uy (hc ▸ (PySem.W.Looks.ld ho).andThen .now) KX T q
end
section
variable {X:Cx}
def BX (K:PySem.W.Frag):List V→Hp→VK→Prop:=fun xs H Q=>∃ ea C cls c b,xs=[.ref ea,cls]∧(∃ dd,H ea=some (tV ea C dd))∧ExcC K C∧rp cls=some c∧PySem.W.kitOne K (.ref C) c=some b∧Q (.bl b) H
theorem uA:dm X (.builtin "isinstance") (BX X.K):=by
 intro pins s σ H xs us Q I r h
 obtain ⟨ea,C,cls,c,b,rfl,⟨dd,he⟩,T,hc,e,q⟩:=h
 obtain ⟨u,u2,rfl,rx,rc⟩:=yd r
 cases rx
 have ec:u2=c:=by
  cases cls with
  | ty n=>cases hc;exact rc
  | ref a=>cases hc;exact rc
  | _=>cases hc
 subst ec
 obtain ⟨p,_,_⟩:=(show ObjOk X.prog X.w H s.heap ea (tV ea C dd) from I.hok ea _ he)
 exact PySem.W.kia_one (uz T) I.kIn p e (fun z=>nomatch z) fun tk=>⟨.bl b,H,I.tok tk,rfl,q⟩
def CC (K:PySem.W.Frag):List V→Hp→VK→Prop:=fun xs H Q=>∃ (ea C tp:Addr) (cs:List V) (vs:List Value) (b:Bool),xs=[.ref ea,.ref tp]∧(∃ dd,H ea=some (tV ea C dd))∧ExcC K C∧H tp=some (.tup cs)∧cs.map rp=vs.map some∧PySem.W.kitAny K (.ref C) vs=some b∧Q (.bl b) H
end
end L2
set_option maxHeartbeats 4000000
namespace L2
open PySem PySem.Spec PyProof.Rows
section
variable {X:Cx}
def CD (X:Cx):R2:=fun x y H Q=>∃ t p1 p2 b1 b2,y = .ref t∧SqT X.K H t [.ref p1,.ref p2]∧p1≠p2∧EqW X H 8 (.ref p1) x b1∧EqW X H 8 (.ref p2) x b2∧Q (.bl (b1 || b2)) H
theorem yw {k:Nat} (hr:Room k X.A):OpR X (compareOp .In) (CD X):=by
 intro pins s σ H x y v u Q I rx ry h
 obtain ⟨t,p1,p2,b1,b2,rfl,ht,hne,h1,h2,q⟩:=h
 cases ry
 obtain ⟨its,r,pl,hz⟩:=I.tuple ht
 obtain ⟨u1,us,rfl,r1,rr⟩:∃ u1 us,its=u1 :: us∧RelV (.ref p1) u1∧Vals [.ref p2] us:=by
  cases r with
  | cons a b=>exact ⟨_,_,rfl,a,b⟩
 obtain ⟨u2,rfl,r2⟩:=rr.one
 cases r1
 cases r2
 have hu:=hr.units
 have hu1:X.A.in1.units+8 < cLine:=by rw [iX];omega
 have e1:=h1 pins σ s (.ref p1) v I rfl rx X.A.in1 hu1
 have e2:=h2 pins σ s (.ref p2) v I rfl rx X.A.in1 hu1
 have n1:((Value.ref p1) == Value.ref p1)=true:=by simp
 have n2:((Value.ref p2) == Value.ref p1)=false:=by simpa using Ne.symm hne
 refine SeqAt.in_tupleAt (fun z=>if (z == Value.ref p1)=true then b1 else b2) pl (fun z hz => ?_) ⟨.bl (b1 || b2),H,I,?_,q⟩
 ·have hz':z = .ref p1∨z = .ref p2:=by simpa using hz
  rcases hz' with rfl | rfl
  ·rw [if_pos n1];exact e1
  ·rw [if_neg (by rw [n2];decide)];exact e2
 ·have e:(#[Value.ref p1,Value.ref p2]:Array Value).any (fun z=>if (z == Value.ref p1)=true then b1 else b2)=(b1 || b2):=by
   simp [Ne.symm hne]
  show Value.bool _=Value.bool _
  rw [e]
theorem uB {H:Hp} {a b:Addr} {xs ys:List Int} (ha:H a=some (.lst (xs.map V.int))) (hb:H b=some (.lst (ys.map V.int))):EqW X H 8 (.ref a) (.ref b) (decide (xs=ys)):=by
 refine rA (oM (SqL.of ha) (SqL.of hb)) fun e => ?_
 subst e
 rw [ha] at hb
 injection hb with hb
 injection hb with hb
 have:xs=ys:=by
  have inj:∀ {l m:List Int},l.map V.int=m.map V.int→l=m:=fun {l m} h=>(List.map_inj_right (fun a b z=>V.int.inj z)).mp h
  exact inj hb
 exact decide_eq_true this
end
def Do (H:Hp) (Q:VK) (l:List Int):Prop:=∀ r H',Same H H'→H r=none→H' r=some (.tup (l.map V.int))→Q (.ref r) H'
def CF (H:Hp) (Q:VK) (i:Int):Prop:=∀ H',Same H H'→Q (.int i) H'
def CG (H:Hp) (Q:VK) (b:Bool):Prop:=∀ H',Same H H'→Q (.bl b) H'
end L2
set_option maxHeartbeats 4000000
namespace L2
open PySem PySem.Spec PyProof.Rows
def At (H:Hp) (a:Addr) (o:HO):Prop:=H a=some o
def aI (H:Hp) (a:Addr):Prop:=H a=none
theorem ad {H:Hp} {a:Addr} {o:HO}:At (upd H a o) a o:=bz
def MkL (H:Hp) (Q:VK) (l:List Int):Prop:=∀ r H',Same H H'→aI H r→At H' r (.lst (l.map V.int))→Q (.ref r) H'
def MkT (H:Hp) (Q:VK) (l:List Int):Prop:=∀ r H',Same H H'→aI H r→At H' r (.tup (l.map V.int))→Q (.ref r) H'
theorem ak {t:TS} {D:Ends} {s1 s2:St} {H:Hp} (e:s1=s2) (h:t D s2 H):t D s1 H:=e ▸ h
theorem yx {t u:TS} {D:Ends} {s:St} {H:Hp} (h:t {D with nx:=u D} s H):BC t u D s H:=h
theorem wz {D:Ends} {s:St} {H:Hp} (h:D.nx s H):xV D s H:=h
theorem Aq {F B C:St→Hp→Prop} {R:VK} {s:St} {H:Hp} (h:F s H):(Ends.mk F R B C).nx s H:=h
theorem As {F B C:St→Hp→Prop} {R:VK} {v:V} {H:Hp} (h:R v H):(Ends.mk F R B C).rt v H:=h
theorem yy {te:TE} {g:TG} {D:Ends} {s:St} {H:Hp} (h:te s H fun x H1=>g x s H1 D.nx):xO te g D s H:=h
theorem wA {te:TE} {D:Ends} {s:St} {H:Hp} (h:te s H fun _ H1=>D.nx s H1):vS te D s H:=h
theorem yz {te:TE} {D:Ends} {s:St} {H:Hp} (h:te s H D.rt):BE te D s H:=h
theorem wB {D:Ends} {s:St} {H:Hp} (h:D.rt .non H):xW D s H:=h
theorem yA {c:TT} {t u:TS} {D:Ends} {s:St} {H:Hp} (h:c s H fun b H1=>if b=true then t D s H1 else u D s H1):BF c t u D s H:=h
theorem uC {v:V} {s:St} {H:Hp} {Q:VK} (h:Q v H):tC v s H Q:=h
theorem Au {r:R2} {ta tb:TE} {s:St} {H:Hp} {Q:VK} (h:ta s H fun x H1=>tb s H1 fun y H2=>r x y H2 Q):tOp r ta tb s H Q:=h
theorem Av {r:V→Hp→VK→Prop} {ta:TE} {s:St} {H:Hp} {Q:VK} (h:ta s H fun x H1=>r x H1 Q):tUn r ta s H Q:=h
theorem Aw {g:Int→Int→V} {i j:Int} {H:Hp} {Q:VK} (h:Q (g i j) H):rI0 g (.int i) (.int j) H Q:=⟨i,j,rfl,rfl,h⟩
theorem BY {C:Int→Int→Prop} {g:Int→Int→V} {i j:Int} {H:Hp} {Q:VK} (c:C i j) (h:Q (g i j) H):rI C g (.int i) (.int j) H Q:=⟨i,j,rfl,rfl,c,h⟩
theorem CH {g:Int→V} {i:Int} {H:Hp} {Q:VK} (h:Q (g i) H):rU g (.int i) H Q:=⟨i,rfl,h⟩
theorem yB {i j:Int} {H:Hp} {Q:VK} (h:Q (.bl (decide (i=j))) H):rEq (.int i) (.int j) H Q:=by
 refine ⟨rfl,?_⟩
 rw [show decide (V.int i=V.int j)=decide (i=j) by rw [kc];rfl]
 exact h
theorem yC {i j:Int} {H:Hp} {Q:VK} (h:Q (.bl (!decide (i=j))) H):rNe (.int i) (.int j) H Q:=by
 refine ⟨rfl,?_⟩
 rw [show decide (V.int i=V.int j)=decide (i=j) by rw [kc];rfl]
 exact h
theorem yD {i j:Str} {H:Hp} {Q:VK} (h:Q (.bl (decide (i=j))) H):rEq (.str i) (.str j) H Q:=by
 refine ⟨rfl,?_⟩
 rw [show decide (V.str i=V.str j)=decide (i=j) from decide_eq_decide.mpr ⟨fun z=>V.str.inj z,fun z=>congrArg V.str z⟩]
 exact h
theorem yE {i j:Str} {H:Hp} {Q:VK} (h:Q (.bl (!decide (i=j))) H):rNe (.str i) (.str j) H Q:=by
 refine ⟨rfl,?_⟩
 rw [show decide (V.str i=V.str j)=decide (i=j) from decide_eq_decide.mpr ⟨fun z=>V.str.inj z,fun z=>congrArg V.str z⟩]
 exact h
theorem wC {t:TE} {s:St} {H:Hp} {Q:Bool→Hp→Prop} (h:t s H fun x H'=>∃ k,x = .bl k∧Q k H'):pI t s H Q:=h
theorem Ax {t:TE} {s:St} {H:Hp} {Q:Bool→Hp→Prop} (h:t s H fun x H'=>∃ k,x = .bl k∧Q k H'):tB t s H Q:=h
theorem wD {k:Bool} {P:Bool→Prop} (h:P k):∃ k',V.bl k=V.bl k'∧P k':=⟨k,rfl,h⟩
theorem uD {k:Int} {P:Int→Prop} (h:P k):∃ k',V.int k=V.int k'∧P k':=⟨k,rfl,h⟩
theorem yF {t u:TT} {s:St} {H:Hp} {Q:Bool→Hp→Prop} (h:t s H fun c H1=>if c=true then u s H1 Q else Q false H1):zS t u s H Q:=h
theorem Ay {t u:TT} {s:St} {H:Hp} {Q:Bool→Hp→Prop} (h:t s H fun c H1=>if c=true then Q true H1 else u s H1 Q):tOr t u s H Q:=h
theorem yG {t:TT} {s:St} {H:Hp} {Q:Bool→Hp→Prop} (h:t s H fun c H1=>Q (!c) H1):BA t s H Q:=h
theorem wE {ta tb:TE} {s:St} {H:Hp} {Q:VK} (h:ta s H fun x H1=>∃ c,x = .bl c∧if c=true then tb s H1 Q else Q (.bl false) H1):xU ta tb s H Q:=h
theorem yH {t:TT} {ta tb:TE} {s:St} {H:Hp} {Q:VK} (h:t s H fun c H1=>if c=true then ta s H1 Q else tb s H1 Q):tIf t ta tb s H Q:=h
theorem yI {s:St} {H:Hp} {Q:List V→Hp→Prop} (h:Q [] H):vr s H Q:=h
theorem wF {ta:TE} {tr:TA} {s:St} {H:Hp} {Q:List V→Hp→Prop} (h:ta s H fun x H1=>tr s H1 fun xs H2=>Q (x :: xs) H2):wc ta tr s H Q:=h
theorem yJ {t:TA} {s:St} {H:Hp} {Q:VK} (h:t s H fun xs H1=>xs.length≤sizeLine∧∀ p,aI H1 p→Q (.ref p) (upd H1 p (.tup xs))):zX t s H Q:=h
theorem yK {t:TA} {s:St} {H:Hp} {Q:VK} (h:t s H fun xs H1=>xs.length≤sizeLine∧∀ p,aI H1 p→Q (.ref p) (upd H1 p (.lst xs))):BN t s H Q:=h
theorem wG {sp:Sp} {dvs:List V} {E:XK} {t:TA} {s:St} {H:Hp} {Q:VK} (h:t s H fun vs H1=>sp (vs++dvs) H1 Q E):qU sp dvs E t s H Q:=h
theorem Az {r:List V→Hp→VK→Prop} {t:TA} {s:St} {H:Hp} {Q:VK} (h:t s H fun vs H1=>r vs H1 Q):tCB r t s H Q:=h
theorem AA {K:PySem.W.Frag} {T:String} {r:V→List V→Hp→VK→Prop} {to:TE} {t:TA} {s:St} {H:Hp} {Q:VK} (h:to s H fun x H1=>tyV K T x H1∧t s H1 fun xs H2=>r x xs H2 Q):tBM K T r to t s H Q:=h
theorem yL {K:PySem.W.Frag} {a:Addr} {xs:List V} {H:Hp} {A:Prop} (e:SqL K H a xs) (h:A):tyV K "list" (.ref a) H∧A:=⟨.inl ⟨rfl,xs,e⟩,h⟩
theorem bF {l:Addr} {xs:List V} {y:V} {H:Hp} {Q:VK} (e:At H l (.lst xs)) (hl:xs.length < sizeLine) (h:Q .non (upd H l (.lst (xs++[y])))):rb (.ref l) [y] H Q:=⟨l,xs,y,rfl,rfl,e,hl,h⟩
theorem wH {i j:Int} {H:Hp} {Q:VK} (h:Q (.int (i+j)) H):BL (.int i) (.int j) H Q:=⟨i,j,rfl,rfl,h⟩
def zZ (K:PySem.W.Frag) (f:Str):V→Hp→VK→Prop:=fun x H Q=>∃ a C dx fs v,x = .ref a∧H a=some (.ins C dx fs)∧Cls K C∧NoAttr K C f∧fs.lookup f=some v∧Q v H
theorem yM {K:PySem.W.Frag} {ta:TE} {f:Str} {s:St} {H:Hp} {Q:VK} (h:ta s H fun x H1=>zZ K f x H1 Q):zW K ta f s H Q:=h
theorem wI {K:PySem.W.Frag} {f:Str} {a C dx:Addr} {fs:List (Str×V)} {v:V} {H:Hp} {Q:VK} (e:At H a (.ins C dx fs)) (c:Cls K C) (n:NoAttr K C f) (l:fs.lookup f=some v) (h:Q v H):zZ K f (.ref a) H Q:=⟨a,C,dx,fs,v,rfl,e,c,n,l,h⟩
def uE (K:PySem.W.Frag) (f:Str) (y:V):V→Hp→(Hp→Prop)→Prop:=fun x H N=>∃ a C dx fs,x = .ref a∧H a=some (.ins C dx fs)∧Cls K C∧NoAttr K C f∧fs.length < 1000∧N (upd H a (.ins C dx (eI f y fs)))
theorem wJ {K:PySem.W.Frag} {ta tv:TE} {f:Str} {D:Ends} {s:St} {H:Hp} (h:tv s H fun y H1=>ta s H1 fun x H2=>uE K f y x H2 fun H3=>D.nx s H3):Ai K ta tv f D s H:=h
theorem uF {K:PySem.W.Frag} {f:Str} {a C dx:Addr} {fs fs':List (Str×V)} {y:V} {H:Hp} {N:Hp→Prop} (e:At H a (.ins C dx fs)) (c:Cls K C) (n:NoAttr K C f) (l:fs.length < 1000) (p:eI f y fs=fs') (h:N (upd H a (.ins C dx fs'))):uE K f y (.ref a) H N:=⟨a,C,dx,fs,rfl,e,c,n,l,p ▸ h⟩
def uG (K:PySem.W.Frag) (f:Str) (N:Addr→Addr→V→Hp→Prop):V→Hp→Prop:=fun x H=>∃ a C dx fs v,x = .ref a∧H a=some (.ins C dx fs)∧Cls K C∧NoAttr K C f∧fs.lookup f=some v∧N a C v H
def uH (f:Str) (a C:Addr) (z:V) (H:Hp) (N:Hp→Prop):Prop:=∃ dx' fs',H a=some (.ins C dx' fs')∧fs'.length < 1000∧N (upd H a (.ins C dx' (eI f z fs')))
theorem wK {K:PySem.W.Frag} {ta tv:TE} {rd:V→V→Hp→VK→Prop} {f:Str} {D:Ends} {s:St} {H:Hp} (h:ta s H fun x H1=>uG K f (fun a C v H1=>tv s H1 fun y H2=>rd v y H2 fun z H3=>uH f a C z H3 fun H4=>D.nx s H4) x H1):m8 K ta tv rd f D s H:=h
theorem wL {K:PySem.W.Frag} {f:Str} {a C dx:Addr} {fs:List (Str×V)} {v:V} {H:Hp} {N:Addr→Addr→V→Hp→Prop} (e:At H a (.ins C dx fs)) (c:Cls K C) (n:NoAttr K C f) (l:fs.lookup f=some v) (h:N a C v H):uG K f N (.ref a) H:=⟨a,C,dx,fs,v,rfl,e,c,n,l,h⟩
theorem wM {f:Str} {a C dx:Addr} {fs fs':List (Str×V)} {z:V} {H:Hp} {N:Hp→Prop} (e:At H a (.ins C dx fs)) (l:fs.length < 1000) (p:eI f z fs=fs') (h:N (upd H a (.ins C dx fs'))):uH f a C z H N:=⟨dx,fs,e,l,p ▸ h⟩
def uI (C:Addr) (m:Str) (N:V→Hp→Prop):V→Hp→Prop:=fun x H=>∃ a dx fs,x = .ref a∧H a=some (.ins C dx fs)∧fs.lookup m=none∧N x H
theorem wN {C:Addr} {m:Str} {sp:Sp} {dvs:List V} {E:XK} {ta:TE} {t:TA} {s:St} {H:Hp} {Q:VK} (h:ta s H fun x H1=>uI C m (fun x H1=>t s H1 fun vs H2=>sp (x :: (vs++dvs)) H2 Q E) x H1):li C m sp dvs E ta t s H Q:=h
theorem uJ {C a dx:Addr} {m:Str} {fs:List (Str×V)} {H:Hp} {N:V→Hp→Prop} (e:At H a (.ins C dx fs)) (l:fs.lookup m=none) (h:N (.ref a) H):uI C m N (.ref a) H:=⟨a,dx,fs,rfl,e,l,h⟩
def pT (K:PySem.W.Frag):List V→Hp→VK→Prop:=fun xs H Q=>∃ p ys,xs=[.ref p]∧(SqL K H p ys∨SqT K H p ys)∧Q (.int ys.length) H
theorem rF {X:Cx}:dm X (.builtin "len") (pT X.K):=lv
theorem wO {K:PySem.W.Frag} {a:Addr} {xs:List V} {H:Hp} {Q:VK} (e:SqL K H a xs) (h:Q (.int xs.length) H):pT K [.ref a] H Q:=⟨a,xs,rfl,.inl e,h⟩
def lI (K:PySem.W.Frag):List V→Hp→VK→Prop:=fun xs H Q=>∃ p ys,xs=[.ref p]∧(SqL K H p ys∨SqT K H p ys)∧∀ l,H l=none→Q (.ref l) (upd H l (.lst ys))
theorem pU {X:Cx}:dm X (.type "list") (lI X.K):=lz
theorem uK {K:PySem.W.Frag} {a:Addr} {xs:List V} {H:Hp} {Q:VK} (e:SqL K H a xs) (h:∀ l,aI H l→Q (.ref l) (upd H l (.lst xs))):lI K [.ref a] H Q:=⟨a,xs,rfl,.inl e,h⟩
def CI:List V→Hp→VK→Prop:=fun xs H Q=>(∃ i,xs=[.int i]∧Q (.int i) H)∨∃ k,xs=[.bl k]∧Q (.int (if k then 1 else 0)) H
def rG (K:PySem.W.Frag):V→Hp→(Bool→Hp→Prop)→Prop:=fun x H Q=>∃ k,Ah K x H k∧Q k H
def AB (K:PySem.W.Frag) (ta:TE):TT:=fun s H Q=>ta s H fun x H'=>rG K x H' Q
theorem yN {X:Cx} {a:Expr} {ta:TE} (ha:PE X a ta) (he:∀ whole,isTrue a X.env whole=(do let v ← whole;standAt a.pos;holding [v] (truthy v))):PT X a (AB X.K ta):=t8 ha he
theorem yO {K:PySem.W.Frag} {ta:TE} {s:St} {H:Hp} {Q:Bool→Hp→Prop} (h:ta s H fun x H'=>rG K x H' Q):AB K ta s H Q:=h
theorem wP {K:PySem.W.Frag} {a:Addr} {xs:List V} {H:Hp} {Q:Bool→Hp→Prop} (e:SqL K H a xs) (h:Q (!xs.isEmpty) H):rG K (.ref a) H Q:=⟨_,.inl ⟨xs,e,rfl⟩,h⟩
def AC:R2:=fun x y H Q=>y = .non∧Q (.bl (decide (x = .non))) H
def wQ:R2:=fun x y H Q=>y = .non∧Q (.bl (!decide (x = .non))) H
theorem ku {X:Cx}:OpR X (compareOp .Is) AC:=yb
theorem oO {X:Cx}:OpR X (compareOp .IsNot) wQ:=vY
theorem wR {H:Hp} {Q:VK} (h:Q (.bl true) H):AC .non .non H Q:=⟨rfl,h⟩
theorem wS {a:Addr} {H:Hp} {Q:VK} (h:Q (.bl false) H):AC (.ref a) .non H Q:=⟨rfl,h⟩
theorem uL {H:Hp} {Q:VK} (h:Q (.bl false) H):wQ .non .non H Q:=⟨rfl,h⟩
theorem uM {a:Addr} {H:Hp} {Q:VK} (h:Q (.bl true) H):wQ (.ref a) .non H Q:=⟨rfl,h⟩
theorem wT {C:Addr} {sp:Sp} {dvs:List V} {E:XK} {t:TA} {s:St} {H:Hp} {Q:VK} (h:t s H fun vs H1=>∀ x dx,aI H1 x→aI H1 dx→dx≠x→sp (.ref x :: (vs++dvs)) (upd (upd H1 dx (.own x)) x (.ins C dx [])) (fun v H2=>v = .non∧Q (.ref x) H2) E):pM C sp dvs E t s H Q:=h
theorem bL {K:PySem.W.Frag} {a:Addr} {xs:List V} {i:Int} {v:V} {H:Hp} {Q:VK} (e:SqL K H a xs) (hi:atI xs i=some v) (h:Q v H):wk K (.ref a) (.int i) H Q:=⟨a,xs,i,v,rfl,rfl,e,hi,h⟩
theorem yP {K:PySem.W.Frag} {a:Addr} {xs:List V} {i:Int} {v:V} {H:Hp} {Q:VK} (e:SqT K H a xs) (hi:atI xs i=some v) (h:Q v H):wm K (.ref a) (.int i) H Q:=⟨a,xs,i,v,rfl,rfl,e,hi,h⟩
theorem dJ {a b:Addr} {xs ys:List V} {H:Hp} {Q:VK} (e1:At H a (.lst xs)) (e2:At H b (.lst ys)) (hl:xs.length+ys.length≤sizeLine) (h:∀ p,aI H p→Q (.ref p) (upd H p (.lst (xs++ys)))):BQ (.ref a) (.ref b) H Q:=⟨a,b,xs,ys,rfl,rfl,e1,e2,hl,h⟩
theorem AD {r:V→Option Int→Option Int→Hp→VK→Prop} {te:TE} {tl th:TO} {s:St} {H:Hp} {Q:VK} (h:te s H fun x H1=>tl s H1 fun l H2=>th s H2 fun u H3=>r x l u H3 Q):tSl r te tl th s H Q:=h
theorem rH {s:St} {H:Hp} {Q:Option Int→Hp→Prop} (h:Q none H):qX s H Q:=h
theorem wU {t:TE} {s:St} {H:Hp} {Q:Option Int→Hp→Prop} (h:t s H fun x H1=>∃ i,x = .int i∧Q (some i) H1):yh t s H Q:=h
theorem gB {K:PySem.W.Frag} {a:Addr} {xs ys:List V} {lo hi:Option Int} {H:Hp} {Q:VK} (e:SqL K H a xs) (c:kg xs lo hi=ys) (h:∀ p,aI H p→Q (.ref p) (upd H p (.lst ys))):Ak K (.ref a) lo hi H Q:=⟨a,xs,rfl,e,c ▸ h⟩
theorem aJ {p A B:Prop} [Decidable p] (h1:p→A) (h2:¬ p→B):if decide p=true then A else B:=by
 by_cases h:p
 ·rw [decide_eq_true h];exact rj (h1 h)
 ·rw [decide_eq_false h];exact vv (h2 h)
theorem dR {p A B:Prop} [Decidable p] (h1:¬ p→A) (h2:p→B):if (!decide p)=true then A else B:=by
 by_cases h:p
 ·rw [decide_eq_true h];exact vv (h2 h)
 ·rw [decide_eq_false h];exact rj (h1 h)
theorem yQ {p A B:Prop} [Decidable p] (hp:¬ p) (h:B):if decide p=true then A else B:=aJ (fun z=>absurd z hp) (fun _=>h)
theorem aA {H:Hp} {a p:Addr} {o x:HO} (hp:aI H p) (h:At H a o):At (upd H p x) a o:=(aU (aH h hp)).trans h
theorem aP {H:Hp} {a p:Addr} {o x:HO} (ne:a≠p) (h:At H a o):At (upd H p x) a o:=(aU ne).trans h
theorem kx {H:Hp} {a p:Addr} {x:HO} (h:aI (upd H p x) a):aI H a∧a≠p:=by
 have h':upd H p x a=none:=h
 by_cases e:a=p
 ·subst e;rw [bz] at h';cases h'
 ·rw [aU e] at h';exact ⟨h',e⟩
theorem Same.get {H H':Hp} {a:Addr} {o:HO} (s:Same H H') (h:At H a o):At H' a o:=s a o h
theorem Same.new {H H':Hp} {p:Addr} {o:HO} (s:Same H H') (hp:aI H' p):Same H (upd H' p o):=bT s (s.free hp)
def Chg (S:List Addr) (H H':Hp):Prop:=∀ b o,b∉S→H b=some o→H' b=some o
theorem Chg.refl (S:List Addr) (H:Hp):Chg S H H:=fun _ _ _ h=>h
theorem Chg.trans {S:List Addr} {H H1 H2:Hp} (a:Chg S H H1) (b:Chg S H1 H2):Chg S H H2:=fun c o n h=>b c o n (a c o n h)
theorem Same.chg {S:List Addr} {H H':Hp} (s:Same H H'):Chg S H H':=fun c o _ h=>s c o h
theorem Chg.new {S:List Addr} {H H':Hp} {p:Addr} {o:HO} (s:Chg S H H') (hp:aI H' p):Chg S H (upd H' p o):=fun b u n h=>by
 have:=s b u n h
 exact aA hp this
theorem Chg.upd {S:List Addr} {H H':Hp} {p:Addr} {o:HO} (s:Chg S H H') (hp:p∈S):Chg S H (upd H' p o):=fun b u n h=>by
 have:=s b u n h
 exact aP (fun e=>n (e ▸ hp)) this
theorem Same.fr {H H':Hp} {p:Addr} (s:Same H H') (h:aI H' p):aI H p:=s.free h
theorem Same.upF {H H':Hp} {p:Addr} {o:HO} (s:Same H H') (h:aI H p):Same H (upd H' p o):=bT s h
theorem At.sqL {K:PySem.W.Frag} {H:Hp} {a:Addr} {xs:List V} (h:At H a (.lst xs)):SqL K H a xs:=SqL.of h
theorem At.sqT {K:PySem.W.Frag} {H:Hp} {a:Addr} {xs:List V} (h:At H a (.tup xs)):SqT K H a xs:=SqT.of h
theorem At.ne {H:Hp} {a b:Addr} {o u:HO} (h:At H a o) (h':At H b u) (d:o≠u):a≠b:=Ad h h' d
theorem Chg.fr {S:List Addr} {H H':Hp} {p:Addr} (s:Chg S H H') (n:p∉S) (h:aI H' p):aI H p:=by
 cases q:H p with
 | none=>exact q
 | some o=>
  have:=s p o n q
  rw [h] at this
  cases this
theorem aK {a b:Addr} (h:a≠b):a∉[b]:=by simp [h]
theorem lJ {a b c d:Addr} (h:a≠b) (h2:a≠c) (h3:a≠d):a∉[b,c,d]:=by simp [h,h2,h3]
theorem AE {v:V} {r:St} {H:Hp} {Q:VK} (h:Q v H):jP 0 (some v :: r) H Q:=⟨v,rfl,h⟩
theorem AF {v:V} {x:Option V} {r:St} {H:Hp} {Q:St→Hp→Prop} (h:Q (some v :: r) H):dk 0 v (x :: r) H Q:=h
theorem AG {v:V} {a0:Option V} {r:St} {H:Hp} {Q:VK} (h:Q v H):jP 1 (a0 :: some v :: r) H Q:=⟨v,rfl,h⟩
theorem AH {v:V} {x:Option V} {a0:Option V} {r:St} {H:Hp} {Q:St→Hp→Prop} (h:Q (a0 :: some v :: r) H):dk 1 v (a0 :: x :: r) H Q:=h
theorem AI {v:V} {a0 a1:Option V} {r:St} {H:Hp} {Q:VK} (h:Q v H):jP 2 (a0 :: a1 :: some v :: r) H Q:=⟨v,rfl,h⟩
theorem AJ {v:V} {x:Option V} {a0 a1:Option V} {r:St} {H:Hp} {Q:St→Hp→Prop} (h:Q (a0 :: a1 :: some v :: r) H):dk 2 v (a0 :: a1 :: x :: r) H Q:=h
theorem AK {v:V} {a0 a1 a2:Option V} {r:St} {H:Hp} {Q:VK} (h:Q v H):jP 3 (a0 :: a1 :: a2 :: some v :: r) H Q:=⟨v,rfl,h⟩
theorem AL {v:V} {x:Option V} {a0 a1 a2:Option V} {r:St} {H:Hp} {Q:St→Hp→Prop} (h:Q (a0 :: a1 :: a2 :: some v :: r) H):dk 3 v (a0 :: a1 :: a2 :: x :: r) H Q:=h
theorem AM {v:V} {a0 a1 a2 a3:Option V} {r:St} {H:Hp} {Q:VK} (h:Q v H):jP 4 (a0 :: a1 :: a2 :: a3 :: some v :: r) H Q:=⟨v,rfl,h⟩
theorem AN {v:V} {x:Option V} {a0 a1 a2 a3:Option V} {r:St} {H:Hp} {Q:St→Hp→Prop} (h:Q (a0 :: a1 :: a2 :: a3 :: some v :: r) H):dk 4 v (a0 :: a1 :: a2 :: a3 :: x :: r) H Q:=h
theorem AO {v:V} {a0 a1 a2 a3 a4:Option V} {r:St} {H:Hp} {Q:VK} (h:Q v H):jP 5 (a0 :: a1 :: a2 :: a3 :: a4 :: some v :: r) H Q:=⟨v,rfl,h⟩
theorem AQ {v:V} {x:Option V} {a0 a1 a2 a3 a4:Option V} {r:St} {H:Hp} {Q:St→Hp→Prop} (h:Q (a0 :: a1 :: a2 :: a3 :: a4 :: some v :: r) H):dk 5 v (a0 :: a1 :: a2 :: a3 :: a4 :: x :: r) H Q:=h
theorem AR {v:V} {a0 a1 a2 a3 a4 a5:Option V} {r:St} {H:Hp} {Q:VK} (h:Q v H):jP 6 (a0 :: a1 :: a2 :: a3 :: a4 :: a5 :: some v :: r) H Q:=⟨v,rfl,h⟩
theorem AS {v:V} {x:Option V} {a0 a1 a2 a3 a4 a5:Option V} {r:St} {H:Hp} {Q:St→Hp→Prop} (h:Q (a0 :: a1 :: a2 :: a3 :: a4 :: a5 :: some v :: r) H):dk 6 v (a0 :: a1 :: a2 :: a3 :: a4 :: a5 :: x :: r) H Q:=h
theorem AT {v:V} {a0 a1 a2 a3 a4 a5 a6:Option V} {r:St} {H:Hp} {Q:VK} (h:Q v H):jP 7 (a0 :: a1 :: a2 :: a3 :: a4 :: a5 :: a6 :: some v :: r) H Q:=⟨v,rfl,h⟩
theorem AU {v:V} {x:Option V} {a0 a1 a2 a3 a4 a5 a6:Option V} {r:St} {H:Hp} {Q:St→Hp→Prop} (h:Q (a0 :: a1 :: a2 :: a3 :: a4 :: a5 :: a6 :: some v :: r) H):dk 7 v (a0 :: a1 :: a2 :: a3 :: a4 :: a5 :: a6 :: x :: r) H Q:=h
theorem AV {v:V} {a0 a1 a2 a3 a4 a5 a6 a7:Option V} {r:St} {H:Hp} {Q:VK} (h:Q v H):jP 8 (a0 :: a1 :: a2 :: a3 :: a4 :: a5 :: a6 :: a7 :: some v :: r) H Q:=⟨v,rfl,h⟩
theorem AW {v:V} {x:Option V} {a0 a1 a2 a3 a4 a5 a6 a7:Option V} {r:St} {H:Hp} {Q:St→Hp→Prop} (h:Q (a0 :: a1 :: a2 :: a3 :: a4 :: a5 :: a6 :: a7 :: some v :: r) H):dk 8 v (a0 :: a1 :: a2 :: a3 :: a4 :: a5 :: a6 :: a7 :: x :: r) H Q:=h
theorem AX {v:V} {a0 a1 a2 a3 a4 a5 a6 a7 a8:Option V} {r:St} {H:Hp} {Q:VK} (h:Q v H):jP 9 (a0 :: a1 :: a2 :: a3 :: a4 :: a5 :: a6 :: a7 :: a8 :: some v :: r) H Q:=⟨v,rfl,h⟩
theorem AY {v:V} {x:Option V} {a0 a1 a2 a3 a4 a5 a6 a7 a8:Option V} {r:St} {H:Hp} {Q:St→Hp→Prop} (h:Q (a0 :: a1 :: a2 :: a3 :: a4 :: a5 :: a6 :: a7 :: a8 :: some v :: r) H):dk 9 v (a0 :: a1 :: a2 :: a3 :: a4 :: a5 :: a6 :: a7 :: a8 :: x :: r) H Q:=h
theorem yR {v:V} {a0 a1 a2 a3 a4 a5 a6 a7 a8 a9:Option V} {r:St} {H:Hp} {Q:VK} (h:Q v H):jP 10 (a0 :: a1 :: a2 :: a3 :: a4 :: a5 :: a6 :: a7 :: a8 :: a9 :: some v :: r) H Q:=⟨v,rfl,h⟩
theorem yS {v:V} {x:Option V} {a0 a1 a2 a3 a4 a5 a6 a7 a8 a9:Option V} {r:St} {H:Hp} {Q:St→Hp→Prop} (h:Q (a0 :: a1 :: a2 :: a3 :: a4 :: a5 :: a6 :: a7 :: a8 :: a9 :: some v :: r) H):dk 10 v (a0 :: a1 :: a2 :: a3 :: a4 :: a5 :: a6 :: a7 :: a8 :: a9 :: x :: r) H Q:=h
theorem yT {v:V} {a0 a1 a2 a3 a4 a5 a6 a7 a8 a9 a10:Option V} {r:St} {H:Hp} {Q:VK} (h:Q v H):jP 11 (a0 :: a1 :: a2 :: a3 :: a4 :: a5 :: a6 :: a7 :: a8 :: a9 :: a10 :: some v :: r) H Q:=⟨v,rfl,h⟩
theorem yU {v:V} {x:Option V} {a0 a1 a2 a3 a4 a5 a6 a7 a8 a9 a10:Option V} {r:St} {H:Hp} {Q:St→Hp→Prop} (h:Q (a0 :: a1 :: a2 :: a3 :: a4 :: a5 :: a6 :: a7 :: a8 :: a9 :: a10 :: some v :: r) H):dk 11 v (a0 :: a1 :: a2 :: a3 :: a4 :: a5 :: a6 :: a7 :: a8 :: a9 :: a10 :: x :: r) H Q:=h
theorem yV {v:V} {a0 a1 a2 a3 a4 a5 a6 a7 a8 a9 a10 a11:Option V} {r:St} {H:Hp} {Q:VK} (h:Q v H):jP 12 (a0 :: a1 :: a2 :: a3 :: a4 :: a5 :: a6 :: a7 :: a8 :: a9 :: a10 :: a11 :: some v :: r) H Q:=⟨v,rfl,h⟩
theorem yW {v:V} {x:Option V} {a0 a1 a2 a3 a4 a5 a6 a7 a8 a9 a10 a11:Option V} {r:St} {H:Hp} {Q:St→Hp→Prop} (h:Q (a0 :: a1 :: a2 :: a3 :: a4 :: a5 :: a6 :: a7 :: a8 :: a9 :: a10 :: a11 :: some v :: r) H):dk 12 v (a0 :: a1 :: a2 :: a3 :: a4 :: a5 :: a6 :: a7 :: a8 :: a9 :: a10 :: a11 :: x :: r) H Q:=h
end L2
set_option maxHeartbeats 4000000
namespace L2
open PySem PySem.Spec PyProof.Rows
def sp0 (f:Hp→VK→XK→Prop):Sp:=fun vs H Q E=>vs=[]∧f H Q E
def sp1 (f:V→Hp→VK→XK→Prop):Sp:=fun vs H Q E=>∃ a,vs=[a]∧f a H Q E
def sp2 (f:V→V→Hp→VK→XK→Prop):Sp:=fun vs H Q E=>∃ a b,vs=[a,b]∧f a b H Q E
def sp3 (f:V→V→V→Hp→VK→XK→Prop):Sp:=fun vs H Q E=>∃ a b c,vs=[a,b,c]∧f a b c H Q E
def sp4 (f:V→V→V→V→Hp→VK→XK→Prop):Sp:=fun vs H Q E=>∃ a b c d,vs=[a,b,c,d]∧f a b c d H Q E
theorem iA {f:V→Hp→VK→XK→Prop} {p:Str}:∀ vs H Q E,sp1 f vs H Q E→vs.length=[p].length:=by rintro _ _ _ _ ⟨_,rfl,_⟩;rfl
theorem gX {f:V→V→Hp→VK→XK→Prop} {p q:Str}:∀ vs H Q E,sp2 f vs H Q E→vs.length=[p,q].length:=by rintro _ _ _ _ ⟨_,_,rfl,_⟩;rfl
theorem Aa {f:V→V→V→Hp→VK→XK→Prop} {p q r:Str}:∀ vs H Q E,sp3 f vs H Q E→vs.length=[p,q,r].length:=by rintro _ _ _ _ ⟨_,_,_,rfl,_⟩;rfl
theorem BZ {f:V→V→V→V→Hp→VK→XK→Prop} {p q r t:Str}:∀ vs H Q E,sp4 f vs H Q E→vs.length=[p,q,r,t].length:=by rintro _ _ _ _ ⟨_,_,_,_,rfl,_⟩;rfl
theorem AZ {f:V→Hp→VK→XK→Prop} {a:V} {H:Hp} {Q:VK} {E:XK} (h:f a H Q E):sp1 f ([a]++[]) H Q E:=⟨a,rfl,h⟩
theorem A0 {f:V→V→Hp→VK→XK→Prop} {a b:V} {H:Hp} {Q:VK} {E:XK} (h:f a b H Q E):sp2 f ([a,b]++[]) H Q E:=⟨a,b,rfl,h⟩
theorem A3 {f:V→V→V→Hp→VK→XK→Prop} {a b c:V} {H:Hp} {Q:VK} {E:XK} (h:f a b c H Q E):sp3 f ([a,b,c]++[]) H Q E:=⟨a,b,c,rfl,h⟩
theorem A4 {f:V→V→V→V→Hp→VK→XK→Prop} {a b c d:V} {H:Hp} {Q:VK} {E:XK} (h:f a b c d H Q E):sp4 f ([a,b,c,d]++[]) H Q E:=⟨a,b,c,d,rfl,h⟩
theorem A6 {f:V→Hp→VK→XK→Prop} {a:V} {H:Hp} {Q:VK} {E:XK} (h:f a H Q E):sp1 f (a :: ([]++[])) H Q E:=⟨a,rfl,h⟩
theorem A7 {f:V→V→Hp→VK→XK→Prop} {a b:V} {H:Hp} {Q:VK} {E:XK} (h:f a b H Q E):sp2 f (a :: ([b]++[])) H Q E:=⟨a,b,rfl,h⟩
theorem A8 {f:V→V→V→Hp→VK→XK→Prop} {a b c:V} {H:Hp} {Q:VK} {E:XK} (h:f a b c H Q E):sp3 f (a :: ([b,c]++[])) H Q E:=⟨a,b,c,rfl,h⟩
def DefAt (K:PySem.W.Frag) (mg:Str→Option Value) (x:Str) (st:Stmt):Prop:=∃ f fd,Fun K x x st f fd∧mg x=some (.ref f)
def MethAt (K:PySem.W.Frag) (C:Addr) (m qual:Str) (st:Stmt):Prop:=∃ f fd,Fun K m qual st f fd∧Meth K C m f
def InitAt (K:PySem.W.Frag) (C:Addr) (qual:Str) (st:Stmt):Prop:=∃ f fd,Fun K "__init__" qual st f fd∧Mk K C f
def fI (P:Program) (w:World) (K:PySem.W.Frag) (mg:Str→Option Value) (base:Heap) (CX:CXT) (k:Nat) (x:Str) (ps:List Str) (sp:Sp):Prop:=
 ∃ f fd,FnOk P w K mg base CX k f fd ps sp∧Binds K fd ps []∧PySem.W.keepIn K (.ref f)=true∧mg x=some (.ref f)
def fR (P:Program) (w:World) (K:PySem.W.Frag) (mg:Str→Option Value) (base:Heap) (CX:CXT) (k:Nat) (C:Addr) (m:Str) (ps:List Str) (sp:Sp):Prop:=
 ∃ f fd,FnOk P w K mg base CX k f fd ps sp∧Binds K fd ps []∧Meth K C m f
def xP (P:Program) (w:World) (K:PySem.W.Frag) (mg:Str→Option Value) (base:Heap) (CX:CXT) (k:Nat) (C:Addr) (ps:List Str) (sp:Sp):Prop:=
 ∃ f fd,FnOk P w K mg base CX k f fd ps sp∧Binds K fd ps []∧Mk K C f
section
variable {P:Program} {w:World} {K:PySem.W.Frag} {mg:Str→Option Value} {base:Heap}
abbrev lK (x qual:Str) (st:Stmt) (ps:List Str):Prop:=∀ (kV doc pm:Value) (an:Option Addr) (cdv ct:Value) (us:List Value),us.length=ps.length→bindArgs (PySem.W.fnOf x qual (gZ st) (bR st) (ai st) .none kV doc pm an cdv ct) ⟨us,[]⟩=pure (ps.zip us)
theorem DefAt.ok {x:Str} {st:Stmt} {N ps:List Str} {k:Nat} {sp:Sp} (D:DefAt K mg x st) (S:FnScope N ps (ai st)) (hb:lK x x st ps) (len:∀ vs H Q E,sp vs H Q E→vs.length=ps.length)
  (hbody:∀ (f:Addr) (cdv:Value) (A:Around) (outer:List Env) (s:Shared) (H:Hp) (vs:List V) (Q:VK) (E:XK),Room k (A.deeper (envOfC x (ai st) s.heap.objs.size f cdv))→sp vs H Q E →
   ∃ t,PSs (bv CX0 P w K mg base N x (ai st) f cdv A outer s H E).nox (bR st) t∧t {nx:=fun _ H'=>Q .non H',rt:=Q} (start N vs) H):fI P w K mg base CX0 (k+1) x ps sp:=by
 obtain ⟨f,fd,F,m⟩:=D
 exact ⟨f,fd,F.ok S len (hbody f),F.binds hb,F.kp,m⟩
theorem DefAt.okE {x:Str} {st:Stmt} {N ps:List Str} {k:Nat} {sp:Sp} (D:DefAt K mg x st) (S:FnScope N ps (ai st)) (hb:lK x x st ps) (len:∀ vs H Q E,sp vs H Q E→vs.length=ps.length)
  (hbody:∀ (f:Addr) (cdv:Value) (A:Around) (outer:List Env) (s:Shared) (H:Hp) (vs:List V) (Q:VK) (E:XK),Room k (A.deeper (envOfC x (ai st) s.heap.objs.size f cdv))→sp vs H Q E →
   ∃ t,PSs (bv (CXe P w) P w K mg base N x (ai st) f cdv A outer s H E) (bR st) t∧t {nx:=fun _ H'=>Q .non H',rt:=Q} (start N vs) H):fI P w K mg base (CXe P w) (k+1) x ps sp:=by
 obtain ⟨f,fd,F,m⟩:=D
 exact ⟨f,fd,F.okE S len (hbody f),F.binds hb,F.kp,m⟩
theorem MethAt.ok {C:Addr} {m qual:Str} {st:Stmt} {N ps:List Str} {k:Nat} {sp:Sp} (D:MethAt K C m qual st) (S:FnScope N ps (ai st)) (hb:lK m qual st ps) (len:∀ vs H Q E,sp vs H Q E→vs.length=ps.length)
  (hbody:∀ (f:Addr) (cdv:Value) (A:Around) (outer:List Env) (s:Shared) (H:Hp) (vs:List V) (Q:VK) (E:XK),Room k (A.deeper (envOfC qual (ai st) s.heap.objs.size f cdv))→sp vs H Q E →
   ∃ t,PSs (bv CX0 P w K mg base N qual (ai st) f cdv A outer s H E).nox (bR st) t∧t {nx:=fun _ H'=>Q .non H',rt:=Q} (start N vs) H):fR P w K mg base CX0 (k+1) C m ps sp:=by
 obtain ⟨f,fd,F,m⟩:=D
 exact ⟨f,fd,F.ok S len (hbody f),F.binds hb,m⟩
theorem MethAt.okE {C:Addr} {m qual:Str} {st:Stmt} {N ps:List Str} {k:Nat} {sp:Sp} (D:MethAt K C m qual st) (S:FnScope N ps (ai st)) (hb:lK m qual st ps) (len:∀ vs H Q E,sp vs H Q E→vs.length=ps.length)
  (hbody:∀ (f:Addr) (cdv:Value) (A:Around) (outer:List Env) (s:Shared) (H:Hp) (vs:List V) (Q:VK) (E:XK),Room k (A.deeper (envOfC qual (ai st) s.heap.objs.size f cdv))→sp vs H Q E →
   ∃ t,PSs (bv (CXe P w) P w K mg base N qual (ai st) f cdv A outer s H E) (bR st) t∧t {nx:=fun _ H'=>Q .non H',rt:=Q} (start N vs) H):fR P w K mg base (CXe P w) (k+1) C m ps sp:=by
 obtain ⟨f,fd,F,m⟩:=D
 exact ⟨f,fd,F.okE S len (hbody f),F.binds hb,m⟩
theorem InitAt.ok {C:Addr} {qual:Str} {st:Stmt} {N ps:List Str} {k:Nat} {sp:Sp} (D:InitAt K C qual st) (S:FnScope N ps (ai st)) (hb:lK "__init__" qual st ps) (len:∀ vs H Q E,sp vs H Q E→vs.length=ps.length)
  (hbody:∀ (f:Addr) (cdv:Value) (A:Around) (outer:List Env) (s:Shared) (H:Hp) (vs:List V) (Q:VK) (E:XK),Room k (A.deeper (envOfC qual (ai st) s.heap.objs.size f cdv))→sp vs H Q E →
   ∃ t,PSs (bv CX0 P w K mg base N qual (ai st) f cdv A outer s H E).nox (bR st) t∧t {nx:=fun _ H'=>Q .non H',rt:=Q} (start N vs) H):xP P w K mg base CX0 (k+1) C ps sp:=by
 obtain ⟨f,fd,F,m⟩:=D
 exact ⟨f,fd,F.ok S len (hbody f),F.binds hb,m⟩
end
theorem oP {P:Program} {w:World} {X:Cx}:cA (CXe P w) X E0:=fun _ _ _ _ _ _ _ ⟨_,_,_,_,_,_,_,h⟩=>h.elim
section
variable {X:Cx} {CX:CXT} {j k:Nat} {x m:Str} {C:Addr} {ps:List Str} {sp:Sp} {E:XK} {p pos apos:Pos} {e o:Expr} {es:List Expr} {t:TA} {ta:TE}
theorem cj (G:fI X.prog X.w X.K X.mg X.base CX j x ps sp) (hr:Room k X.A) (hx:cA CX X E) (ha:PA X (e :: es) t) (hjk:j≤k:=by decide) (hg:Gl X x:=by rfl) (hdb:(x == ("__debug__" : Str))=false:=by decide)
  (he:starEach (e :: es) X.env=(false,eval e X.env) :: starEach es X.env:=by rfl) (hpl:(backTo pos (starEach es X.env)).any (·.1)=false:=by rfl):PE X (.Call (.Name x p) (e :: es) [] pos) (qU sp [] E t):=by
 obtain ⟨f,fd,F,b,kp,mm⟩:=G
 exact we F (hr.mono hjk) hg mm kp b .nil hx ha hdb he hpl
theorem gq {pl:Sem Bool} (c:Cls X.K C) (G:fR X.prog X.w X.K X.mg X.base CX j C m ps sp) (hr:Room k X.A) (hx:cA CX X E) (he:PE X o ta) (ha:PA X (e :: es) t) (hjk:j≤k:=by decide)
  (hst:starEach (e :: es) X.env=(false,eval e X.env) :: starEach es X.env:=by rfl) (hpl:(backTo pos (starEach es X.env)).any (·.1)=false:=by rfl)
  (ht:eval (.Call (.Attribute o m apos) (e :: es) [] pos) X.env=(do
   let ov ← eval o X.env
   standAt apos.atName
   let (f,first) ← holding [ov] (getMethod ov m pl)
   callWith pos f first (backTo pos (starEach (e :: es) X.env)) (backToKw pos (keywordEach [] X.env))):=by rfl) :
  PE X (.Call (.Attribute o m apos) (e :: es) [] pos) (li C m sp [] E ta t):=by
 obtain ⟨f,fd,F,b,mm⟩:=G
 exact wf he c mm F (hr.mono hjk) b .nil hx ha hst hpl ht
theorem g4 {pl:Sem Bool} (c:Cls X.K C) (G:fR X.prog X.w X.K X.mg X.base CX j C m ps sp) (hr:Room k X.A) (hx:cA CX X E) (he:PE X o ta) (hjk:j≤k:=by decide)
  (ht:eval (.Call (.Attribute o m apos) [] [] pos) X.env=(do
   let ov ← eval o X.env
   standAt apos.atName
   let (f,first) ← holding [ov] (getMethod ov m pl)
   callWith pos f first (backTo pos (starEach [] X.env)) (backToKw pos (keywordEach [] X.env))):=by rfl) :
  PE X (.Call (.Attribute o m apos) [] [] pos) (li C m sp [] E ta vr):=by
 obtain ⟨f,fd,F,b,mm⟩:=G
 exact ub he c mm F (hr.mono hjk) b .nil hx ht
theorem A9 (G:xP X.prog X.w X.K X.mg X.base CX j C ps sp) (hr:Room k X.A) (hm:X.mg x=some (.ref C)) (hx:cA CX X E) (ha:PA X (e :: es) t) (hjk:j+1≤k:=by decide) (hg:Gl X x:=by rfl) (hdb:(x == ("__debug__" : Str))=false:=by decide)
  (he:starEach (e :: es) X.env=(false,eval e X.env) :: starEach es X.env:=by rfl) (hpl:(backTo pos (starEach es X.env)).any (·.1)=false:=by rfl):PE X (.Call (.Name x p) (e :: es) [] pos) (pM C sp [] E t):=by
 obtain ⟨f,fd,F,b,mm⟩:=G
 exact wg mm F (hr.mono hjk) hg hm b .nil hx ha hdb he hpl
theorem rJ (G:xP X.prog X.w X.K X.mg X.base CX j C ps sp) (hr:Room k X.A) (hm:X.mg x=some (.ref C)) (hx:cA CX X E) (hjk:j+1≤k:=by decide) (hg:Gl X x:=by rfl) (hdb:(x == ("__debug__" : Str))=false:=by decide) :
  PE X (.Call (.Name x p) [] [] pos) (pM C sp [] E vr):=by
 obtain ⟨f,fd,F,b,mm⟩:=G
 exact uc mm F (hr.mono hjk) hg hm b .nil hx hdb
end
theorem pgi {X:Cx} {x:Str} {i:Int} {pos:Pos} (hm:∃ t,X.mg x=some (.int i t)) (hg:Gl X x:=by rfl) (hd:(x == ("__debug__" : Str))=false:=by decide):PE X (.Name x pos) (tC (.int i)):=let ⟨_,h⟩:=hm;mW hg h ⟨_,rfl⟩ hd
theorem pgs {X:Cx} {x:Str} {i:Str} {pos:Pos} (hm:∃ t,X.mg x=some (.str i t)) (hg:Gl X x:=by rfl) (hd:(x == ("__debug__" : Str))=false:=by decide):PE X (.Name x pos) (tC (.str i)):=let ⟨_,h⟩:=hm;mW hg h ⟨_,rfl⟩ hd
theorem pgr {X:Cx} {x:Str} {a:Addr} {pos:Pos} (hm:X.mg x=some (.ref a)) (hg:Gl X x:=by rfl) (hd:(x == ("__debug__" : Str))=false:=by decide):PE X (.Name x pos) (tC (.ref a)):=mW hg hm rfl hd
theorem pty {X:Cx} {x:Str} {n:String} {pos:Pos} (hm:X.mg x=none) (hv:bootBuiltins x=some (.type n)) (hg:Gl X x:=by rfl) (hn:x ≠ "__name__" := by decide) (hd:(x == ("__debug__" : Str))=false:=by decide):PE X (.Name x pos) (tC (.ty n)):=vR hg hm hv rfl hn hd
end L2
set_option maxHeartbeats 4000000
namespace L2
open PySem PySem.Spec PyProof.Rows
theorem aD {H:Hp} {a b:Addr} {o:HO} (h':aI H b) (h:At H a o):a≠b:=aH h h'
def rdF (w p c:V):List (Str×V):=[("wire",w),("plain",p),("choices",c)]
theorem nl {w p c v:V}:eI "choices" v (rdF w p c)=rdF w p v:=by rfl
def ndF (st ps rd sn qu tk fc:V):List (Str×V):=[("state",st),("passed",ps),("reading",rd),("sending",sn),("queue",qu),("taken",tk),("fault_count",fc)]
section
variable {st ps rd sn qu tk fc v:V}
theorem rK:eI "state" v (ndF st ps rd sn qu tk fc)=ndF v ps rd sn qu tk fc:=by rfl
theorem pV:eI "passed" v (ndF st ps rd sn qu tk fc)=ndF st v rd sn qu tk fc:=by rfl
theorem nq:eI "reading" v (ndF st ps rd sn qu tk fc)=ndF st ps v sn qu tk fc:=by rfl
theorem nr:eI "sending" v (ndF st ps rd sn qu tk fc)=ndF st ps rd v qu tk fc:=by rfl
theorem iZ:eI "fault_count" v (ndF st ps rd sn qu tk fc)=ndF st ps rd sn qu tk v:=by rfl
end
def buF (ns bp:V):List (Str×V):=[("nodes",ns),("bits_past",bp)]
theorem ky {a b v:V}:eI "bits_past" v (buF a b)=buF a v:=by rfl
theorem lL {l:Addr} {k:Int} {xs:List V} {H:Hp} {Q:VK} (e:At H l (.lst xs)) (h1 : -(2 ^ 63)≤k) (h2:k < 2 ^ 63) (h3:xs.length * k.toNat≤sizeLine) (h:∀ p,aI H p→Q (.ref p) (upd H p (.lst (List.replicate k.toNat xs).flatten))):BR (.ref l) (.int k) H Q:=
 ⟨l,k,xs,rfl,rfl,e,h1,h2,h3,h⟩
theorem cW {K:PySem.W.Frag} {tl:TE} {g:TG} {tb:TS} {D:Ends} {s:St} {H:Hp} (h:tl s H fun x H1=>∃ a,x = .ref a∧(∃ xs,SqL K H1 a xs)∧∃ W:Nat→Nat→St→Hp→Prop,(∃ m,W 0 m s H1)∧∀ i m σ H,W i m σ H →
 ((Itl K a).stop i H∧D.nx σ H)∨((Itl K a).go i H∧∃ N:St→Hp→Prop,(∀ σ' H',N σ' H'→∃ m',m' < m∧W (i+1) m' σ' H')∧∀ x H',(Itl K a).yld i H x H'→g x σ H' fun σ2 H2=>tb {D with nx:=N,ct:=N,bk:=D.nx} σ2 H2)):Af (t0 K tl) g tb D s H:=h
theorem bU {K:PySem.W.Frag} {g:TG} {tb:TS} {D:Ends} {s:St} {H:Hp} {a:Addr} {xs:List V} (Pv:Nat→St→Hp→Prop) (e:SqL K H a xs) (h0:Pv 0 s H) (hl:∀ i σ H,i≤xs.length→Pv i σ H→SqL K H a xs)
  (hs:∀ i x σ H,xs[i]? = some x→Pv i σ H→g x σ H fun σ2 H2=>tb {D with nx:=Pv (i+1),ct:=Pv (i+1),bk:=D.nx} σ2 H2) (hd:∀ σ H,Pv xs.length σ H→D.nx σ H) :
  ∃ a',V.ref a = .ref a'∧(∃ xs,SqL K H a' xs)∧∃ W:Nat→Nat→St→Hp→Prop,(∃ m,W 0 m s H)∧∀ i m σ H,W i m σ H →
 ((Itl K a').stop i H∧D.nx σ H)∨((Itl K a').go i H∧∃ N:St→Hp→Prop,(∀ σ' H',N σ' H'→∃ m',m' < m∧W (i+1) m' σ' H')∧∀ x H',(Itl K a').yld i H x H'→g x σ H' fun σ2 H2=>tb {D with nx:=N,ct:=N,bk:=D.nx} σ2 H2):=
 ⟨a,rfl,⟨xs,e⟩,t5 Pv h0 hl hs hd⟩
theorem g5 {ta:TA} {g:TG} {tb:TS} {D:Ends} {s:St} {H:Hp} (h:ta s H fun vs H1=>∃ j:Int,vs=[.int j] ∧ -(2 ^ 62)≤j∧j < 2 ^ 62∧∃ W:Nat→Nat→St→Hp→Prop,(∃ m,W 0 m s H1)∧∀ i m σ H,W i m σ H →
 ((Itr 0 j.toNat).stop i H∧D.nx σ H)∨((Itr 0 j.toNat).go i H∧∃ N:St→Hp→Prop,(∀ σ' H',N σ' H'→∃ m',m' < m∧W (i+1) m' σ' H')∧∀ x H',(Itr 0 j.toNat).yld i H x H'→g x σ H' fun σ2 H2=>tb {D with nx:=N,ct:=N,bk:=D.nx} σ2 H2)):Af (vW ta) g tb D s H:=h
theorem eK {g:TG} {tb:TS} {D:Ends} {s:St} {H:Hp} {j:Int} (n:Nat) (Pv:Nat→St→Hp→Prop) (e:j.toNat=n) (hn:j < 2 ^ 62 ∧ -(2 ^ 62)≤j) (h0:Pv 0 s H)
  (hs:∀ i σ H,i < n→Pv i σ H→g (.int (i:Int)) σ H fun σ2 H2=>tb {D with nx:=Pv (i+1),ct:=Pv (i+1),bk:=D.nx} σ2 H2) (hd:∀ σ H,Pv n σ H→D.nx σ H) :
  ∃ j':Int,[V.int j]=[.int j'] ∧ -(2 ^ 62)≤j'∧j' < 2 ^ 62∧∃ W:Nat→Nat→St→Hp→Prop,(∃ m,W 0 m s H)∧∀ i m σ H,W i m σ H →
 ((Itr 0 j'.toNat).stop i H∧D.nx σ H)∨((Itr 0 j'.toNat).go i H∧∃ N:St→Hp→Prop,(∀ σ' H',N σ' H'→∃ m',m' < m∧W (i+1) m' σ' H')∧∀ x H',(Itr 0 j'.toNat).yld i H x H'→g x σ H' fun σ2 H2=>tb {D with nx:=N,ct:=N,bk:=D.nx} σ2 H2):=by
 refine ⟨j,rfl,hn.2,hn.1,?_⟩
 rw [e]
 exact qO Pv h0 (fun i σ H hi hp=>by rw [Int.zero_add];exact hs i σ H hi hp) hd
theorem bB {K:PySem.W.Frag} {tl:TE} {tt:TT} {te:TE} {js:List Nat} {s:St} {H:Hp} {Q:VK} (h:tl s H fun x H1=>∃ a,x = .ref a∧(∃ xs,SqL K H1 a xs)∧∀ D,aI H1 D→∃ W:Nat→Nat→List V→Hp→Prop,(∃ n,W 0 n [] (upd H1 D (.lst [])))∧dQ (Itl K a) tt te (mT s js) D W Q):km (t0 K tl) tt te js s H Q:=h
theorem kz {ta:TA} {tt:TT} {te:TE} {js:List Nat} {s:St} {H:Hp} {Q:VK} (h:ta s H fun vs H1=>∃ j:Int,vs=[.int j] ∧ -(2 ^ 62)≤j∧j < 2 ^ 62∧∀ D,aI H1 D→∃ W:Nat→Nat→List V→Hp→Prop,(∃ n,W 0 n [] (upd H1 D (.lst [])))∧dQ (Itr 0 j.toNat) tt te (mT s js) D W Q):km (vW ta) tt te js s H Q:=h
theorem gC {K:PySem.W.Frag} {te:TE} {caps:St} {H:Hp} {Q:VK} {a:Addr} {xs:List V} (f:V→V) (e:SqL K H a xs) (hn:xs.length≤sizeLine)
  (he:∀ (i:Nat) (x:V) (H':Hp) (R:VK),xs[i]? = some x→Same H H'→(∀ H2,Same H' H2→R (f x) H2)→te (caps++[some x]) H' R)
  (hQ:∀ D Hf,Same H Hf→aI H D→Hf D=some (.lst (xs.map f))→Q (.ref D) Hf) :
  ∃ a',V.ref a = .ref a'∧(∃ xs,SqL K H a' xs)∧∀ D,aI H D→∃ W:Nat→Nat→List V→Hp→Prop,(∃ n,W 0 n [] (upd H D (.lst [])))∧dQ (Itl K a') bo te caps D W Q:=
 ⟨a,rfl,⟨xs,e⟩,fun D hD=>ur f hD hn e he fun Hf s1 e1=>hQ D Hf s1 hD e1⟩
theorem rL {te:TE} {caps:St} {H:Hp} {Q:VK} {j:Int} (n:Nat) (f:Nat→V) (e:j.toNat=n) (hj:j < 2 ^ 62 ∧ -(2 ^ 62)≤j) (hn:n≤sizeLine)
  (he:∀ (i:Nat) (H':Hp) (R:VK),i < n→Same H H'→(∀ H2,Same H' H2→R (f i) H2)→te (caps++[some (.int (i:Int))]) H' R)
  (hQ:∀ D Hf,Same H Hf→aI H D→Hf D=some (.lst ((List.range n).map f))→Q (.ref D) Hf) :
  ∃ j':Int,[V.int j]=[.int j'] ∧ -(2 ^ 62)≤j'∧j' < 2 ^ 62∧∀ D,aI H D→∃ W:Nat→Nat→List V→Hp→Prop,(∃ n,W 0 n [] (upd H D (.lst [])))∧dQ (Itr 0 j'.toNat) bo te caps D W Q:=by
 refine ⟨j,rfl,hj.2,hj.1,fun D hD => ?_⟩
 rw [e]
 exact uq f hD hn (fun i H' R hi s1 hR=>by rw [Int.zero_add];exact he i H' R hi s1 hR) fun Hf s1 e1=>hQ D Hf s1 hD e1
theorem dn {l:List Int} {j:Nat} (h:j < l.length):atI (l.map V.int) (j:Int)=some (.int (l.getD j 0)):=by
 refine kh ?_
 rw [List.getElem?_map,List.getElem?_eq_getElem h]
 simp [List.getD_eq_getElem?_getD,h]
theorem wV {n j:Nat} (h:j < n):ixN n (j:Int)=some j:=by
 unfold ixN
 rw [if_pos (by omega),if_pos (by omega)]
 simp
theorem map_set (l:List Int) (j:Nat) (x:Int):(l.map V.int).set j (.int x)=(l.set j x).map V.int:=by
 rw [List.map_set]
theorem cC {bs:List Int} {i:Nat} {y:V} (h:(bs.map V.int)[i]? = some y):∃ b,bs[i]? = some b∧y = .int b:=by
 rw [List.getElem?_map] at h
 cases e:bs[i]? with
 | none=>rw [e] at h;cases h
 | some b=>rw [e] at h;exact ⟨b,rfl,(Option.some.inj h).symm⟩
theorem gD {α β:Type} {f:α→β→α} {a:α} {l:List β} {i:Nat} {b:β} (h:l[i]? = some b):(l.take (i+1)).foldl f a=f ((l.take i).foldl f a) b:=by
 have hi:=(List.getElem?_eq_some_iff.mp h)
 obtain ⟨hi,e⟩:=hi
 rw [List.take_succ_eq_append_getElem hi,List.foldl_append,e]
 rfl
theorem oQ (i:Int) (l:List Int):inV (.int i) (l.map V.int)=l.contains i:=by
 unfold inV
 rw [List.any_map]
 induction l with
 | nil=>rfl
 | cons a l ih=>
  rw [List.any_cons,ih,List.contains_cons]
  congr 1
  show (a == i)=(i == a)
  exact Bool.eq_iff_iff.mpr ⟨fun h=>by simpa using (beq_iff_eq.mp h).symm,fun h=>by simpa using (beq_iff_eq.mp h).symm⟩
theorem lM (l:List Int):(l.map V.int).all iT=true:=by
 rw [List.all_eq_true]
 intro x hx
 obtain ⟨_,_,rfl⟩:=List.mem_map.mp hx
 rfl
theorem wW (xs:List V) (a b:Nat):kg xs (some (a:Int)) (some (b:Int))=(xs.take b).drop a:=by
 unfold kg
 rw [HT.sIx_nat,HT.sIx_nat]
 rcases Nat.le_total a xs.length with h | h
 ·rw [Nat.min_eq_left h,List.drop_take]
  rcases Nat.le_total b xs.length with h2 | h2
  ·rw [Nat.min_eq_left h2]
  ·rw [Nat.min_eq_right h2,List.take_of_length_le (by rw [List.length_drop];omega),List.take_of_length_le (by rw [List.length_drop];omega)]
 ·rw [Nat.min_eq_right h,List.drop_eq_nil_of_le (Nat.le_refl _),List.drop_eq_nil_of_le (by rw [List.length_take];omega)]
  simp
theorem oR (xs:List V) (a:Nat):kg xs (some (a:Int)) none=xs.drop a:=by
 unfold kg
 rw [HT.sIx_nat,HT.sIx_none]
 rcases Nat.le_total a xs.length with h | h
 ·rw [Nat.min_eq_left h,List.take_of_length_le (by rw [List.length_drop];omega)]
 ·rw [Nat.min_eq_right h,List.drop_eq_nil_of_le (Nat.le_refl _),List.drop_eq_nil_of_le h]
  simp
theorem vB (xs:List V) (b:Nat):kg xs none (some (b:Int))=xs.take b:=by
 unfold kg
 rw [HT.sIx_nat,HT.sIx_none,Nat.sub_zero,List.drop_zero]
 rcases Nat.le_total b xs.length with h | h
 ·rw [Nat.min_eq_left h]
 ·rw [Nat.min_eq_right h,List.take_of_length_le (Nat.le_refl _),List.take_of_length_le h]
def RcK (K:PySem.W.Frag) (H:Hp) (n:Nat) (x y:V) (b:Bool):Prop:=∀ X:Cx,X.K=K→RcW X H n x y b
def EqK (K:PySem.W.Frag) (H:Hp) (n:Nat) (x y:V) (b:Bool):Prop:=∀ X:Cx,X.K=K→EqW X H n x y b
def Ba (K:PySem.W.Frag):R2:=fun x y H Q=>∃ b,RcK K H 8 x y b∧Q (.bl b) H
def Ab (K:PySem.W.Frag):R2:=fun x y H Q=>∃ b,RcK K H 8 x y b∧Q (.bl (!b)) H
def yX (K:PySem.W.Frag):R2:=fun x y H Q=>∃ t p1 p2 b1 b2,y = .ref t∧SqT K H t [.ref p1,.ref p2]∧p1≠p2∧EqK K H 8 (.ref p1) x b1∧EqK K H 8 (.ref p2) x b2∧Q (.bl (b1 || b2)) H
section
variable {X:Cx} {K:PySem.W.Frag}
theorem yY {k:Nat} (hr:Room k X.A):OpR X (compareOp .Eq) (Ba X.K):=fun pins s σ H x y v u Q I rx ry ⟨b,h,q⟩=>yp hr pins s σ H x y v u Q I rx ry ⟨b,h X rfl,q⟩
theorem yZ {k:Nat} (hr:Room k X.A):OpR X (compareOp .NotEq) (Ab X.K):=fun pins s σ H x y v u Q I rx ry ⟨b,h,q⟩=>yq hr pins s σ H x y v u Q I rx ry ⟨b,h X rfl,q⟩
theorem wX {k:Nat} (hr:Room k X.A):OpR X (compareOp .In) (yX X.K):=fun pins s σ H x y v u Q I rx ry ⟨t,p1,p2,b1,b2,e,hs,hn,h1,h2,q⟩=>yw hr pins s σ H x y v u Q I rx ry ⟨t,p1,p2,b1,b2,e,hs,hn,h1 X rfl,h2 X rfl,q⟩
theorem uN {H:Hp} {a b:Addr} {xs ys:List Int} (ha:SqL K H a (xs.map V.int)) (hb:SqL K H b (ys.map V.int)):RcK K H 8 (.ref a) (.ref b) (decide (xs=ys)):=fun X e=>by subst e;exact oM ha hb
theorem oS {H:Hp} {a b:Addr} {xs ys:List Int} (ha:At H a (.lst (xs.map V.int))) (hb:At H b (.lst (ys.map V.int))):EqK K H 8 (.ref a) (.ref b) (decide (xs=ys)):=fun X e=>by subst e;exact uB ha hb
theorem wY {H:Hp} {a b:Addr} {xs ys:List Int} {Q:VK} (ha:SqL K H a (xs.map V.int)) (hb:SqL K H b (ys.map V.int)) (h:Q (.bl (decide (xs=ys))) H):Ba K (.ref a) (.ref b) H Q:=⟨_,uN ha hb,h⟩
end
theorem SqL.new {K:PySem.W.Frag} {H:Hp} {a p:Addr} {xs:List V} {o:HO} (hp:aI H p) (h:SqL K H a xs):SqL K (upd H p o) a xs:=(ap hp o).seq h
theorem Bb {H:Hp} {a:Addr} {o:HO} (h:At H a o):At H a o:=h
theorem y3 {K:PySem.W.Frag} {H:Hp} {a:Addr} {xs:List V} (h:SqL K H a xs):SqL K H a xs:=h
theorem y4 {K:PySem.W.Frag} {H:Hp} {a:Addr} {xs:List V} (h:SqT K H a xs):SqT K H a xs:=h
theorem rM {H:Hp} {a b:Addr} (h':aI H b) (h:∃ o,At H a o):a≠b:=let ⟨_,e⟩:=h;aH e h'
section
variable {K:PySem.W.Frag} {f m:Str} {a C:Addr} {H:Hp} {Q:VK} {N:Hp→Prop} {y:V} {i j:Int} {A:Prop}
theorem CJ {R:Int→Int→Prop} {g:Int→Int→V} (h:rI R g (.int i) (.int j) H Q):rI R g (.int i) (.int j) H Q:=h
theorem y7 (h:zZ K f (.ref a) H Q):zZ K f (.ref a) H Q:=h
theorem wZ (h:uE K f y (.ref a) H N):uE K f y (.ref a) H N:=h
theorem w5 {N:Addr→Addr→V→Hp→Prop} (h:uG K f N (.ref a) H):uG K f N (.ref a) H:=h
theorem w6 (h:uH f a C y H N):uH f a C y H N:=h
theorem w8 {N:V→Hp→Prop} (h:uI C m N (.ref a) H):uI C m N (.ref a) H:=h
theorem vC (h:pT K [.ref a] H Q):pT K [.ref a] H Q:=h
theorem w9 (h:lI K [.ref a] H Q):lI K [.ref a] H Q:=h
theorem y8 (h:wk K (.ref a) (.int i) H Q):wk K (.ref a) (.int i) H Q:=h
theorem y9 (h:wm K (.ref a) (.int i) H Q):wm K (.ref a) (.int i) H Q:=h
theorem za (h:tyV K "list" (.ref a) H∧A):tyV K "list" (.ref a) H∧A:=h
theorem zb {Q:Bool→Hp→Prop} (h:rG K (.ref a) H Q):rG K (.ref a) H Q:=h
end
end L2
set_option maxHeartbeats 4000000
namespace L2
open PySem PySem.Spec PyProof.Rows
def Its (lo c:Int) (n:Nat):It:=⟨fun i _=>i < n,fun i H x H'=>H'=H∧x = .int (lo+(i:Nat) * c),fun i _=>n≤i⟩
theorem nu {P:Program} {w:World} {K:PySem.W.Frag} {tg:Expr} (it:Addr) (lo c:Int) (n:Nat):Turn P w K tg (Its lo c n) [it] it (fun i h=>IsRangeIter h it (lo+(i:Nat) * c) ((n:Int) - (i:Nat)) c) where
 mem:=by simp
 obj:=fun i h st b hb=>by
  have e:b=it:=by simpa using hb
  subst e
  exact ⟨_,st,fun v z=>by
   have z':Data.fields _=Data.cell v:=z
   cases z'⟩
 keep:=fun i h h' st k=>k it (by simp) _ st
 item:=by
  intro X hP hw hK hc i pins s σ H E I hf st hg
  subst hP hw hK
  obtain ⟨f0,f1,f2,f3,f4,f5⟩:=hf it (by simp)
  have W:=Walks.range (prog:=X.prog) (w:=X.w) (I.ok.hd hc) it lo c n
  refine W.item i s _ _ hg st fun v h' tk hv st' kk => ?_
  obtain ⟨t,rfl⟩:=hv
  have I1:Inv X pins σ H {s with heap:=h',toks:=tk}:=I.turned (fun b o hb e=>kk b o (by simpa using hb) e) f0 f1 f3 f4 f5
  exact ⟨_,rfl,vU (s:={s with heap:=h',toks:=tk}) (n := "range_iterator") st' rfl rfl (by decide) ⟨.int (lo+(i:Nat) * c),H,I1,⟨t,rfl⟩,⟨rfl,rfl⟩,st',fun b hb=>(hf b hb).1⟩⟩
 done:=by
  intro X hP hw hK hc i pins s σ H E I hf st hg
  subst hP hw hK
  obtain ⟨f0,f1,f2,f3,f4,f5⟩:=hf it (by simp)
  exact wpAny_pyNext_range_end (I.ok.hd hc) st (by have:n≤i:=hg;omega) fun h' eb=>⟨rfl,I.turned (t':=s.toks) (fun b o hb e=>eb b o hb e) f0 f1 f3 f4 f5⟩
 self:=fun _ _ _ _ _ st h=>wpAny_pyIter_rangeiter st h
section
variable {X:Cx} {tg:Expr}
theorem i0 {i j:Int} {n:Nat} (e:j=i+8 * n):Builtin.Range.rangeSize i j 8=n:=by
 unfold Builtin.Range.rangeSize
 rw [if_pos (by decide)]
 split <;> omega
theorem xa {i j:Int} {n:Nat} (h0:0≤i) (e:j=i+8 * n) (h1:j≤100000):Builtin.Range.small i j 8=true:=by
 unfold Builtin.Range.small
 rw [i0 e]
 simp only [Builtin.Range.rangeFitsLong,Bool.and_eq_true,Bool.or_eq_true,decide_eq_true_eq,beq_iff_eq,show (8:Int) > 0 by decide,if_true]
 omega
def zc (ta:TA):TI:=fun σ H R=>ta σ H fun vs H1=>∃ (i j:Int) (n:Nat),vs=[.int i,.int j,.int 8]∧0≤i∧j=i+8 * n∧j≤100000∧R (Its i 8 n) H1
theorem rN {a b c:Expr} {ta:TA} {p pos:Pos} (hg:Gl X "range") (hm:X.mg "range" = none) (ha:PA X [a,b,c] ta) (hs:starEach [a,b,c] X.env=[(false,eval a X.env),(false,eval b X.env),(false,eval c X.env)]:=by rfl)
  (hs2:starEach [b,c] X.env=[(false,eval b X.env),(false,eval c X.env)]:=by rfl):PI X tg (.Call (.Name "range" p) [a,b,c] [] pos) (zc ta):=by
 intro pins s σ H R I h
 refine Call_ (lg I hg hm boot_range (PyProof.Rows.callWith_type1 (thn (ha pos pins s σ H _ I h) fun us s1 ⟨vs,H1,I1,r1,q1⟩ => ?_) (by rw [hs,hs2]) (by rw [hs2];rfl)))
 obtain ⟨i,j,n,e,q1,q2,q3,q⟩:=q1
 subst e
 cases r1 with
 | cons r rr=>
  cases rr with
  | cons r' rr=>
   cases rr with
   | cons r3 rr=>
    cases rr
    obtain ⟨t,rfl⟩:=r
    obtain ⟨t',rfl⟩:=r'
    obtain ⟨t3,rfl⟩:=r3
    refine call_range_3 (by decide) ?_ (Or.inl (PyProof.noPylong_small (by omega)))
    refine wpAny_pyIter_range (IsRange.new ..) (xa q1 q2 q3) ?_
    have I2:Inv X pins σ H1 {s1 with heap:=s1.heap.push {cls := .type "range",data := .fields #[.int i t,.int j t',.int 8 t3]},toks:=s1.toks}:=I1.kept fun b o e=>Heap.get?_push_of_some _ e
    refine ⟨(s1.heap.push {cls := .type "range",data := .fields #[.int i t,.int j t',.int 8 t3]}).objs.size,[(s1.heap.push {cls := .type "range",data := .fields #[.int i t,.int j t',.int 8 t3]}).objs.size],_,_,H1,rfl,
     I2.kept (t':=s1.toks) fun b o e=>Heap.get?_push_of_some _ e,nu _ i 8 n,?_,fun b hb => ?_,q⟩
    ·show IsRangeIter _ _ (i+((0:Nat):Int) * 8) ((n:Int) - ((0:Nat):Int)) 8
     rw [show i+((0:Nat):Int) * 8=i by simp,show (n:Int) - ((0:Nat):Int)=Builtin.Range.rangeSize i j 8 by rw [i0 q2];simp]
     exact Heap.get?_push_size _ rfl
    ·have e:b=(s1.heap.push {cls := .type "range",data := .fields #[.int i t,.int j t',.int 8 t3]}).objs.size:=by simpa using hb
     subst e
     exact I2.fpOk (Nat.le_refl _) (I2.hok.fresh (Nat.le_refl _))
end
theorem rO {te:TE} {caps:St} {D:Addr} {H1:Hp} {lo c:Int} {n:Nat} {Q:VK} (f:Nat→V) (hD:H1 D=none) (hn:n≤sizeLine)
  (he:∀ (i:Nat) (H':Hp) (R:VK),i < n→Same H1 H'→(∀ H2,Same H' H2→R (f i) H2)→te (caps++[some (.int (lo+(i:Nat) * c))]) H' R)
  (hQ:∀ Hf,Same H1 Hf→Hf D=some (.lst ((List.range n).map f))→Q (.ref D) Hf) :
  ∃ W:Nat→Nat→List V→Hp→Prop,(∃ m,W 0 m [] (upd H1 D (.lst [])))∧dQ (Its lo c n) bo te caps D W Q:=by
 refine ⟨fun i m ys Hc=>i≤n∧m=n - i∧ys=(List.range i).map f∧Same H1 Hc∧Hc D=some (.lst ys),⟨n,Nat.zero_le _,rfl,rfl,ap hD _,bz⟩,?_⟩
 rintro i m ys Hc ⟨hi,rfl,rfl,s1,e⟩
 refine ⟨e,?_⟩
 by_cases h:i < n
 ·refine .inr ⟨h,by rw [List.length_map,List.length_range];exact Nat.lt_of_lt_of_le h hn,?_⟩
  rintro v H' ⟨rfl,rfl⟩
  show te _ _ _
  refine he i _ _ h s1 fun H2 s2=>⟨s2 _ _ e,n - (i+1),by omega,by omega,rfl,jX f i,?_,bz⟩
  exact bT (s1.trans s2) hD
 ·have hin:i=n:=by omega
  subst hin
  exact .inl ⟨Nat.le_refl _,hQ Hc s1 e⟩
theorem uO {ta:TA} {tt:TT} {te:TE} {js:List Nat} {s:St} {H:Hp} {Q:VK} (h:ta s H fun vs H1=>∃ (i j:Int) (n:Nat),vs=[.int i,.int j,.int 8]∧0≤i∧j=i+8 * n∧j≤100000∧∀ D,H1 D=none→∃ W:Nat→Nat→List V→Hp→Prop,(∃ n,W 0 n [] (upd H1 D (.lst [])))∧dQ (Its i 8 n) tt te (mT s js) D W Q):km (zc ta) tt te js s H Q:=h
theorem rP {te:TE} {caps:St} {H:Hp} {Q:VK} {i j:Int} (n:Nat) (f:Nat→V) (hi:0≤i) (e:j=i+8 * n) (hj:j≤1000)
  (he:∀ (k:Nat) (H':Hp) (R:VK),k < n→Same H H'→(∀ H2,Same H' H2→R (f k) H2)→te (caps++[some (.int (i+(k:Nat) * 8))]) H' R)
  (hQ:∀ D Hf,Same H Hf→aI H D→At Hf D (.lst ((List.range n).map f))→Q (.ref D) Hf) :
  ∃ (i' j':Int) (n:Nat),[V.int i,V.int j,V.int 8]=[.int i',.int j',.int 8]∧0≤i'∧j'=i'+8 * n∧j'≤100000∧∀ D,H D=none→∃ W:Nat→Nat→List V→Hp→Prop,(∃ n,W 0 n [] (upd H D (.lst [])))∧dQ (Its i' 8 n) bo te caps D W Q:=
 ⟨i,j,n,rfl,hi,e,by omega,fun D hD=>rO f hD (small (by omega)) he fun Hf s1 e1=>hQ D Hf s1 hD e1⟩
section
variable {X:Cx} {scope:Scope} {x:Str} {fv:List Str} {js:List Nat}
theorem rQ {i:Nat} {y:Str} {elt iter:Expr} {wi:TI} {te:TE} {px py pos spos:Pos} (hN:X.N.Nodup) (hy:X.N[i]? = some y) (hl:Loc X.env.scope y) (hi:PI X (.Name x px) iter wi) (he:∀ fp s H,PE (cxC X (fv++[x]) scope fp s H) elt te)
  (hC:ip X.env.scope scope X.N x fv js=true:=by rfl) (hcalm:X.calm=true:=by rfl) (hs:∀ v,foldedSetIterable iter X.env v=pure v:=by intro _;rfl)
  (hsw:swapsWith (.ListComp elt [⟨.Name x px,iter,[],0⟩] scope pos) (some (.Name y py)) spos.line X.env=pure true:=by rfl) (hf:X.fn y=true∨X.env.scope.names.lookup y=some .local:=by first | exact .inl rfl | exact .inr rfl) :
  PS X (.Assign [.Name y py] (.ListComp elt [⟨.Name x px,iter,[],0⟩] scope pos) spos) (xO (km wi bo te js) (dk i)):=oK hN hy hl hC hcalm hi he (.inl ⟨rfl,rfl⟩) hs hsw hf
theorem kA {i:Nat} {y:Str} {elt iter c:Expr} {wi:TI} {tt:TT} {te:TE} {px py pos spos:Pos} (hN:X.N.Nodup) (hy:X.N[i]? = some y) (hl:Loc X.env.scope y) (hi:PI X (.Name x px) iter wi) (ht:∀ fp s H,PT (cxC X (fv++[x]) scope fp s H) c tt) (he:∀ fp s H,PE (cxC X (fv++[x]) scope fp s H) elt te)
  (hC:ip X.env.scope scope X.N x fv js=true:=by rfl) (hcalm:X.calm=true:=by rfl) (hs:∀ v,foldedSetIterable iter X.env v=pure v:=by intro _;rfl)
  (hsw:swapsWith (.ListComp elt [⟨.Name x px,iter,[c],0⟩] scope pos) (some (.Name y py)) spos.line X.env=pure true:=by rfl) (hf:X.fn y=true∨X.env.scope.names.lookup y=some .local:=by first | exact .inl rfl | exact .inr rfl) :
  PS X (.Assign [.Name y py] (.ListComp elt [⟨.Name x px,iter,[c],0⟩] scope pos) spos) (xO (km wi tt te js) (dk i)):=oK hN hy hl hC hcalm hi he (.inr ⟨c,rfl,ht⟩) hs hsw hf
end
theorem Inv.freeze {X:Cx} {pins:List (Addr×Obj)} {σ:St} {H:Hp} {s:Shared} {a:Addr} {xs:List V} (I:Inv X pins σ H s) (e:H a=some (.lst xs)):∃ o,Inv X pins σ (upd H a (.frz o (.lst xs))) s:=by
 obtain ⟨hz,its,n,rv,eo⟩:=I.hok a _ e
 refine ⟨{cls := .type "list",data := .seq its.toArray n},?_⟩
 have ne:∀ {b:Addr} {o:HO},H b=some o→(∀ ys,o ≠ .lst ys)→b≠a:=fun {b o} q d z=>by
  subst z
  rw [e] at q
  exact d xs (Option.some.inj q).symm
 have u:Un X.fs [] H (upd H a (.frz {cls := .type "list",data := .seq its.toArray n} (.lst xs))) s.heap s.heap:=by
  refine ⟨fun b o q _ _ _=>q,fun b o q _ _ _=>⟨o.slots,q⟩,fun b o q n _ => ?_,fun b o q _=>⟨o,q⟩,fun b ys q => ?_,fun b o w q => ?_,fun b ps q=>⟨#[],?_⟩⟩
  ·rw [aU (fun z=>by subst z;rw [e] at n;cases n)];exact n
  ·rw [aU (ne q (fun _ z=>by cases z))];exact q
  ·rw [aU (ne q (fun _ z=>by cases z))];exact q
  ·rw [aU (ne q (fun _ z=>by cases z)),Array.append_empty];exact q
 refine I.un (t':=s.toks) u fun b v q => ?_
 by_cases hb:b=a
 ·subst hb
  rw [bz] at q
  cases q
  exact ⟨eo,hz,its,n,rv,eo⟩
 ·rw [aU hb] at q
  refine (I.hok b v q).stay (fun _ _ _ z=>z) (fun c z => ?_) fun c ys z => ?_
  ·rw [aU (ne z (fun _ y=>by cases y))];exact z
  ·rw [aU (ne z (fun _ y=>by cases y))];exact z
def Bc (v:V) (H:Hp) (Q:VK):Prop:=∃ a xs,v = .ref a∧H a=some (.lst xs)∧∀ o,Q v (upd H a (.frz o (.lst xs)))
def B0 (t:TE):TE:=fun s H Q=>t s H fun v H'=>Bc v H' Q
theorem oU {X:Cx} {e:Expr} {t:TE} (h:PE X e t):PE X e (B0 t):=fun pins s σ H Q I q=>by
 refine thn (h pins s σ H _ I q) ?_
 rintro u s1 ⟨v,H1,I1,r1,a,xs,rfl,e1,q1⟩
 obtain ⟨o,I2⟩:=I1.freeze e1
 exact ⟨_,_,I2,r1,q1 o⟩
theorem zd {t:TE} {s:St} {H:Hp} {Q:VK} (h:t s H fun v H'=>Bc v H' Q):B0 t s H Q:=h
theorem kB {a:Addr} {xs:List V} {H:Hp} {Q:VK} (e:At H a (.lst xs)) (h:∀ o,Q (.ref a) (upd H a (.frz o (.lst xs)))):Bc (.ref a) H Q:=⟨a,xs,rfl,e,h⟩
theorem At.sqF {K:PySem.W.Frag} {H:Hp} {a:Addr} {o:Obj} {xs:List V} (h:At H a (.frz o (.lst xs))):SqL K H a xs := .inl (.inr ⟨o,h⟩)
section
variable {X:Cx} {K:PySem.W.Frag} {tg:Expr}
theorem aO {l:Expr} {tl:TE} (hl:PE X l tl) (hK:X.K=K:=by rfl):PI X tg l (t0 K tl):=hK ▸ vV hl
theorem ao {e:Expr} {f:Str} {pos:Pos} {ta:TE} (he:PE X e ta) (hb:attributeBase e f X.env (eval e X.env)=eval e X.env:=by rfl) (hK:X.K=K:=by rfl):PE X (.Attribute e f pos) (zW K ta f):=hK ▸ ye he hb
theorem bq {o value:Expr} {f:Str} {pos pos':Pos} {ta tv:TE} (ha:PE X o ta) (hv:PE X value tv) (hs:swapsWith value (some (.Attribute o f pos')) pos.line X.env=pure false:=by rfl) (hK:X.K=K:=by rfl):PS X (.Assign [.Attribute o f pos'] value pos) (Ai K ta tv f):=hK ▸ yf ha hv hs
theorem eM {o value:Expr} {f:Str} {pos tpos:Pos} {ta tv:TE} {op:Operator} {rd:V→V→Hp→VK→Prop} (ha:PE X o ta) (hv:PE X value tv) (hop:Aj X op rd) (hK:X.K=K:=by rfl):PS X (.AugAssign (.Attribute o f tpos) op value pos) (m8 K ta tv rd f):=hK ▸ qT ha hv hop
theorem aY (hK:X.K=K:=by rfl):IxR X (wk K):=hK ▸ wo
theorem aN (hK:X.K=K:=by rfl):IxR X (wm K):=hK ▸ yi
theorem cr (hK:X.K=K:=by rfl):SlR X (Ak K):=hK ▸ wp
theorem pW (hK:X.K=K:=by rfl):OpR X (compareOp .In) (rIn K false):=hK ▸ ra
theorem kC (hK:X.K=K:=by rfl):OpR X (compareOp .NotIn) (rIn K true):=hK ▸ lu
theorem aB (hK:X.K=K:=by rfl):dm X (.builtin "len") (pT K):=hK ▸ rF
theorem cG (hK:X.K=K:=by rfl):dm X (.type "list") (lI K):=hK ▸ pU
theorem nv {a:Expr} {ta:TE} (ha:PE X a ta) (he:∀ whole,isTrue a X.env whole=(do let v ← whole;standAt a.pos;holding [v] (truthy v))) (hK:X.K=K:=by rfl):PT X a (AB K ta):=hK ▸ yN ha he
theorem gE (hK:X.K=K:=by rfl):dm X (.builtin "isinstance") (BX K):=hK ▸ uA
theorem rR (hc:X.calm=true:=by rfl) (hK:X.K=K:=by rfl):dm X (.type "set") (BV K):=hK ▸ kq hc
theorem rS {k:Nat} (hr:Room k X.A) (hK:X.K=K:=by rfl):OpR X (compareOp .Eq) (Ba K):=hK ▸ yY hr
theorem xb {k:Nat} (hr:Room k X.A) (hK:X.K=K:=by rfl):OpR X (compareOp .NotEq) (Ab K):=hK ▸ yZ hr
theorem uP {k:Nat} (hr:Room k X.A) (hK:X.K=K:=by rfl):OpR X (compareOp .In) (yX K):=hK ▸ wX hr
variable {o e:Expr} {es:List Expr} {to:TE} {t:TA} {name:Str} {apos cpos:Pos} {T id:String} {r:V→List V→Hp→VK→Prop}
theorem bZ (pa:PlainAttrs T) (slot:Slot T name id) (hty:typeOf (.builtin id)=pure (.type "method_descriptor")) (hm:MtR X id r) (ho:PE X o to) (ha:PA X (e :: es) t) (hK:X.K=K:=by rfl)
  (hbase:attributeBase o name X.env (eval o X.env)=eval o X.env:=by rfl)
  (hfew:((backTo cpos (starEach (e :: es) X.env)).all (fun x => !x.1) && (backToKw cpos (keywordEach [] X.env)).all (fun x=>x.1.isSome)
   && decide ((e :: es).length+([]:List Keyword).length+(if ([]:List Keyword).isEmpty then 0 else 1) < 30))=true:=by rfl)
  (hline:(apos.endLine == cpos.line)=true:=by rfl) (hs:starEach (e :: es) X.env=(false,eval e X.env) :: starEach es X.env:=by rfl) (hplain:(backTo cpos (starEach es X.env)).any (·.1)=false:=by rfl) :
  PE X (.Call (.Attribute o name apos) (e :: es) [] cpos) (tBM K T r to t):=hK ▸ Al pa slot hty hm ho ha hbase hfew hline hs hplain
end
theorem ze {H:Hp} {p a:Addr} {x:HO} (h:aI (upd H a x) p):aI H p:=(kx h).1
theorem vD {H:Hp} {p a b:Addr} {x y:HO} (h:aI (upd (upd H a x) b y) p):aI H p:=(kx (kx h).1).1
theorem B1 {H:Hp} {p a b c:Addr} {x y z:HO} (h:aI (upd (upd (upd H a x) b y) c z) p):aI H p:=vD (ze h)
theorem CK {H:Hp} {p a b c d:Addr} {x y z w:HO} (h:aI (upd (upd (upd (upd H a x) b y) c z) d w) p):aI H p:=B1 (ze h)
theorem Bd {H:Hp} {p a:Addr} {x:HO} (h:aI (upd H a x) p):p≠a:=(kx h).2
theorem B2 {H:Hp} {p a b:Addr} {x y:HO} (h:aI (upd (upd H a x) b y) p):p≠a:=Bd (ze h)
theorem Be {A B:Prop} (h:B):if (!true)=true then A else B:=vv h
theorem Bf {A B:Prop} (h:A):if (!false)=true then A else B:=rj h
theorem rT {K:PySem.W.Frag} {b:Int} {p:Addr} {l:List Int} {H:Hp} {Q:VK} (e:SqL K H p (l.map V.int)∨SqT K H p (l.map V.int)) (h:Q (.bl (!decide (b∈l))) H):rIn K true (.int b) (.ref p) H Q:=
 ⟨p,_,rfl,e,rfl,lM _,by rw [oQ,if_pos rfl];rw [show l.contains b=decide (b∈l) by simp];exact h⟩
theorem zh {K:PySem.W.Frag} {b:Int} {p:Addr} {l:List Int} {H:Hp} {Q:VK} (e:SqL K H p (l.map V.int)∨SqT K H p (l.map V.int)) (h:Q (.bl (decide (b∈l))) H):rIn K false (.int b) (.ref p) H Q:=
 ⟨p,_,rfl,e,rfl,lM _,by rw [oQ,if_neg Bool.false_ne_true];rw [show l.contains b=decide (b∈l) by simp];exact h⟩
def ME (t:TE):Prop:=∀ (s:St) (H:Hp) (Q Q':VK),(∀ v H',Q v H'→Q' v H')→t s H Q→t s H Q'
def MA (t:TA):Prop:=∀ (s:St) (H:Hp) (Q Q':List V→Hp→Prop),(∀ v H',Q v H'→Q' v H')→t s H Q→t s H Q'
def MT (t:TT):Prop:=∀ (s:St) (H:Hp) (Q Q':Bool→Hp→Prop),(∀ v H',Q v H'→Q' v H')→t s H Q→t s H Q'
def MR (r:R2):Prop:=∀ (x y:V) (H:Hp) (Q Q':VK),(∀ v H',Q v H'→Q' v H')→r x y H Q→r x y H Q'
def MC (r:List V→Hp→VK→Prop):Prop:=∀ (x:List V) (H:Hp) (Q Q':VK),(∀ v H',Q v H'→Q' v H')→r x H Q→r x H Q'
theorem dS {i:Nat}:ME (jP i):=fun _ _ _ _ k ⟨v,e,q⟩=>⟨v,e,k _ _ q⟩
theorem Bg {v:V}:ME (tC v):=fun _ _ _ _ k q=>k _ _ q
theorem jB {r:R2} {ta tb:TE} (hr:MR r) (ha:ME ta) (hb:ME tb):ME (tOp r ta tb):=fun s H _ _ k q=>ha s H _ _ (fun _ H' q=>hb s H' _ _ (fun _ _ q=>hr _ _ _ _ _ k q) q) q
theorem rV:MA vr:=fun _ _ _ _ k q=>k _ _ q
theorem nw {ta:TE} {tr:TA} (ha:ME ta) (hr:MA tr):MA (wc ta tr):=fun s H _ _ k q=>ha s H _ _ (fun _ H' q=>hr s H' _ _ (fun _ _ q=>k _ _ q) q) q
theorem xc {r:List V→Hp→VK→Prop} {t:TA} (hr:MC r) (ht:MA t):ME (tCB r t):=fun s H _ _ k q=>ht s H _ _ (fun _ _ q=>hr _ _ _ _ k q) q
theorem vE {K:PySem.W.Frag} {f:Str} {ta:TE} (ha:ME ta):ME (zW K ta f):=fun s H _ _ k q=>ha s H _ _ (fun _ _ ⟨a,C,dx,fs,v,e1,e2,e3,e4,e5,q⟩=>⟨a,C,dx,fs,v,e1,e2,e3,e4,e5,k _ _ q⟩) q
theorem kG {t:TE} (h:ME t):MT (pI t):=fun s H _ _ k q=>h s H _ _ (fun _ _ ⟨c,e,q⟩=>⟨c,e,k _ _ q⟩) q
theorem vF {t u:TT} (h:MT t) (g:MT u):MT (zS t u):=fun s H _ _ k q=>h s H _ _ (fun b H' q=>by
 cases b with
 | true=>exact g s H' _ _ k q
 | false=>exact k _ _ q) q
theorem rW {g:Int→Int→V}:MR (rI0 g):=fun _ _ _ _ _ k ⟨i,j,e1,e2,q⟩=>⟨i,j,e1,e2,k _ _ q⟩
theorem Bh:MR rEq:=fun _ _ _ _ _ k ⟨e,q⟩=>⟨e,k _ _ q⟩
theorem rX {K:PySem.W.Frag}:MR (wk K):=fun _ _ _ _ _ k ⟨p,xs,i,v,e1,e2,e3,e4,q⟩=>⟨p,xs,i,v,e1,e2,e3,e4,k _ _ q⟩
theorem zi {K:PySem.W.Frag}:MR (wm K):=fun _ _ _ _ _ k ⟨p,xs,i,v,e1,e2,e3,e4,q⟩=>⟨p,xs,i,v,e1,e2,e3,e4,k _ _ q⟩
theorem rY {K:PySem.W.Frag}:MC (pT K):=fun _ _ _ _ k ⟨p,ys,e1,e2,q⟩=>⟨p,ys,e1,e2,k _ _ q⟩
theorem Bi {r:V→Hp→VK→Prop} {ta:TE} (hr:∀ x H Q Q',(∀ v H',Q v H'→Q' v H')→r x H Q→r x H Q') (ha:ME ta):ME (tUn r ta):=fun s H _ _ k q=>ha s H _ _ (fun _ _ q=>hr _ _ _ _ k q) q
theorem CL {g:Int→V}:∀ x H Q Q',(∀ v H',Q v H'→Q' v H')→rU g x H Q→rU g x H Q':=fun _ _ _ _ k ⟨i,e,q⟩=>⟨i,e,k _ _ q⟩
end L2
set_option maxHeartbeats 4000000
namespace L2
open PySem PySem.Spec PyProof.Rows
def B3 (t u:TS):TS:=fun D s H=>∃ Pv:St→Hp→Prop,t {D with nx:=Pv} s H∧∀ s' H',Pv s' H'→u D s' H'
section
variable {X:Cx}
theorem cX {st:Stmt} {rest:List Stmt} {t u:TS} (h1:PS X st t) (h2:PSs X rest u):PSs X (st :: rest) (B3 t u):=by
 rintro pins s σ H D I ⟨Pv,h,hP⟩
 refine wpAny_execs_cons (thn (h1 pins s σ H {D with nx:=Pv} I h) fun f s1 q => ?_)
 cases f with
 | next=>
  obtain ⟨σ',H',I',q⟩:=q
  exact h2 pins s1 σ' H' D I' (hP _ _ q)
 | ret v=>exact q
 | brk=>exact q
 | cont=>exact q
theorem fJ {t u:TS} {D:Ends} {s:St} {H:Hp} (Pv:St→Hp→Prop) (h:t {D with nx:=Pv} s H) (h2:∀ s' H',Pv s' H'→u D s' H'):B3 t u D s H:=⟨Pv,h,h2⟩
def B4 (sp:Sp) (t:TA) (i:Nat):TB:=fun s H nx ex=>t s H fun vs H1=>sp (vs++[]) H1 (fun v H2=>nx (s.set i (some v)) H2) (exK ex)
def vG (sp:Sp) (t:TA):TB:=fun s H nx ex=>t s H fun vs H1=>sp (vs++[]) H1 (fun _ H2=>nx s H2) (exK ex)
theorem CM {j k:Nat} {ps:List Str} {sp:Sp} {x:Str} {p pos apos:Pos} {e:Expr} {es:List Expr} {t:TA}
  (G:fI X.prog X.w X.K X.mg X.base (CXe X.prog X.w) j x ps sp) (hr:Room k X.A) (ha:PA X.nox (e :: es) t) (hjk:j≤k:=by decide) (hg:Gl X x:=by rfl) (hs:swapsWith (.Call (.Name x p) (e :: es) [] pos) none apos.line X.env=pure false:=by rfl)
  (hdb:(x == ("__debug__" : Str))=false:=by decide) (he:starEach (e :: es) X.env=(false,eval e X.env) :: starEach es X.env:=by rfl) (hpl:(backTo pos (starEach es X.env)).any (·.1)=false:=by rfl) :
  PB X [.Expr (.Call (.Name x p) (e :: es) [] pos) apos] (vG sp t):=by
 obtain ⟨f,fd,F,b,kp,mm⟩:=G
 exact wy F (hr.mono hjk) hg mm kp b .nil ha hs hdb he hpl
def B5 (K:PySem.W.Frag) (Dd:Addr) (ie iz:Nat) (tb:TB):TS:=fun D s H=>tb s H D.nx fun C d H'=>PySem.W.mroIn K C (.ref Dd)=some true∧∀ ea,H' ea=none→D.nx (((s.set ie (some (.ref ea))).set iz (some (.ref ea))).set ie none) (upd H' ea (tV ea C d))
theorem xf {K:PySem.W.Frag} {body:List Stmt} {tb:TB} {bx n z:Str} {D:Addr} {iz ie:Nat} {np pz pn zp hpos pos:Pos} (hB:PB X body tb) (hst:X.stack=X.env :: X.outer) (hfr:X.env.frame=some X.env.locals) (hg:Gl X bx) (hm:X.mg bx=some (.ref D))
  (h1:PySem.W.typeIn X.K (.ref D)=some (.type "type")) (h2:(PySem.W.clsIn X.K D).isSome=true) (h3:PySem.W.mroIn X.K D (.type "BaseException")=some true)
  (hN:X.N.Nodup) (hi:X.N[ie]? = some n) (hl:X.env.scope.names.lookup n=some .local) (hz:X.N[iz]? = some z) (hlz:Loc X.env.scope z) (hf:X.fn z=true∨X.env.scope.names.lookup z=some .local:=by first | exact .inl rfl | exact .inr rfl | assumption)
  (hsw:swapsWith (.Name n pn) (some (.Name z pz)) zp.line X.env=pure false:=by rfl) (hdb:(bx == ("__debug__" : Str))=false:=by decide) (hd1:(n == ("__debug__" : Str))=false:=by decide) (hd2:(n == ("__classdict__" : Str))=false:=by decide) (hK:X.K=K:=by rfl) :
  PS X (.Try body [.ExceptHandler (some (.Name bx np)) (some n) [.Assign [.Name z pz] (.Name n pn) zp] hpos] [] [] pos) (B5 K D ie iz tb):=by
 subst hK
 exact yv hB hst hfr hg hm h1 h2 h3 hN hi hl hz hlz hf hsw hdb hd1 hd2
theorem zj {K:PySem.W.Frag} {Dd:Addr} {ie iz:Nat} {tb:TB} {D:Ends} {s:St} {H:Hp} (h:tb s H D.nx fun C d H'=>PySem.W.mroIn K C (.ref Dd)=some true∧∀ ea,aI H' ea→D.nx (((s.set ie (some (.ref ea))).set iz (some (.ref ea))).set ie none) (upd H' ea (tV ea C d))):B5 K Dd ie iz tb D s H:=h
theorem zk {sp:Sp} {t:TA} {s:St} {H:Hp} {nx:St→Hp→Prop} {ex:Addr→Option Addr→Hp→Prop} (h:t s H fun vs H1=>sp (vs++[]) H1 (fun _ H2=>nx s H2) (exK ex)):vG sp t s H nx ex:=h
theorem xg {to ti:TE} {t:xY} {v:V} {s:St} {H:Hp} {Q:St→Hp→Prop} (h:to s H fun o H1=>ti s H1 fun i H2=>t o i v H2 fun H3=>Q s H3):BH to ti t v s H Q:=h
theorem xh {p:Addr} {xs:List V} {k:Int} {j:Nat} {v:V} {H:Hp} {Q:Hp→Prop} (e:At H p (.lst xs)) (hi:ixN xs.length k=some j) (h:Q (upd H p (.lst (xs.set j v)))):yj (.ref p) (.int k) v H Q:=⟨p,xs,k,j,rfl,rfl,e,hi,h⟩
end
theorem rZ {A B:Prop} {b:Bool} (e:b=true) (h:A):if b=true then A else B:=by subst e;exact rj h
theorem xi:bootBuiltins "ValueError" = some (.type "ValueError"):=by decide +kernel
theorem r6 {X:Cx} {H:Hp} {a b:Addr} {xs ys:List Int} (ha:SqL X.K H a (xs.map V.int)) (hb:SqL X.K H b (ys.map V.int)):RcW X H 1 (.ref a) (.ref b) (decide (xs=ys)):=by
 by_cases hl:xs.length=ys.length
 ·have h:=ko (X:=X) (n:=0) (e:=fun j=>xs.getD j 0 == ys.getD j 0) ha hb (by simpa using hl) fun j x y ex ey=>by
   obtain ⟨i,e1,rfl⟩:=cC ex
   obtain ⟨i',e2,rfl⟩:=cC ey
   rw [List.getD_eq_getElem?_getD,List.getD_eq_getElem?_getD,e1,e2]
   exact nh i i'
  rw [List.length_map,rB xs ys hl] at h
  exact h.mono (by omega)
 ·have h:=rq (X:=X) ha hb (by simpa using hl)
  have:decide (xs=ys)=false:=decide_eq_false fun e=>hl (by rw [e])
  rw [this]
  exact h.mono (by omega)
section
variable {K:PySem.W.Frag} {H:Hp}
end
end L2
set_option maxHeartbeats 4000000
set_option maxRecDepth 100000
namespace L2
open PySem PySem.Spec PyProof.Rows
section
variable {X:Cx}
def sf:V→List V→Hp→VK→Prop:=fun x vs H Q=>∃ (l:Addr) (xs:List V) (i:Int) (k:Nat) (y:V),x = .ref l∧vs=[.int i,y]∧i=k∧H l=some (.lst xs)∧k≤xs.length∧xs.length < 1000000∧Q .non (upd H l (.lst (xs.take k++y :: xs.drop k)))
theorem sg:MtM X "list.insert" sf:=by
 intro pins s σ H x vs v us Q I rx rv h
 obtain ⟨l,xs,i,k,y,rfl,rfl,hik,hH,hk,hz,q⟩:=h
 cases rx
 obtain ⟨u,w,rfl,ru,rw'⟩:=rv.two
 obtain ⟨t,rfl⟩:=ru
 obtain ⟨z,its,n,r,hl,e⟩:=I.lstM hH
 have e24:sizeLine=16777216:=by decide +kernel
 have f1:Builtin.List.listFitsIndex i=true:=fitsIndex_both (by omega) (by omega)
 have f2:¬ (!Builtin.List.listFitsIndex i)=true:=by rw [f1];decide
 have f3:its.toArray.size≤sizeLine:=by rw [List.size_toArray,← hl];exact z
 have M:=AutoSeq1.list_insert_list_int_val_1 l its.toArray n i t w f2 f3
 refine call_meets F.slot_list_insert ⟨_,e,rfl⟩ F.entry_list_insert (F.args_list_insert_3 _ _ _) M ⟨e,?_⟩
 refine ⟨.non,_,I.lset (its':=its.take k++w :: its.drop k) hH e ?_ ?_ ?_,rfl,q⟩
 ·show ((its.toArray.extract 0 (if i < 0 then (i+(its.toArray.size:Int)).toNat else min i.toNat its.toArray.size)).push w++its.toArray.extract (if i < 0 then (i+(its.toArray.size:Int)).toNat else min i.toNat its.toArray.size))=_
  rw [if_neg (by omega),show i.toNat=k by omega,List.size_toArray,Nat.min_eq_left (by omega)]
  apply Array.toList_inj.mp
  simp [List.drop_take]
  exact List.take_of_length_le (by rw [List.length_drop];omega)
 ·exact (r.take k).append (.cons rw' (r.drop k))
 ·rw [List.length_append,List.length_cons,List.length_take,List.length_drop]
  omega
theorem sh {l:Addr} {xs:List V} {k:Nat} {y:V} {H:Hp} {Q:VK} (e:At H l (.lst xs)) (hk:k≤xs.length) (hl:xs.length < 1000000) (h:Q .non (upd H l (.lst (xs.take k++y :: xs.drop k)))):sf (.ref l) [.int k,y] H Q:=⟨l,xs,_,k,y,rfl,rfl,rfl,e,hk,hl,h⟩
def si (K:PySem.W.Frag):V→List V→Hp→VK→Prop:=fun x vs H Q=>∃ (l:Addr) (ns:List Int) (k:Int),x = .ref l∧vs=[.int k]∧SqL K H l (ns.map V.int)∧k∈ns∧Q (.int (ns.idxOf k:Nat)) H
theorem uQ:MtM X "list.index" (si X.K):=by
 intro pins s σ H x vs v us Q I rx rv h
 obtain ⟨l,ns,k,rfl,rfl,hS,hk,q⟩:=h
 cases rx
 obtain ⟨u,rfl,ru⟩:=rv.one
 obtain ⟨t,rfl⟩:=ru
 obtain ⟨its,r,pl,hz⟩:=I.list hS
 have hi:=eJ r
 obtain ⟨⟨cls,dd,data,sl⟩,ho,hc,n,hd⟩:=id pl.isList
 simp only at hc hd
 subst hc hd
 have hlen:=hi.length
 have hj:ns.idxOf k < ns.length:=List.idxOf_lt_length_iff.mpr hk
 rw [List.length_map] at hz
 have e24:sizeLine=16777216:=by decide +kernel
 refine call_meets PySem.F.slot_list_index ⟨_,ho,rfl⟩ PySem.F.entry_list_index (PySem.F.args_list_index_2 _ _)
  (SeqAt.list_indexAt l its.toArray n dd sl (.int k t) (isInt k) (ns.idxOf k) (by simpa [hlen] using hj) (by omega) ?_ ?_) ⟨ho,fun y hy=>(eq_isInt k t hi y (by simpa using hy)).at _ _,?_⟩
 ·show isInt k its[ns.idxOf k]=true
  rw [isInt_at k hi _ (by omega) hj]
  simpa using List.getElem_idxOf hj
 ·intro j hjs hlt
  show isInt k its[j]=false
  rw [isInt_at k hi j (by simpa using hjs) (by omega)]
  exact ne_of_lt_idxOf hlt _
 ·exact ⟨.int _,H,I.tok _,⟨_,rfl⟩,q⟩
theorem sj {K:PySem.W.Frag} (hK:X.K=K:=by rfl):MtM X "list.index" (si K):=hK ▸ uQ
theorem uR {K:PySem.W.Frag} {l:Addr} {ns:List Int} {k:Int} {H:Hp} {Q:VK} (e:SqL K H l (ns.map V.int)) (hk:k∈ns) (h:Q (.int (ns.idxOf k:Nat)) H):si K (.ref l) [.int k] H Q:=⟨l,ns,k,rfl,rfl,e,hk,h⟩
theorem oV (val:Nat→Int):∀ k,argBest (fun i j=>decide (val i < val j)) k≤k∧∀ i,i≤k→val (argBest (fun i j=>decide (val i < val j)) k)≤val i
 | 0=>⟨Nat.le_refl _,fun i hi=>by
                    have:i=0:=by omega
                    subst this;exact Int.le_refl _⟩
 | k+1=>by
  obtain ⟨h1,h2⟩:=oV val k
  unfold argBest
  by_cases c:decide (val (k+1) < val (argBest (fun i j=>decide (val i < val j)) k))=true
  ·rw [if_pos c]
   refine ⟨Nat.le_refl _,fun i hi => ?_⟩
   have c':=of_decide_eq_true c
   rcases Nat.lt_or_ge i (k+1) with z | z
   ·have:=h2 i (by omega)
    omega
   ·have:i=k+1:=by omega
    subst this;exact Int.le_refl _
  ·rw [if_neg c]
   refine ⟨by omega,fun i hi => ?_⟩
   have c':¬ val (k+1) < val (argBest (fun i j=>decide (val i < val j)) k):=fun z=>c (decide_eq_true z)
   rcases Nat.lt_or_ge i (k+1) with z | z
   ·exact h2 i (by omega)
   ·have:i=k+1:=by omega
    subst this;omega
def CN:List V→Hp→VK→Prop:=fun xs H Q=>∃ (p:Addr) (ns:List Int),xs=[.ref p]∧H p=some (.lst (ns.map V.int))∧ns≠[]∧∀ m,m∈ns→(∀ x∈ns,m≤x)→Q (.int m) H
theorem gF (hc:X.calm=true):dm X (.builtin "min") CN:=by
 intro pins s σ H xs us Q I r h
 obtain ⟨p,ns,rfl,hq,hne,q⟩:=h
 obtain ⟨u,rfl,rx⟩:=ke r
 cases rx
 obtain ⟨its,r',pl,hz⟩:=I.list (SqL.of (K:=X.K) hq)
 have hl:=r'.length
 rw [List.length_map] at hl
 have hpos:0 < ns.length:=List.length_pos_iff.mpr hne
 refine call_min_walk (wpAny_pyIter_list pl.isList ?_)
 have hnp:p≠s.heap.objs.size:=by
  obtain ⟨o,ho,_⟩:=pl.isList
  exact Nat.ne_of_lt (Heap.lt_size ho)
 have hval:∀ (i:Nat) (v:Value),its.toArray[i]? = some v→∃ t,v=Value.int (ns.getD i 0) t:=fun i v hv=>by
  have hv':its[i]? = some v:=by simpa using hv
  have hi:i < ns.length:=by
   have:=(List.getElem?_eq_some_iff.mp hv').1
   omega
  obtain ⟨u,h1,h2⟩:=r'.get (i:=i) (x := .int (ns.getD i 0)) (by rw [List.getElem?_map,List.getElem?_eq_getElem hi];simp [List.getD_eq_getElem?_getD,hi])
  rw [hv'] at h1
  cases h1
  exact h2
 refine ⟨_,_,_,_,_,_,_,rfl,Walks.list (A:=X.A.in1) (I.ok.hd hc) s.heap.objs.size p hnp its.toArray,⟨⟨_,Heap.get?_push_size _ rfl,rfl,rfl⟩,pl.isList.at fun o e=>Heap.get?_push_of_some _ e⟩,?_,?_,CmpOf.ints_lt (fun i=>ns.getD i 0) hval,fun v h' tk hP k => ?_⟩
 ·intro b hb
  rw [Heap.size_push]
  obtain ⟨o,ho,_⟩:=pl.isList
  have h9:=Heap.lt_size ho
  simp only [List.mem_cons,List.not_mem_nil,or_false] at hb
  rcases hb with rfl | rfl
  ·exact Nat.lt_succ_self _
  ·exact Nat.lt_succ_of_lt h9
 ·rw [List.size_toArray,← hl];exact hpos
 ·obtain ⟨t,rfl⟩:=hval _ _ hP
  refine ⟨.int _,H,I.walked k,⟨t,rfl⟩,?_⟩
  have e:its.toArray.size=ns.length:=by rw [List.size_toArray,hl]
  rw [e]
  obtain ⟨b1,b2⟩:=oV (fun i=>ns.getD i 0) (ns.length - 1)
  refine q _ ?_ ?_
  ·rw [List.getD_eq_getElem?_getD,List.getElem?_eq_getElem (show argBest _ (ns.length - 1) < ns.length by omega)]
   exact List.getElem_mem _
  ·intro x hx
   obtain ⟨i,hi,rfl⟩:=List.getElem_of_mem hx
   have:=b2 i (by omega)
   rw [show ns.getD i 0=ns[i] by simp [List.getD_eq_getElem?_getD,hi]] at this
   exact this
end
theorem xj {te:TE} {ti:TIp} {x:V} {a0 a1 a2:Option V} {r:St} {D:Ends} {H:Hp} (h:te (a0 :: a1 :: a2 :: some x :: r) H fun y H1=>ti x y H1 fun z H2=>D.nx (a0 :: a1 :: a2 :: some z :: r) H2):BI 3 te ti D (a0 :: a1 :: a2 :: some x :: r) H:=⟨x,rfl,h⟩
theorem zm {f:Int→Int→Int} {i j:Int} {H:Hp} {Q:VK} (h:Q (.int (f i j)) H):ipI f (.int i) (.int j) H Q:=⟨i,j,rfl,rfl,h⟩
end L2
set_option maxHeartbeats 4000000
set_option maxRecDepth 100000
namespace L2
open PySem PySem.Spec PyProof.Rows
def pX (D:Addr) (n i:Nat) (Iv:Nat→List V→Hp→Prop) (ys:List V) (y:V) (H:Hp):Prop:=H D=some (.lst ys)∧∃ m,m < n - i∧(i+1≤n∧m=n - (i+1)∧Iv (i+1) (ys++[y]) (upd H D (.lst (ys++[y]))))
def uS (D:Addr) (n i:Nat) (Iv:Nat→List V→Hp→Prop) (ys:List V) (H:Hp):Prop:=H D=some (.lst ys)∧∃ m,m < n - i∧(i+1≤n∧m=n - (i+1)∧Iv (i+1) ys H)
theorem iB {D:Addr} {n i:Nat} {Iv:Nat→List V→Hp→Prop} {ys:List V} {y:V} {H:Hp} (hi:i < n) (e:At H D (.lst ys)) (h:Iv (i+1) (ys++[y]) (upd H D (.lst (ys++[y])))):pX D n i Iv ys y H:=⟨e,n - (i+1),by omega,hi,rfl,h⟩
theorem sk {D:Addr} {n i:Nat} {Iv:Nat→List V→Hp→Prop} {ys:List V} {H:Hp} (hi:i < n) (e:At H D (.lst ys)) (h:Iv (i+1) ys H):uS D n i Iv ys H:=⟨e,n - (i+1),by omega,hi,rfl,h⟩
theorem lN {K:PySem.W.Frag} {tt:TT} {te:TE} {caps:St} {a D:Addr} {xs:List V} {H1:Hp} {Q:VK} (Iv:Nat→List V→Hp→Prop) (h0:Iv 0 [] (upd H1 D (.lst [])))
  (hl:∀ i ys H,i≤xs.length→Iv i ys H→At H D (.lst ys)∧SqL K H a xs∧ys.length≤i) (hn:xs.length≤sizeLine)
  (hs:∀ i x ys H,xs[i]? = some x→Iv i ys H→tt (caps++[some x]) H fun b H2=>if b=true then te (caps++[some x]) H2 (pX D xs.length i Iv ys) else uS D xs.length i Iv ys H2)
  (hd:∀ ys H,Iv xs.length ys H→Q (.ref D) H) :
  ∃ W:Nat→Nat→List V→Hp→Prop,(∃ n,W 0 n [] (upd H1 D (.lst [])))∧dQ (Itl K a) tt te caps D W Q:=by
 refine ⟨fun i m ys Hc=>i≤xs.length∧m=xs.length - i∧Iv i ys Hc,⟨xs.length,Nat.zero_le _,rfl,h0⟩,?_⟩
 rintro i m ys Hc ⟨hi,rfl,iv⟩
 obtain ⟨e1,e2,e3⟩:=hl i ys Hc hi iv
 refine ⟨e1,?_⟩
 by_cases h:i < xs.length
 ·refine .inr ⟨⟨xs,xs[i],e2,List.getElem?_eq_getElem h⟩,by omega,?_⟩
  rintro v H' ⟨rfl,hv⟩
  exact hs i v ys _ (hv xs e2) iv
 ·have hin:i=xs.length:=by omega
  subst hin
  exact .inl ⟨⟨xs,e2,Nat.le_refl _⟩,hd ys Hc iv⟩
theorem sm {tt:TT} {te:TE} {caps:St} {D:Addr} {n:Nat} {H1:Hp} {Q:VK} (Iv:Nat→List V→Hp→Prop) (h0:Iv 0 [] (upd H1 D (.lst [])))
  (hl:∀ i ys H,i≤n→Iv i ys H→At H D (.lst ys)∧ys.length≤i) (hn:n≤sizeLine)
  (hs:∀ i ys H,i < n→Iv i ys H→tt (caps++[some (.int (i:Int))]) H fun b H2=>if b=true then te (caps++[some (.int (i:Int))]) H2 (pX D n i Iv ys) else uS D n i Iv ys H2)
  (hd:∀ ys H,Iv n ys H→Q (.ref D) H) :
  ∃ W:Nat→Nat→List V→Hp→Prop,(∃ n,W 0 n [] (upd H1 D (.lst [])))∧dQ (Itr 0 n) tt te caps D W Q:=by
 refine ⟨fun i m ys Hc=>i≤n∧m=n - i∧Iv i ys Hc,⟨n,Nat.zero_le _,rfl,h0⟩,?_⟩
 rintro i m ys Hc ⟨hi,rfl,iv⟩
 obtain ⟨e1,e3⟩:=hl i ys Hc hi iv
 refine ⟨e1,?_⟩
 by_cases h:i < n
 ·refine .inr ⟨h,by omega,?_⟩
  rintro v H' ⟨rfl,rfl⟩
  rw [Int.zero_add]
  exact hs i ys _ h iv
 ·have hin:i=n:=by omega
  subst hin
  exact .inl ⟨Nat.le_refl _,hd ys Hc iv⟩
theorem c7 {K:PySem.W.Frag} {te:TE} {caps:St} {H:Hp} {Q:VK} {a:Addr} {xs:List V} (Iv:Addr→Nat→List V→Hp→Prop) (e:SqL K H a xs) (hn:xs.length≤sizeLine)
  (h0:∀ D,aI H D→Iv D 0 [] (upd H D (.lst []))) (hl:∀ D i ys H,i≤xs.length→Iv D i ys H→At H D (.lst ys)∧SqL K H a xs∧ys.length≤i)
  (hs:∀ D i x ys H,xs[i]? = some x→Iv D i ys H→te (caps++[some x]) H (pX D xs.length i (Iv D) ys)) (hd:∀ D ys H,Iv D xs.length ys H→Q (.ref D) H) :
  ∃ a',V.ref a = .ref a'∧(∃ xs,SqL K H a' xs)∧∀ D,H D=none→∃ W:Nat→Nat→List V→Hp→Prop,(∃ n,W 0 n [] (upd H D (.lst [])))∧dQ (Itl K a') bo te caps D W Q:=
 ⟨a,rfl,⟨xs,e⟩,fun D hD=>lN (Iv D) (h0 D hD) (hl D) hn (fun i x ys H hx iv=>by unfold bo;exact rj (hs D i x ys H hx iv)) (hd D)⟩
theorem gG {K:PySem.W.Frag} {tt:TT} {te:TE} {caps:St} {H:Hp} {Q:VK} {a:Addr} {xs:List V} (Iv:Addr→Nat→List V→Hp→Prop) (e:SqL K H a xs) (hn:xs.length≤sizeLine)
  (h0:∀ D,aI H D→Iv D 0 [] (upd H D (.lst []))) (hl:∀ D i ys H,i≤xs.length→Iv D i ys H→At H D (.lst ys)∧SqL K H a xs∧ys.length≤i)
  (hs:∀ D i x ys H,xs[i]? = some x→Iv D i ys H→tt (caps++[some x]) H fun b H2=>if b=true then te (caps++[some x]) H2 (pX D xs.length i (Iv D) ys) else uS D xs.length i (Iv D) ys H2) (hd:∀ D ys H,Iv D xs.length ys H→Q (.ref D) H) :
  ∃ a',V.ref a = .ref a'∧(∃ xs,SqL K H a' xs)∧∀ D,H D=none→∃ W:Nat→Nat→List V→Hp→Prop,(∃ n,W 0 n [] (upd H D (.lst [])))∧dQ (Itl K a') tt te caps D W Q:=
 ⟨a,rfl,⟨xs,e⟩,fun D hD=>lN (Iv D) (h0 D hD) (hl D) hn (hs D) (hd D)⟩
theorem lO {te:TE} {caps:St} {H:Hp} {Q:VK} {j:Int} (n:Nat) (Iv:Addr→Nat→List V→Hp→Prop) (ej:j.toNat=n) (hj:j < 2 ^ 62 ∧ -(2 ^ 62)≤j) (hn:n≤sizeLine)
  (h0:∀ D,aI H D→Iv D 0 [] (upd H D (.lst []))) (hl:∀ D i ys H,i≤n→Iv D i ys H→At H D (.lst ys)∧ys.length≤i)
  (hs:∀ D i ys H,i < n→Iv D i ys H→te (caps++[some (.int (i:Int))]) H (pX D n i (Iv D) ys)) (hd:∀ D ys H,Iv D n ys H→Q (.ref D) H) :
  ∃ j':Int,[V.int j]=[.int j'] ∧ -(2 ^ 62)≤j'∧j' < 2 ^ 62∧∀ D,H D=none→∃ W:Nat→Nat→List V→Hp→Prop,(∃ n,W 0 n [] (upd H D (.lst [])))∧dQ (Itr 0 j'.toNat) bo te caps D W Q:=by
 refine ⟨j,rfl,hj.2,hj.1,fun D hD => ?_⟩
 rw [ej]
 exact sm (Iv D) (h0 D hD) (hl D) hn (fun i ys H hi iv=>by unfold bo;exact rj (hs D i ys H hi iv)) (hd D)
end L2
namespace L2
open PySem PySem.Spec PyProof.Rows
section
variable {κ:Type} [DecidableEq κ]
def dU (kvs:List (κ×V)) (k:κ):Option V:=(kvs.find? fun kv=>decide (kv.1=k)).map (·.2)
def pY (kvs:List (κ×V)) (k:κ) (v:V):List (κ×V):=
 if (kvs.any fun kv=>decide (kv.1=k))=true then kvs.map (fun kv=>if kv.1=k then (kv.1,v) else kv) else kvs++[(k,v)]
def xk (kvs:List (κ×V)) (k:κ):List (κ×V):=kvs.filter fun kv=>decide (kv.1≠k)
theorem uT {k:κ}:dU ([]:List (κ×V)) k=none:=rfl
theorem bV {p:κ×V} {r:List (κ×V)} {k:κ} (e:p.1=k):dU (p :: r) k=some p.2:=by simp [dU,List.find?_cons,e]
theorem bW {p:κ×V} {r:List (κ×V)} {k:κ} (e:¬ p.1=k):dU (p :: r) k=dU r k:=by simp [dU,List.find?_cons,e]
theorem kH (k:κ):∀ kvs:List (κ×V),(kvs.any fun kv=>decide (kv.1=k))=(dU kvs k).isSome
 | []=>rfl
 | p :: r=>by
  rw [List.any_cons]
  by_cases e:p.1=k
  ·simp only [bV e,decide_eq_true e,Bool.true_or,Option.isSome_some]
  ·rw [bW e,decide_eq_false e,Bool.false_or];exact kH k r
theorem oW (k j:κ) (y:V):∀ kvs:List (κ×V),dU (kvs.map fun kv=>if kv.1=k then (kv.1,y) else kv) j=(dU kvs j).map fun x=>if j=k then y else x
 | []=>rfl
 | p :: r=>by
  have ih:=oW k j y r
  rw [List.map_cons]
  by_cases h:p.1=k
  ·rw [if_pos h]
   by_cases e:p.1=j
   ·rw [bV (p:=(p.1,y)) e,bV e,Option.map_some,if_pos (e.symm.trans h)]
   ·rw [bW (p:=(p.1,y)) e,bW e,ih]
  ·rw [if_neg h]
   by_cases e:p.1=j
   ·rw [bV (p:=p) e,bV e,Option.map_some,if_neg (fun z=>h (e.trans z))]
   ·rw [bW (p:=p) e,bW e,ih]
theorem lP (k j:κ) (y:V):∀ kvs:List (κ×V),dU kvs k=none→dU (kvs++[(k,y)]) j=if j=k then some y else dU kvs j
 | [],_=>by
  by_cases e:k=j
  ·rw [if_pos e.symm];exact bV (p:=(k,y)) e
  ·rw [if_neg (fun z=>e z.symm)];exact bW (p:=(k,y)) e
 | p :: r,hn=>by
  rw [List.cons_append]
  have hk:¬ p.1=k:=fun z=>by rw [bV z] at hn;cases hn
  rw [bW hk] at hn
  have ih:=lP k j y r hn
  by_cases e:p.1=j
  ·rw [bV e,bV e,if_neg (fun z=>hk (e.trans z))]
  ·rw [bW e,bW e,ih]
theorem kI (kvs:List (κ×V)) (k j:κ) (y:V):dU (pY kvs k y) j=if j=k then some y else dU kvs j:=by
 unfold pY
 by_cases a:(kvs.any fun kv=>decide (kv.1=k))=true
 ·rw [if_pos a,oW]
  rw [kH] at a
  by_cases e:j=k
  ·obtain ⟨x,hx⟩:=Option.isSome_iff_exists.mp a
   rw [if_pos e,e,hx,Option.map_some,if_pos rfl]
  ·rw [if_neg e]
   cases dU kvs j with
   | none=>rfl
   | some x=>rw [Option.map_some,if_neg e]
 ·rw [if_neg a]
  refine lP k j y kvs ?_
  rw [kH] at a
  cases q:dU kvs k with
  | none=>rfl
  | some x=>rw [q] at a;exact (a rfl).elim
theorem i3 (kvs:List (κ×V)) (k:κ) (v:V):(pY kvs k v).length≤kvs.length+1:=by
 unfold pY
 split
 ·rw [List.length_map];omega
 ·rw [List.length_append,List.length_cons,List.length_nil];omega
theorem KV.val {kvs:List (κ×V)} {vs:List (κ×Value)} (r:KV kvs vs) (k:κ):RelO (dU kvs k) (valueAt vs k):=by
 unfold KV at r
 induction r with
 | nil=>exact True.intro
 | @cons p q ps qs h t ih=>
  obtain ⟨h1,h2⟩:=h
  by_cases e:p.1=k
  ·have e':q.1=k:=h1.symm.trans e
   have b:valueAt (q :: qs) k=some q.2:=by simp [valueAt,List.find?_cons,e']
   rw [bV e,b];exact h2
  ·have e':¬ q.1=k:=fun z=>e (h1.trans z)
   have b:valueAt (q :: qs) k=valueAt qs k:=by simp [valueAt,List.find?_cons,e']
   rw [bW e,b];exact ih
theorem KV.any {kvs:List (κ×V)} {vs:List (κ×Value)} (r:KV kvs vs) (k:κ):(kvs.any fun kv=>decide (kv.1=k))=vs.any fun kv=>decide (kv.1=k):=by
 unfold KV at r
 induction r with
 | nil=>rfl
 | cons h t ih=>rw [List.any_cons,List.any_cons,ih,h.1]
theorem KV.repl {kvs:List (κ×V)} {vs:List (κ×Value)} (r:KV kvs vs) (k:κ) {y:V} {u:Value} (ry:RelV y u) :
  KV (kvs.map fun kv=>if kv.1=k then (kv.1,y) else kv) (vs.map fun kv=>if kv.1=k then (kv.1,u) else kv):=by
 unfold KV at r ⊢
 induction r with
 | nil=>exact .nil
 | @cons p q ps qs h t ih=>
  rw [List.map_cons,List.map_cons]
  refine .cons ?_ ih
  obtain ⟨h1,h2⟩:=h
  by_cases e:p.1=k
  ·rw [if_pos e,if_pos (h1.symm.trans e)];exact ⟨h1,ry⟩
  ·rw [if_neg e,if_neg (fun z=>e (h1.trans z))];exact ⟨h1,h2⟩
theorem KV.put {kvs:List (κ×V)} {vs:List (κ×Value)} (r:KV kvs vs) (k:κ) {y:V} {u:Value} (ry:RelV y u):KV (pY kvs k y) (stored vs k u):=by
 unfold pY stored
 rw [r.any k]
 by_cases e:(vs.any fun kv=>decide (kv.1=k))=true
 ·rw [if_pos e,if_pos e];exact r.repl k ry
 ·rw [if_neg e,if_neg e];exact Paired.snoc r ⟨rfl,ry⟩
theorem KV.length {kvs:List (κ×V)} {vs:List (κ×Value)} (r:KV kvs vs):kvs.length=vs.length:=Paired.length r
end
theorem Bj {P:Program} {w:World} {k:Key} {u:Value} (r:RelV (kV k) u):(cV P w).is k u=true:=by
 cases k with
 | inl i=>obtain ⟨t,e⟩:=(show ∃ t,u=Value.int i t from r);subst e;exact mU P w i t
 | inr x=>obtain ⟨t,e⟩:=(show ∃ t,u=Value.str x t from r);subst e;exact mV P w x t
abbrev KT (H:Hp):List (List Key×V)→List (List Key×Addr×Value)→Prop:=Paired fun p q=>p.1=q.1∧H q.2.1=some (.tup (p.1.map kV))∧RelV p.2 q.2.2
section
variable {P:Program} {w:World} {H:Hp} {h:Heap} {a:Addr}
theorem Bk {u:HO} (ok:HOk P w H h) (e:Rd H a u):ObjOk P w H h a u:=e.ok ok
theorem Bl {kvs:List (Key×V)} (ok:HOk P w H h) (e:Rd H a (.dK kvs)):kvs.length≤sizeLine∧(a == sysModules)=false∧∃ vs,KV kvs vs∧h.DictOf (cV P w) a vs:=
 show ObjOk P w H h a (.dK kvs) from Bk ok e
theorem Bm {kvs:List (Key×V)} (ok:HOk P w H h) (e:H a=some (.dK kvs)):kvs.length≤sizeLine∧(a == sysModules)=false∧∃ vs,KV kvs vs∧h.DictOf (cV P w) a vs:=Bl ok (.inl e)
end
def xl (H:Hp) (a:Addr) (y:V) (r:Option V):Prop:=
 (∃ kvs k,Rd H a (.dK kvs)∧y=kV k∧r=dU kvs k)∨∃ kvs k b,Rd H a (.dT kvs)∧y = .ref b∧H b=some (.tup (k.map kV))∧r=dU kvs k
def Bn (H:Hp) (a:Addr) (y v:V) (H':Hp):Prop:=
 (∃ kvs k,H a=some (.dK kvs)∧y=kV k∧kvs.length < sizeLine∧H'=upd H a (.dK (pY kvs k v))) ∨
 ∃ kvs k b,H a=some (.dT kvs)∧y = .ref b∧H b=some (.tup (k.map kV))∧kvs.length < sizeLine∧H'=upd H a (.dT (pY kvs k v))
section
variable {X:Cx} {pins:List (Addr×Obj)} {σ:St} {H:Hp} {s:Shared} {a:Addr} {y v:V} {u r:Value} {o:Option V} {A:Around} {E:Value→Shared→Prop}
theorem Inv.big (I:Inv X pins σ H s):sysModules < s.heap.objs.size:=by
 have h:mainGlobals < s.heap.objs.size:=(I.mod.glob.keeps I.bk).lt
 exact Nat.lt_trans (by decide) h
theorem xm {h':Heap} {t':Nat} {ob:HO} (I:Inv X pins σ H s) (mu:Mut (H a)) (hs:Heap.SameBut a s.heap h') (he:∃ q,h'.get? a=some q) (new:ObjOk X.prog X.w (upd H a ob) h' a ob) :
  Inv X pins σ (upd H a ob) {s with heap:=h',toks:=t'}:=
 I.write (x:=a) (e:=a) mu (.inl rfl) (fun b q hb z=>(hs.2 b hb).trans z) he new
theorem zn {P:Program} {w:World} {H':Hp} {h':Heap} {kvs:List (Key×V)} {vs:List (Key×Value)} (z:kvs.length≤sizeLine) (hd:(a == sysModules)=false) (rel:KV kvs vs) (dd:h'.DictOf (cV P w) a vs) :
  ObjOk P w H' h' a (.dK kvs):=⟨z,hd,vs,rel,dd⟩
end
section
variable {X:Cx} {pins:List (Addr×Obj)} {σ:St} {H:Hp} {s:Shared} {a:Addr} {kvs:List (Key×V)} {k:Key} {u:Value} {A:Around} {E:Value→Shared→Prop}
end
def Dp (i:Expr):Prop:=∀ ov iv,subscripted i false ov iv=operate [ov,iv] (getItem ov iv)
def CO (td ty:TE):TE:=fun σ H Q=>td σ H fun x H1=>ty σ H1 fun y H2=>∃ a v,x = .ref a∧xl H2 a y (some v)∧Q v H2
def Dq (ty td:TE):TE:=fun σ H Q=>ty σ H fun y H1=>td σ H1 fun x H2=>∃ a o,x = .ref a∧xl H2 a y o∧Q (.bl o.isSome) H2
def Bo (ty td:TE):TE:=fun σ H Q=>ty σ H fun y H1=>td σ H1 fun x H2=>∃ a o,x = .ref a∧xl H2 a y o∧Q (.bl (!o.isSome)) H2
def CP (td ty tv:TE):TS:=fun D σ H=>tv σ H fun v H1=>td σ H1 fun x H2=>ty σ H2 fun y H3=>∃ a H4,x = .ref a∧Bn H3 a y v H4∧D.nx σ H4
def CQ (td ty tv:TE) (rd:V→V→Hp→VK→Prop):TS:=fun D σ H=>td σ H fun x H1=>ty σ H1 fun y H2=>∃ a v,x = .ref a∧xl H2 a y (some v) ∧
 tv σ H2 fun y2 H3=>rd v y2 H3 fun z H4=>∃ H5,Bn H4 a y z H5∧D.nx σ H5
def CS (td ty:TE):TS:=fun D σ H=>td σ H fun x H1=>ty σ H1 fun y H2=>∃ a kvs k,x = .ref a∧H2 a=some (.dK kvs)∧y=kV k∧(dU kvs k).isSome=true∧D.nx σ (upd H2 a (.dK (xk kvs k)))
section
variable {X:Cx} {o i e value:Expr} {pos pos' tpos:Pos} {td ty tv:TE}
end
theorem uU {P:Program} {w:World} {H:Hp} (h:Heap) (hb:sysModules < h.objs.size):ObjOk P w H (h.push {cls := .type "dict",data := .dict #[]}) h.objs.size (.dK []):=
 ⟨Nat.zero_le _,beq_eq_false_iff_ne.mpr (Ne.symm (Nat.ne_of_lt hb)),[],.nil,Heap.DictOf.new h⟩
def zo:TE:=fun _ H Q=>∀ p,H p=none→Q (.ref p) (upd H p (.dK []))
def B6:TE:=fun _ H Q=>∀ p,H p=none→Q (.ref p) (upd H p (.dT []))
section
variable {X:Cx} {pos:Pos}
theorem uV:PE X (.Dict [] [] pos) zo:=fun pins s σ H Q I h=>
 wpAny_Dict_empty ⟨.ref s.heap.objs.size,_,I.laid (a:=s.heap.objs.size) (o := .dK []) (t':=s.toks) (fun _ _ q=>Heap.get?_push_of_some _ q) (Nat.le_refl _) (uU s.heap I.big),rfl,h _ (I.hok.fresh (Nat.le_refl _))⟩
end
def so:List (TE×TE)→St→Hp→(List (V×V)→Hp→Prop)→Prop
 | [],_,H,Q=>Q [] H
 | (tk,tv) :: r,σ,H,Q=>tk σ H fun x H1=>tv σ H1 fun y H2=>so r σ H2 fun ps H3=>Q ((x,y) :: ps) H3
abbrev VV:List (V×V)→List (Value×Value)→Prop:=Paired fun p q=>RelV p.1 q.1∧RelV p.2 q.2
def PPs (X:Cx) (pos:Pos) (keys:List (Option Expr)) (values:List Expr) (trs:List (TE×TE)):Prop:=
 ∀ (pins:List (Addr×Obj)) (s:Shared) (σ:St) (H:Hp) (Q:List (V×V)→Hp→Prop),Inv X pins σ H s→so trs σ H Q →
  wpAny (model X.prog X.w) X.A (evalPairs (pairTrees keys values X.env pos)) (fun vs s'=>∃ ps H',Inv X pins σ H' s'∧VV ps vs∧Q ps H') X.xe s
def sq (kvs more:List (Key×V)):List (Key×V):=more.foldl (fun acc kv=>pY acc kv.1 kv.2) kvs
def CT (trs:List (TE×TE)):TE:=fun σ H Q=>∀ p,H p=none→so trs σ (upd H p (.dK [])) fun ps H2=>H2 p=some (.dK [])∧∃ kvs:List (Key×V),ps=kvs.map (fun kv=>(kV kv.1,kv.2))∧kvs.length≤15∧Q (.ref p) (upd H2 p (.dK (sq [] kvs)))
structure M1 (X:Cx) (o:Expr) (m:Str) (apos:Pos) (e:Expr) (cpos:Pos):Prop where
 base:attributeBase o m X.env (eval o X.env)=eval o X.env
 few:((backTo cpos (starEach [e] X.env)).all (fun x => !x.1) && (backToKw cpos (keywordEach [] X.env)).all (fun x=>x.1.isSome)
  && decide (([e]:List Expr).length+([]:List Keyword).length+(if ([]:List Keyword).isEmpty then 0 else 1) < 30))=true
 line:(apos.endLine == cpos.line)=true
 trees:backTo cpos (starEach [e] X.env)=[(false,eval e X.env)]
structure M2 (X:Cx) (o:Expr) (m:Str) (apos:Pos) (e f:Expr) (cpos:Pos):Prop where
 base:attributeBase o m X.env (eval o X.env)=eval o X.env
 few:((backTo cpos (starEach [e,f] X.env)).all (fun x => !x.1) && (backToKw cpos (keywordEach [] X.env)).all (fun x=>x.1.isSome)
  && decide (([e,f]:List Expr).length+([]:List Keyword).length+(if ([]:List Keyword).isEmpty then 0 else 1) < 30))=true
 line:(apos.endLine == cpos.line)=true
 trees:backTo cpos (starEach [e,f] X.env)=[(false,eval e X.env),(false,eval f X.env)]
def IsD (H:Hp) (a:Addr):Prop:=(∃ kvs,Rd H a (.dK kvs))∨∃ kvs,Rd H a (.dT kvs)
section
variable {X:Cx} {pins:List (Addr×Obj)} {σ:St} {H:Hp} {s:Shared} {a:Addr} {y d:V} {u r:Value} {o:Option V} {A:Around} {E:Value→Shared→Prop}
end
def B7 (td ty:TE):TE:=fun σ H Q=>td σ H fun x H1=>∃ a,x = .ref a∧IsD H1 a∧ty σ H1 fun y H2=>∃ o,xl H2 a y o∧Q (o.getD .non) H2
def B8 (td ty tx:TE):TE:=fun σ H Q=>td σ H fun x H1=>∃ a,x = .ref a∧IsD H1 a∧ty σ H1 fun y H2=>tx σ H2 fun z H3=>∃ o,xl H3 a y o∧Q (o.getD z) H3
def B9 (td ty:TE):TE:=fun σ H Q=>td σ H fun x H1=>∃ a,x = .ref a∧IsD H1 a∧ty σ H1 fun y H2=>∃ kvs k v,H2 a=some (.dK kvs)∧y=kV k∧dU kvs k=some v∧Q v (upd H2 a (.dK (xk kvs k)))
def Ca (td ty tx:TE):TE:=fun σ H Q=>td σ H fun x H1=>∃ a,x = .ref a∧IsD H1 a∧ty σ H1 fun y H2=>tx σ H2 fun z H3=>∃ kvs k,H3 a=some (.dK kvs)∧y=kV k ∧
 (∀ v,dU kvs k=some v→Q v (upd H3 a (.dK (xk kvs k))))∧(dU kvs k=none→Q z H3)
section
variable {X:Cx} {o e f:Expr} {apos cpos:Pos} {td ty tx:TE}
end
section
variable {X:Cx} {pins:List (Addr×Obj)} {σ:St} {H:Hp} {s:Shared} {a:Addr} {kvs:List (Key×V)} {A:Around} {E:Value→Shared→Prop}
end
section
variable {X:Cx} {pins:List (Addr×Obj)} {σ:St} {H:Hp} {s:Shared} {a:Addr} {y:V} {u:Value} {A:Around} {E:Value→Shared→Prop}
end
end L2
set_option maxHeartbeats 4000000
set_option maxRecDepth 100000
namespace L2
open PySem PySem.Spec PyProof.Rows
def CU:V→V→Hp→VK→Prop:=fun x y H Q=>∃ a v,x = .ref a∧xl H a y (some v)∧Q v H
def CV (v:V):V→V→Hp→(Hp→Prop)→Prop:=fun x y H N=>∃ a H4,x = .ref a∧Bn H a y v H4∧N H4
def CW:V→List V→Hp→VK→Prop:=fun x vs H Q=>∃ d o kvs more,x = .ref d∧vs=[.ref o]∧H d=some (.dK kvs)∧H o=some (.dK more)∧d≠o∧kvs.length+more.length≤1000∧Q .non (upd H d (.dK (sq kvs more)))
theorem xo {K:PySem.W.Frag} {p:Addr} {kvs:List (Key×V)} {H:Hp} (e:At H p (.dK kvs)):tyV K "dict" (.ref p) H := .inr (.inr (.inl ⟨rfl,.inl ⟨kvs,e⟩⟩))
end L2
namespace L2
open PySem PySem.Spec PyProof.Rows
section
variable {X:Cx} {K:PySem.W.Frag}
def CY (K:PySem.W.Frag):R2:=fun x y H Q=>∃ a b xs ys,x = .ref a∧y = .ref b∧SqL K H a xs∧SqL K H b ys∧xs.length+ys.length≤sizeLine∧∀ p,H p=none→Q (.ref p) (upd H p (.lst (xs++ys)))
end
def zq (t:TS):TS:=fun D σ H=>∃ p xs,H p=some (.lst xs)∧∀ o,t D σ (upd H p (.frz o (.lst xs)))
theorem xp {X:Cx} {ss:List Stmt} {t:TS} (h:PSs X ss t):PSs X ss (zq t):=by
 rintro pins s σ H D I ⟨p,xs,e,q⟩
 obtain ⟨o,I2⟩:=I.freeze e
 exact h pins s σ _ D I2 (q o)
theorem xq {t:TS} {D:Ends} {s:St} {H:Hp} {p:Addr} {xs:List V} (e:At H p (.lst xs)) (h:∀ o,t D s (upd H p (.frz o (.lst xs)))):zq t D s H:=⟨p,xs,e,h⟩
end L2
namespace L2
open PySem PySem.Spec PyProof.Rows
def CZ (p:Addr):List (V×V)→Hp→VK→Prop:=fun ps H2 Q=>H2 p=some (.dK [])∧∃ kvs:List (Key×V),ps=kvs.map (fun kv=>(kV kv.1,kv.2))∧kvs.length≤15∧Q (.ref p) (upd H2 p (.dK (sq [] kvs)))
end L2
set_option maxHeartbeats 4000000
set_option maxRecDepth 100000
namespace L2
open PySem PySem.Spec PyProof.Rows
section
variable {X:Cx} {K:PySem.W.Frag} {H:Hp}
theorem oX {bs:List Bool}:∀ {us:List Value},Vals (bs.map V.bl) us→us=bs.map Value.bool:=by
 induction bs with
 | nil=>intro us r;rw [List.map_nil] at r;cases r;rfl
 | cons b bs ih=>
  intro us r
  rw [List.map_cons] at r
  cases r with
  | cons h t=>
   have h:_=Value.bool b:=h
   rw [h,ih t]
   rfl
def pZ:Value→Bool
 | .bool b=>b
 | _=>false
theorem vH {A:Around} {s:Shared} {bs:List Bool} {y:Value} (h:y∈bs.map Value.bool):SeqAt.EqAt A s y (.bool true) (pZ y):=by
 obtain ⟨b,_,rfl⟩:=List.mem_map.mp h
 have:=q9 (A:=A) (s:=s) (y := .bl b) (x := .bl true) (u := .bool b) (v := .bool true) rfl rfl rfl rfl
 have e:eqV (.bl b) (.bl true)=pZ (.bool b):=by cases b <;> rfl
 rw [e] at this
 exact this
theorem sr (bs:List Bool):(bs.map Value.bool).countP pZ=bs.count true:=by
 rw [List.countP_map,List.count]
 congr 1
 funext b
 cases b <;> rfl
def su:V→List V→Hp→VK→Prop:=fun x vs H Q=>∃ (l:Addr) (bs:List Bool),x = .ref l∧vs=[.bl true]∧H l=some (.lst (bs.map V.bl))∧Q (.int (bs.count true:Nat)) H
theorem uW:MtM X "list.count" su:=by
 intro pins s σ H x vs v us Q I rx rv h
 obtain ⟨l,bs,rfl,rfl,hS,q⟩:=h
 cases rx
 obtain ⟨u,rfl,ru⟩:=rv.one
 obtain rfl:u=Value.bool true:=ru
 obtain ⟨its,r,pl,hz⟩:=I.list (SqL.of (K:=X.K) hS)
 obtain rfl:=oX r
 obtain ⟨⟨cls,dd,data,sl⟩,ho,hc,n,hd⟩:=id pl.isList
 simp only at hc hd
 subst hc hd
 refine call_meets PySem.F.slot_list_count ⟨_,ho,rfl⟩ PySem.F.entry_list_count (PySem.F.args_list_count_2 _ _)
  (SeqAt.list_countAt l _ n dd sl (.bool true) pZ) ⟨ho,fun y hy=>vH (by simpa using hy),?_⟩
 have e:(bs.map Value.bool).toArray.toList.countP pZ=bs.count true:=sr bs
 rw [e]
 exact ⟨.int _,H,I.tok _,⟨_,rfl⟩,q⟩
def sB:V→List V→Hp→VK→Prop:=fun x vs H Q=>∃ (l:Addr) (bs:List Bool),x = .ref l∧vs=[.bl true]∧H l=some (.lst (bs.map V.bl))∧true∈bs∧Q (.int (bs.idxOf true:Nat)) H
theorem sC:MtM X "list.index" sB:=by
 intro pins s σ H x vs v us Q I rx rv h
 obtain ⟨l,bs,rfl,rfl,hS,hk,q⟩:=h
 cases rx
 obtain ⟨u,rfl,ru⟩:=rv.one
 obtain rfl:u=Value.bool true:=ru
 obtain ⟨its,r,pl,hz⟩:=I.list (SqL.of (K:=X.K) hS)
 obtain rfl:=oX r
 obtain ⟨⟨cls,dd,data,sl⟩,ho,hc,n,hd⟩:=id pl.isList
 simp only at hc hd
 subst hc hd
 have hj:bs.idxOf true < bs.length:=List.idxOf_lt_length_iff.mpr hk
 rw [List.length_map] at hz
 have e24:sizeLine=16777216:=by decide +kernel
 refine call_meets PySem.F.slot_list_index ⟨_,ho,rfl⟩ PySem.F.entry_list_index (PySem.F.args_list_index_2 _ _)
  (SeqAt.list_indexAt l (bs.map Value.bool).toArray n dd sl (.bool true) pZ (bs.idxOf true) (by simpa using hj) (by omega) ?_ ?_) ⟨ho,fun y hy=>vH (by simpa using hy),?_⟩
 ·have e:(bs.map Value.bool).toArray[bs.idxOf true]'(by simpa using hj)=Value.bool bs[bs.idxOf true]:=by simp
  rw [e]
  show bs[bs.idxOf true]=true
  exact List.getElem_idxOf hj
 ·intro j hjs hlt
  have hb:j < bs.length:=by omega
  have e:(bs.map Value.bool).toArray[j]'hjs=Value.bool bs[j]:=by simp
  rw [e]
  show bs[j]=false
  have:=List.not_of_lt_findIdx (p:=fun x=>x == true) (xs:=bs) (i:=j) hlt
  simpa using this
 ·exact ⟨.int _,H,I.tok _,⟨_,rfl⟩,q⟩
theorem lQ {l:Addr} {bs:List Bool} {Q:VK} (e:At H l (.lst (bs.map V.bl))) (h:Q (.int (bs.count true:Nat)) H):su (.ref l) [.bl true] H Q:=⟨l,bs,rfl,rfl,e,h⟩
theorem lR {l:Addr} {bs:List Bool} {Q:VK} (e:At H l (.lst (bs.map V.bl))) (hk:true∈bs) (h:Q (.int (bs.idxOf true:Nat)) H):sB (.ref l) [.bl true] H Q:=⟨l,bs,rfl,rfl,e,hk,h⟩
def TFr (K:PySem.W.Frag) (H:Hp) (v:V) (f:Int×List Int):Prop:=∃ t r,v = .ref t∧SqT K H t [.int f.1,.ref r]∧SqL K H r (f.2.map V.int)
theorem zr {x y:V} {f:Int×List Int} (hx:TFr K H x f) (hy:TFr K H y f):EqK K H 3 x y true:=by
 obtain ⟨t,r,rfl,ht,hr⟩:=hx
 obtain ⟨t',r',rfl,ht',hr'⟩:=hy
 intro X e
 subst e
 refine rA ?_ fun _=>rfl
 have h:=rs (X:=X) (n:=1) (e:=fun _=>true) ht ht' fun j x y ex ey=>by
  match j,ex,ey with
  | 0,ex,ey=>
   cases ex
   cases ey
   have:=nh (X:=X) (H:=H) f.1 f.1
   rw [beq_self_eq_true] at this
   exact this.mono (by omega)
  | 1,ex,ey=>
   cases ex
   cases ey
   have:=r6 hr hr'
   rw [decide_eq_true rfl] at this
   exact rA this fun _=>rfl
 have e:(List.range (min ([V.int f.1,.ref r]:List V).length ([V.int f.1,.ref r']:List V).length)).all (fun _=>true) && ([V.int f.1,.ref r]:List V).length == ([V.int f.1,.ref r']:List V).length:=by rfl
 rw [e] at h
 exact h.mono (by omega)
theorem xr {a b:Addr} {xs ys:List V} {fs:List (Int×List Int)} (ha:SqL K H a xs) (hb:SqL K H b ys) (hx:xs.length=fs.length) (hy:ys.length=fs.length) (px:∀ (j:Nat) x f,xs[j]? = some x→fs[j]? = some f→TFr K H x f) (py:∀ (j:Nat) x f,ys[j]? = some x→fs[j]? = some f→TFr K H x f):RcK K H 8 (.ref a) (.ref b) true:=by
 intro X e
 subst e
 have h:=ko (X:=X) (n:=3) (e:=fun _=>true) ha hb (hx.trans hy.symm) fun j x y ex ey=>by
  have hj:j < fs.length:=by rw [← hx];exact (List.getElem?_eq_some_iff.mp ex).1
  exact zr (px j x _ ex (List.getElem?_eq_getElem hj)) (py j y _ ey (List.getElem?_eq_getElem hj)) X rfl
 rw [show (List.range xs.length).all (fun _=>true)=true from List.all_eq_true.mpr fun _ _=>rfl] at h
 exact h.mono (by omega)
theorem uX {a b:Addr} {xs ys:List V} {fs:List (Int×List Int)} {Q:VK} (ha:SqL K H a xs) (hb:SqL K H b ys) (hx:xs.length=fs.length) (hy:ys.length=fs.length) (px:∀ (j:Nat) x f,xs[j]? = some x→fs[j]? = some f→TFr K H x f) (py:∀ (j:Nat) x f,ys[j]? = some x→fs[j]? = some f→TFr K H x f) (h:Q (.bl false) H):Ab K (.ref a) (.ref b) H Q:=⟨true,xr ha hb hx hy px py,h⟩
end
end L2
namespace L2
open PySem PySem.Spec PyProof.Rows
class PEc (X:Cx) (e:Expr) (t:outParam TE):Prop where
 out:PE X e t
class PPc (X:Cx) (pos:Pos) (ks:List (Option Expr)) (vs:List Expr) (ts:outParam (List (TE×TE))):Prop where
 out:PPs X pos ks vs ts
 all:ks.all (·.isSome)=true
 len:ks.length=vs.length
section
variable {X:Cx} {p pos:Pos}
end
end L2
namespace L2
open PySem
theorem aQ {N P:List Str} {sc:Scope} (a:sc.kind = .function:=by rfl) (b:sc.isCoroutine=false:=by rfl) (c:sc.isGenerator=false:=by rfl) (d:N.Nodup:=by decide +kernel) (e:N.take P.length=P:=by rfl) (f:∀ x∈P,sc.names.lookup x=some .local∨sc.names.lookup x=some .cell:=by decide +kernel) (g:∀ y∈sc.names,y.2 ≠ .free:=by decide +kernel):FnScope N P sc:=⟨a,b,c,d,e,f,g⟩
end L2
set_option maxHeartbeats 4000000
set_option maxRecDepth 100000
namespace L2
open PySem PySem.Spec PyProof.Rows
section
variable {X:Cx}
def Bp:V→List V→Hp→VK→Prop:=fun x vs H Q=>∃ (d:Addr) (kvs:List (Key×V)) (k:Key) (y:V),x = .ref d∧vs=[kV k,y]∧H d=some (.dK kvs)∧kvs.length≤900∧(∀ w,dU kvs k=some w→Q w H)∧(dU kvs k=none→Q y (upd H d (.dK (pY kvs k y))))
theorem sD:MtR X "dict.setdefault" Bp:=by
 rintro pins s σ H x vs v us Q I rx rv ⟨d,kvs,k,y,rfl,rfl,ed,hl,q1,q2⟩
 obtain rfl:v=Value.ref d:=rx
 obtain ⟨u1,u2,rfl,r1,r2⟩:=yd rv
 obtain ⟨z,n,ws,r,dd⟩:=Bm I.hok ed
 have lw:=r.length
 refine call_meetsIn PySem.F.slot_dict_setdefault dd.typeIs PySem.F.entry_dict_setdefault (PySem.F.args_dict_setdefault_3 _ _ _) (kt_meets_setdefault (cV X.prog X.w) d (Bj r1) n u2) ⟨ws,dd,by omega,fun w hw => ?_,fun hn h' hd' hs => ?_⟩
 ·have ro:=r.val k
  rw [hw] at ro
  cases e:dU kvs k with
  | none=>rw [e] at ro;exact ro.elim
  | some y'=>
   rw [e] at ro
   exact ⟨y',H,I.tok _,ro,q1 y' e⟩
 ·have ro:=r.val k
  rw [hn] at ro
  have e:dU kvs k=none:=by
   cases e:dU kvs k with
   | none=>rfl
   | some y'=>rw [e] at ro;exact ro.elim
  have lm:(pY kvs k y).length≤sizeLine:=by
   have:=i3 kvs k y
   have:901≤sizeLine:=by decide +kernel
   omega
  refine ⟨y,_,xm (t':=s.toks+1) I (by rw [ed];exact True.intro) hs ?_ (zn lm n (r.put k r2) hd'),r2,q2 e⟩
  obtain ⟨ob,_,_,e1,_⟩:=hd'
  exact ⟨ob,e1⟩
def sF (K:PySem.W.Frag):List V→Hp→VK→Prop:=fun xs H Q=>∃ (p:Addr) (ns:List Int),xs=[.ref p]∧SqL K H p (ns.map V.int)∧ns.length < 64∧∀ (D:Addr) (ms:List Int),aI H D→ms.Perm ns→ms.Pairwise (·≤·)→Q (.ref D) (upd H D (.lst (ms.map V.int)))
theorem ny:dm X (.builtin "sorted") (sF X.K):=by
 intro pins s σ H xs us Q I r h
 obtain ⟨p,ns,rfl,hq,hl,q⟩:=h
 obtain ⟨u,rfl,rx⟩:=ke r
 cases rx
 obtain ⟨its,r',pl,hz⟩:=I.list hq
 have hI:=eJ r'
 have hlen:=hI.length
 refine sorted_ints pl.isList hI (by omega) fun out ms a1 a2 a3 => ?_
 obtain ⟨e,he⟩:=sortedAll_at s.heap its out
 have lm:ms.length=ns.length:=a2.length_eq
 have ho:out=out.toList.toArray:=by simp
 refine ⟨.ref _,_,I.laid (t':=s.toks) (o := .lst (ms.map V.int)) (fun _ _ z=>sortedAll_old z) (Nat.le_succ _) ⟨?_,out.toList,e,iW a1,?_⟩,rfl,q _ ms (I.hok.fresh (Nat.le_succ _)) a2 a3⟩
 ·rw [List.length_map]
  have:64≤sizeLine:=by decide +kernel
  omega
 ·rw [← ho]
  exact he
theorem lS {K:PySem.W.Frag} (hK:X.K=K:=by rfl):dm X (.builtin "sorted") (sF K):=hK ▸ ny
end
end L2
set_option maxHeartbeats 4000000
set_option maxRecDepth 100000
namespace L2
open PySem PySem.Spec PyProof.Rows
section
variable {pr:Program} {wd:World} {Ar:Around} {Rr:Result→Shared→Prop} {It Sd:Addr} {fp wr:List Addr} {nn:Nat} {Pi:Nat→Value→Prop} {Sw:Nat→Heap→Prop} {G:Heap→Prop}
def Bq (pr:Program) (wd:World) (Ar:Around) (G:Heap→Prop) (Pi:Nat→Value→Prop) (lt:Nat→Nat→Bool):Prop:=
 ∀ a b va vb (st:Shared) (Q:Value→Shared→Prop) (E:Value→Shared→Prop),G st.heap→Pi a va→Pi b vb→Q (.bool (lt a b)) st→wpAny (model pr wd) Ar (richCompare .Lt va vb) Q E st
theorem uY (Wk:Walks pr wd Ar.in1 It fp wr nn Pi Sw) (lt:Nat→Nat→Bool) (cmp:Bq pr wd Ar.in1 G Pi lt) (nSf:Sd∉fp)
  (keep:∀ h h',(∀ b o,b∉wr→b≠Sd→h.get? b=some o→h'.get? b=some o)→G h→G h') :
  ∀ (todo j:Nat) (st:Shared) (best:Value) (ep:Nat),nn - (j+1)=todo→j+1≤nn→Sw (j+1) st.heap→G st.heap→Pi (argBest lt j) best →
   st.heap.get? Sd=some {cls := .type "list",dict:=none,data := .seq #[best,best] ep,slots:=#[]} →
   (∀ v h' tk,Pi (argBest lt (nn - 1)) v→(∀ b o,b∉wr→b≠Sd→st.heap.get? b=some o→h'.get? b=some o)→Rr (.ok (.ret v)) {st with heap:=h',toks:=tk}) →
   codeAny (model pr wd) Ar (.builtin "min.loop" ⟨[.ref It,.none,.ref Sd],[]⟩) Rr st:=by
 have nSw:Sd∉wr:=fun z=>nSf (Wk.sub _ z)
 have nm:(toString "min" ++ toString ".loop" : String) = "min.loop" := by decide
 intro todo
 induction todo with
 | zero=>
  intro j st best ep e1 e2 sw g pb sd fin
  have jn:j+1=nn:=by omega
  refine codeAny_builtin F.entry_min_loop ?_;rw [Around.under_plainId F.plain_min_loop _]
  refine wpAny_bind (m:=seqItems? (.ref Sd)) (wpAny_seqItems sd rfl ?_)
  refine wpAny_bind (m:=tryCatch (pyNext (.ref It)) _) (wpAny_tryCatch (Wk.done st _ _ (jn ▸ sw) fun h1 t1 k1 => ?_))
  refine wpAny_bind (m:=updateSeq Sd (fun _=>#[])) (wpAny_updateSeq (k1 Sd _ nSw sd) rfl (wpAny_bind (wpAny_letGo (wpAny_pure ?_))))
  exact fin best _ t1 (by rw [← jn];exact pb) fun b o hb hs z=>(Heap.get?_update_other _ _ (Ne.symm hs)).trans (k1 b o hb z)
 | succ todo more=>
  intro j st best ep e1 e2 sw g pb sd fin
  have jn:j+1 < nn:=by omega
  refine codeAny_builtin F.entry_min_loop ?_;rw [Around.under_plainId F.plain_min_loop _]
  refine wpAny_bind (m:=seqItems? (.ref Sd)) (wpAny_seqItems sd rfl ?_)
  refine wpAny_bind (m:=tryCatch (pyNext (.ref It)) _) (wpAny_tryCatch (Wk.item (j+1) st _ _ jn sw fun v h1 t1 pv sw1 k1 => ?_))
  have sd1:=k1 Sd _ nSw sd
  have g1:G h1:=keep st.heap h1 (fun b o hb _ z=>k1 b o hb z) g
  change wpAny _ Ar.in1 ((holding [v,v] (richCompare .Lt v best >>= _)).tryCatch _ >>= _) _ _ _
  refine wpAny_bind (wpAny_tryCatch (wpAny_holding (wpAny_bind (cmp (j+1) (argBest lt j) v best _ _ _ g1 pv pb ?_))))
  refine wpAny_bind (wpAny_holding (wpAny_truthy_bool (wpAny_bind (wpAny_letGo (wpAny_pure ?_)))))
  cases c:lt (j+1) (argBest lt j) with
  | true=>
   rw [if_pos rfl]
   refine wpAny_bind (wpAny_updateSeq sd1 rfl (wpAny_bind (wpAny_letGo ?_)));rw [nm]
   refine wpAny_pure ⟨plainId_quiet F.plain_min_loop _,more (j+1) _ v _ (by omega) jn (Wk.frame _ _ _ sw1 fun b hb o z => ?_) (keep h1 _ (fun b o _ hs z => ?_) g1) (by unfold argBest;rw [c];exact pv) (Heap.get?_update_self _ sd1 rfl) fun v2 h2 t2 pv2 k2 => ?_⟩
   ·exact (Heap.get?_update_other _ _ (fun q:Sd=b=>nSf (q ▸ hb))).trans z
   ·exact (Heap.get?_update_other _ _ (Ne.symm hs)).trans z
   ·exact fin v2 h2 t2 pv2 fun b o hb hs z=>k2 b o hb hs ((Heap.get?_update_other _ _ (Ne.symm hs)).trans (k1 b o hb z))
  | false=>
   rw [if_neg (by decide)]
   refine wpAny_bind (wpAny_letGo ?_);rw [nm]
   refine wpAny_pure ⟨plainId_quiet F.plain_min_loop _,more (j+1) _ best ep (by omega) jn sw1 g1 (by unfold argBest;rw [c];exact pb) sd1 fun v2 h2 t2 pv2 k2 => ?_⟩
   exact fin v2 h2 t2 pv2 fun b o hb hs z=>k2 b o hb hs (k1 b o hb z)
end
end L2
namespace L2
open PySem PySem.Spec PyProof.Rows
section
variable {pr:Program} {wd:World} {Ar:Around} {Rr:Result→Shared→Prop} {It Sd:Addr} {fp wr:List Addr} {nn:Nat} {Pi:Nat→Value→Prop} {Sw:Nat→Heap→Prop} {G:Heap→Prop}
theorem p9 (Wk:Walks pr wd Ar.in1 It fp wr nn Pi Sw) (lt:Nat→Nat→Bool) (cmp:Bq pr wd Ar.in1 G Pi lt) (nSf:Sd∉fp)
  (keep:∀ h h',(∀ b o,b∉wr→b≠Sd→h.get? b=some o→h'.get? b=some o)→G h→G h') (pos:0 < nn) {st:Shared} {ep:Nat} (sw:Sw 0 st.heap) (g:G st.heap)
  (sd:st.heap.get? Sd=some {cls := .type "list",dict:=none,data := .seq #[] ep,slots:=#[]})
  (fin:∀ v h' tk,Pi (argBest lt (nn - 1)) v→(∀ b o,b∉wr→b≠Sd→st.heap.get? b=some o→h'.get? b=some o)→Rr (.ok (.ret v)) {st with heap:=h',toks:=tk}) :
  codeAny (model pr wd) Ar (.builtin "min.loop" ⟨[.ref It,.none,.ref Sd],[]⟩) Rr st:=by
 have nSw:Sd∉wr:=fun z=>nSf (Wk.sub _ z)
 have nm:(toString "min" ++ toString ".loop" : String) = "min.loop" := by decide
 refine codeAny_builtin F.entry_min_loop ?_;rw [Around.under_plainId F.plain_min_loop _]
 refine wpAny_bind (m:=seqItems? (.ref Sd)) (wpAny_seqItems sd rfl ?_)
 refine wpAny_bind (m:=tryCatch (pyNext (.ref It)) _) (wpAny_tryCatch (Wk.item 0 st _ _ pos sw fun v h1 t1 pv sw1 k1 => ?_))
 have sd1:=k1 Sd _ nSw sd
 have g1:G h1:=keep st.heap h1 (fun b o hb _ z=>k1 b o hb z) g
 change wpAny _ Ar.in1 (updateSeq Sd (fun _=>#[v,v]) >>= _) _ _ _
 refine wpAny_bind (wpAny_updateSeq sd1 rfl ?_);rw [nm]
 refine wpAny_pure ⟨plainId_quiet F.plain_min_loop _,uY (G:=G) Wk lt cmp nSf keep _ 0 _ v _ rfl pos (Wk.frame _ _ _ sw1 fun b hb o z => ?_) (keep h1 _ (fun b o _ hs z => ?_) g1) pv (Heap.get?_update_self _ sd1 rfl) fun v2 h2 t2 pv2 k2 => ?_⟩
 ·exact (Heap.get?_update_other _ _ (fun q:Sd=b=>nSf (q ▸ hb))).trans z
 ·exact (Heap.get?_update_other _ _ (Ne.symm hs)).trans z
 ·exact fin v2 h2 t2 pv2 fun b o hb hs z=>k2 b o hb hs ((Heap.get?_update_other _ _ (Ne.symm hs)).trans (k1 b o hb z))
end
theorem nA:∀ a:List Int,HT.lexLt a a=false
 | []=>rfl
 | x :: a=>by rw [HT.lexLt_cons,if_pos rfl];exact nA a
theorem lT:∀ {a b c:List Int},HT.lexLt a b=true→HT.lexLt b c=true→HT.lexLt a c=true
 | [],[],_,h,_=>by cases h
 | [],_ :: _,[],_,h=>by cases h
 | [],_ :: _,_ :: _,_,_=>rfl
 | _ :: _,[],_,h,_=>by cases h
 | _ :: _,_ :: _,[],_,h=>by cases h
 | x :: a,y :: b,z :: c,h1,h2=>by
  rw [HT.lexLt_cons] at h1 h2 ⊢
  by_cases p:x=y
  ·rw [if_pos p] at h1
   by_cases q:y=z
   ·rw [if_pos q] at h2
    rw [if_pos (p.trans q)]
    exact lT h1 h2
   ·rw [if_neg q] at h2
    have h2:=of_decide_eq_true h2
    rw [if_neg (by omega)]
    exact decide_eq_true (by omega)
  ·rw [if_neg p] at h1
   have h1:=of_decide_eq_true h1
   by_cases q:y=z
   ·rw [if_neg (by omega)]
    exact decide_eq_true (by omega)
   ·rw [if_neg q] at h2
    have h2:=of_decide_eq_true h2
    rw [if_neg (by omega)]
    exact decide_eq_true (by omega)
theorem oY (val:Nat→List Int):∀ k,argBest (fun i j=>HT.lexLt (val i) (val j)) k≤k∧∀ i,i≤k→HT.lexLt (val i) (val (argBest (fun i j=>HT.lexLt (val i) (val j)) k))=false
 | 0=>⟨Nat.le_refl _,fun i hi=>by
  obtain rfl:i=0:=by omega
  exact nA _⟩
 | k+1=>by
  obtain ⟨h1,h2⟩:=oY val k
  unfold argBest
  cases c:HT.lexLt (val (k+1)) (val (argBest (fun i j=>HT.lexLt (val i) (val j)) k)) with
  | true=>
   rw [if_pos rfl]
   refine ⟨Nat.le_refl _,fun i hi => ?_⟩
   by_cases z:i=k+1
   ·rw [z];exact nA _
   ·cases d:HT.lexLt (val i) (val (k+1)) with
    | false=>rfl
    | true=>
     have:=lT d c
     rw [h2 i (by omega)] at this
     cases this
  | false=>
   rw [if_neg (by decide)]
   refine ⟨by omega,fun i hi => ?_⟩
   by_cases z:i=k+1
   ·rw [z];exact c
   ·exact h2 i (by omega)
end L2
namespace L2
open PySem PySem.Spec PyProof.Rows
section
variable {X:Cx}
def Br:List V→Hp→VK→Prop:=fun xs H Q=>∃ (p:Addr) (ts:List (Addr×List Int)),xs=[.ref p]∧H p=some (.lst (ts.map fun t=>V.ref t.1))∧ts≠[]∧(∀ t∈ts,H t.1=some (.tup (t.2.map V.int)))∧∀ t∈ts,(∀ u∈ts,HT.lexLt u.2 t.2=false)→Q (.ref t.1) H
theorem oZ {h h':Heap} {a:Addr} {vs:Array Value} (t:IsTup h a vs) (k:∀ o,h.get? a=some o→h'.get? a=some o):IsTup h' a vs:=let ⟨o,e,m⟩:=t;⟨o,k o e,m⟩
theorem xt {ts:List (Addr×List Int)}:∀ {us:List Value},Vals (ts.map fun t=>V.ref t.1) us→us=ts.map fun t=>Value.ref t.1:=by
 induction ts with
 | nil=>intro us r;rw [List.map_nil] at r;cases r;rfl
 | cons t ts ih=>
  intro us r
  rw [List.map_cons] at r
  cases r with
  | cons a b=>
   have a:_=Value.ref t.1:=a
   rw [a,ih b]
   rfl
theorem kJ {k:Nat} (hr:Room k X.A) (hc:X.calm=true):dm X (.builtin "min") Br:=by
 intro pins s σ H xs us Q I r h
 obtain ⟨p,ts,rfl,hp,hne,ht,q⟩:=h
 obtain ⟨u,rfl,rx⟩:=ke r
 cases rx
 obtain ⟨its,r',pl,hz⟩:=I.list (SqL.of (K:=X.K) hp)
 obtain rfl:=xt r'
 have hnp:p≠s.heap.objs.size:=by
  obtain ⟨o,ho,_⟩:=pl.isList
  exact Nat.ne_of_lt (Heap.lt_size ho)
 have tup:∀ t∈ts,∃ vs:List Value,IntsAre vs t.2∧IsTup s.heap t.1 vs.toArray:=fun t hm=>by
  obtain ⟨vs,rv,it,_⟩:=I.tuple (SqT.of (K:=X.K) (ht t hm))
  exact ⟨vs,eJ rv,it⟩
 have old:∀ t∈ts,t.1 < s.heap.objs.size:=fun t hm=>by
  obtain ⟨_,_,o,e,_⟩:=tup t hm
  exact Heap.lt_size e
 have nm:(toString "min" ++ toString ".loop" : String) = "min.loop" := by decide
 refine call_function_tree F.kind_min F.plain_min F.entry_min (F.args_min1 _) ?_
 refine wpAny_bind (m:=Builtin.Builtins.bindParams "min" ["key", "default"] 0 ⟨[],[]⟩) (wpAny_pure (a:=[none,none]) ?_)
 refine wpAny_bind (wpAny_pure ?_)
 refine wpAny_bind (wpAny_pyIter_list pl.isList ?_)
 refine wpAny_bind (wpAny_newObj_type ?_)
 rw [nm]
 have val:∀ (i:Nat) (v:Value),(ts.map fun t=>Value.ref t.1).toArray[i]? = some v→∃ t∈ts,v = .ref t.1∧(ts.getD i (0,[]))=t:=fun i v hv=>by
  have hv':(ts.map fun t=>Value.ref t.1)[i]? = some v:=by simpa using hv
  rw [List.getElem?_map] at hv'
  obtain ⟨t,e1,e2⟩:=Option.map_eq_some_iff.mp hv'
  exact ⟨t,List.mem_of_getElem? e1,e2.symm,by rw [List.getD_eq_getElem?_getD,e1];rfl⟩
 have cmp:Bq X.prog X.w X.A.in1 (fun h=>∀ t∈ts,∃ vs:List Value,IntsAre vs t.2∧IsTup h t.1 vs.toArray) (fun i v=>(ts.map fun t=>Value.ref t.1).toArray[i]? = some v) (fun i j=>HT.lexLt (ts.getD i (0,[])).2 (ts.getD j (0,[])).2):=by
  intro a b va vb st Q' E' g pa pb qq
  obtain ⟨t1,m1,rfl,e1⟩:=val a va pa
  obtain ⟨t2,m2,rfl,e2⟩:=val b vb pb
  obtain ⟨v1,i1,j1⟩:=g t1 m1
  obtain ⟨v2,i2,j2⟩:=g t2 m2
  dsimp only at qq
  rw [e1,e2] at qq
  exact HT.lt_tupInts j1 j2 (by simpa using i1) (by simpa using i2) (by have:=hr.units;have e:X.A.in1.units=X.A.units+1:=rfl;omega) qq
 refine wpAny_pure ⟨plainId_quiet F.plain_min_loop _,p9 (G:=fun h=>∀ t∈ts,∃ vs:List Value,IntsAre vs t.2∧IsTup h t.1 vs.toArray) (Walks.list (A:=X.A.in1) (I.ok.hd hc) s.heap.objs.size p hnp (ts.map fun t=>Value.ref t.1).toArray) _ cmp (ep:=0) ?_ ?_ ?_ ?_ ?_ (Heap.get?_push_size _ rfl) ?_⟩
 ·show (s.heap.push _).objs.size∉_
  rw [Heap.size_push]
  obtain ⟨o,ho,_⟩:=pl.isList
  have h9:=Heap.lt_size ho
  intro z
  simp only [List.mem_cons,List.not_mem_nil,or_false] at z
  rcases z with z | z
  ·exact Nat.succ_ne_self _ z
  ·rw [← z] at h9
   exact Nat.lt_irrefl _ (Nat.lt_of_succ_lt h9)
 ·intro h1 h2 kk g t hm
  obtain ⟨vs,i,tp⟩:=g t hm
  have hl:=old t hm
  refine ⟨vs,i,oZ tp fun o e=>kk t.1 o (fun z => ?_) (fun z => ?_) e⟩
  ·rw [List.mem_singleton.mp z] at hl
   exact Nat.lt_irrefl _ hl
  ·have e9:(s.heap.push {cls:=Value.type "list_iterator",data:=Data.fields #[Value.ref p,Value.int 0 0]}).objs.size=s.heap.objs.size+1:=Heap.size_push ..
   have z:t.1=(s.heap.push {cls:=Value.type "list_iterator",data:=Data.fields #[Value.ref p,Value.int 0 0]}).objs.size:=z
   rw [z.trans e9] at hl
   exact Nat.lt_irrefl _ (Nat.lt_of_succ_lt hl)
 ·have:=List.length_pos_iff.mpr hne
  simpa using this
 ·exact ⟨⟨_,Heap.get?_push_of_some _ (Heap.get?_push_size _ rfl),rfl,rfl⟩,pl.isList.at fun o e=>Heap.get?_push_of_some _ (Heap.get?_push_of_some _ e)⟩
 ·intro t hm
  obtain ⟨vs,i,tp⟩:=tup t hm
  exact ⟨vs,i,oZ tp fun o e=>Heap.get?_push_of_some _ (Heap.get?_push_of_some _ e)⟩
 ·intro v h' tk pv kk
  obtain ⟨b1,b2⟩:=oY (fun i=>(ts.getD i (0,[])).2) ((ts.map fun t=>Value.ref t.1).toArray.size - 1)
  obtain ⟨t,hm,rfl,et⟩:=val _ v pv
  refine ⟨.ref t.1,H,I.kept fun b o e => ?_,rfl,q t hm fun u hu => ?_⟩
  ·have hl:=Heap.lt_size e
   refine kk b o (fun z => ?_) (fun z => ?_) (Heap.get?_push_of_some _ (Heap.get?_push_of_some _ e))
   ·rw [List.mem_singleton.mp z] at hl
    exact Nat.lt_irrefl _ hl
   ·have e9:(s.heap.push {cls:=Value.type "list_iterator",data:=Data.fields #[Value.ref p,Value.int 0 0]}).objs.size=s.heap.objs.size+1:=Heap.size_push ..
    have z:b=(s.heap.push {cls:=Value.type "list_iterator",data:=Data.fields #[Value.ref p,Value.int 0 0]}).objs.size:=z
    rw [z.trans e9] at hl
    exact Nat.lt_irrefl _ (Nat.lt_of_succ_lt hl)
  ·obtain ⟨i,hi,rfl⟩:=List.getElem_of_mem hu
   have h3:=b2 i (by simp;omega)
   rw [et] at h3
   rw [show ts.getD i (0,[])=ts[i] by simp [List.getD_eq_getElem?_getD,hi]] at h3
   exact h3
end
end L2
namespace BB
def am (n:Int):Nat→List Int
 | 0=>[]
 | k+1=>(n / 2 ^ k % 2) :: am n k
theorem ar (n:Int):∀ k,(am n k).length=k
 | 0=>rfl
 | k+1=>by simp [am,ar n k]
theorem jY (n:Int):∀ m:Nat,(List.range m).map (fun k:Nat=>n / 2 ^ (m - 1 - k) % 2)=am n m
 | 0=>rfl
 | m+1=>by
  rw [List.range_succ_eq_map,List.map_cons,List.map_map,am]
  congr 1
  rw [← jY n m]
  apply List.map_congr_left
  intro k hk
  have:m+1 - 1 - (k+1)=m - 1 - k:=by omega
  show n / 2 ^ (m+1 - 1 - (k+1)) % 2=_
  rw [this]
def Bit (b:Int):Prop:=b=0∨b=1
def Bits (l:List Int):Prop:=∀ b∈l,Bit b
theorem bS (n:Int):∀ k,Bits (am n k)
 | 0=>by intro b hb;cases hb
 | k+1=>by
  intro b hb
  rcases List.mem_cons.mp hb with rfl | hb
  ·unfold Bit;omega
  ·exact bS n k b hb
theorem Bits.nil:Bits []:=by intro b hb;cases hb
theorem Bits.cons {b:Int} {l:List Int} (h:Bit b) (t:Bits l):Bits (b :: l):=by
 intro c hc
 rcases List.mem_cons.mp hc with rfl | hc
 ·exact h
 ·exact t c hc
theorem Bits.head {b:Int} {l:List Int} (h:Bits (b :: l)):Bit b:=h b List.mem_cons_self
theorem Bits.tail {b:Int} {l:List Int} (h:Bits (b :: l)):Bits l:=fun c hc=>h c (List.mem_cons_of_mem _ hc)
theorem Bits.append {l m:List Int} (h:Bits l) (t:Bits m):Bits (l++m):=by
 intro c hc
 rcases List.mem_append.mp hc with hc | hc
 ·exact h c hc
 ·exact t c hc
theorem Bits.take {l:List Int} (h:Bits l) (n:Nat):Bits (l.take n):=fun c hc=>h c (List.mem_of_mem_take hc)
theorem Bits.drop {l:List Int} (h:Bits l) (n:Nat):Bits (l.drop n):=fun c hc=>h c (List.mem_of_mem_drop hc)
theorem Bits.zeros (n:Nat):Bits (List.replicate n 0):=fun c hc => .inl (List.eq_of_mem_replicate hc)
def x2 (a b:Int):Int:=(a+b) % 2
def gr:List Int→List Int→List Int
 | [],r=>r
 | _ :: _,[]=>[]
 | w :: ws,x :: r=>x2 x w :: gr ws r
theorem dq (r:List Int):gr [] r=r:=by unfold gr;rfl
theorem bi (w x:Int) (ws r:List Int):gr (w :: ws) (x :: r)=x2 x w :: gr ws r:=by rw [gr]
theorem o0:∀ ws r,(gr ws r).length=r.length
 | [],r=>by rw [dq]
 | _ :: _,[]=>by simp [gr]
 | w :: ws,x :: r=>by simp [bi,o0 ws r]
def wheel:List Int:=am 17817 15
theorem dW:wheel.length=15:=ar _ _
def du (c:List Int) (b:Int):List Int:=
 if c.headD 0=b then c.tail++[0] else List.zipWith x2 (c.tail++[0]) wheel
theorem sG {c:List Int} (b:Int) (h:c.length=15):(du c b).length=15:=by
 unfold du
 split <;> simp [List.length_zipWith,dW,h]
theorem o5:∀ a b:List Int,Bits (List.zipWith x2 a b)
 | [],_=>by simp [Bits.nil]
 | _ :: _,[]=>by simp [Bits.nil]
 | x :: a,y :: b=>by
  rw [List.zipWith_cons_cons]
  exact (show Bit (x2 x y) by unfold Bit x2;omega) |> fun h=>Bits.cons h (o5 a b)
theorem qd {c:List Int} (b:Int) (h:Bits c):Bits (du c b):=by
 unfold du
 split
 ·refine Bits.append (fun x hx=>h x (List.mem_of_mem_tail hx)) (Bits.cons (.inl rfl) Bits.nil)
 ·exact o5 _ _
theorem kK:∀ (bs c:List Int),c.length=15→(bs.foldl du c).length=15
 | [],_,h=>h
 | b :: bs,c,h=>kK bs (du c b) (sG b h)
theorem i4:∀ (bs c:List Int),Bits c→Bits (bs.foldl du c)
 | [],_,h=>h
 | b :: bs,c,h=>i4 bs (du c b) (qd b h)
theorem o6:∀ (ws cs r:List Int),ws.length=cs.length→gr ws (gr cs r)=gr (List.zipWith x2 cs ws) r
 | [],[],r,_=>by simp [dq]
 | w :: ws,c :: cs,[],_=>by simp [gr]
 | w :: ws,c :: cs,x :: r,h=>by
  rw [List.zipWith_cons_cons,bi,bi,bi,o6 ws cs r (by simpa using h)]
  congr 1
  unfold x2;omega
 | [],_ :: _,_,h=>by simp at h
 | _ :: _,[],_,h=>by simp at h
theorem lU:∀ (cs r:List Int),Bits r→cs.length < r.length→gr (cs++[0]) r=gr cs r
 | [],[],_,h=>by simp at h
 | [],x :: r,hb,_=>by
  show gr [0] (x :: r)=_
  rw [bi,dq,dq]
  congr 1
  rcases hb.head with e | e <;> subst e <;> rfl
 | c :: cs,[],_,h=>by simp at h
 | c :: cs,x :: r,hb,h=>by
  rw [List.cons_append,bi,bi,lU cs r hb.tail (by simpa using h)]
theorem uZ {c0 b:Int} {cs r:List Int} (hb:Bit b) (hc:Bit c0) (hcs:Bits cs) (hr:Bits r) (hl:cs.length=14) (hrl:15≤r.length) :
  (if x2 b c0=1 then gr wheel (gr cs r) else gr cs r)=gr (du (c0 :: cs) b) r:=by
 have ez:gr cs r=gr (cs++[0]) r:=(lU cs r hr (by omega)).symm
 have ec:du (c0 :: cs) b=if c0=b then cs++[0] else List.zipWith x2 (cs++[0]) wheel:=rfl
 rw [ec]
 by_cases e:c0=b
 ·subst e
  have h0:¬ x2 c0 c0=1:=by unfold x2;omega
  rw [if_neg h0,if_pos rfl]
  exact ez
 ·have h1:x2 b c0=1:=by
   unfold x2
   rcases hb with rfl | rfl <;> rcases hc with rfl | rfl <;> first | rfl | exact absurd rfl e
  rw [if_pos h1,if_neg e,ez,o6 _ _ _ (by simp [dW,hl])]
theorem jZ:∀ (cs:List Int),Bits cs→gr cs (List.replicate cs.length 0)=cs
 | [],_=>rfl
 | c :: cs,h=>by
  rw [List.length_cons,List.replicate_succ,bi,jZ cs h.tail]
  congr 1
  rcases h.head with e | e <;> subst e <;> rfl
def zeros15:List Int:=List.replicate 15 0
def chk (bs:List Int):List Int:=bs.foldl du zeros15
theorem cY (bs:List Int):(chk bs).length=15:=kK bs _ (by simp [zeros15])
theorem o8 (bs:List Int):Bits (chk bs):=i4 bs _ (Bits.zeros 15)
def fT (c:Nat) (b:Int):Nat:=
 if ((c / 16384:Nat):Int)=b then c * 2 % 32768 else (c * 2 % 32768) ^^^ 17817
theorem o9 {c:Nat} (b:Int):fT c b < 32768:=by
 unfold fT
 have h1:c * 2 % 32768 < 2 ^ 15:=by omega
 split
 ·omega
 ·exact Nat.xor_lt_two_pow h1 (by decide)
theorem dv (n i:Nat):((n:Int) / 2 ^ i % 2)=((n.testBit i).toNat:Int):=by
 rw [Nat.toNat_testBit]
 push_cast
 rfl
theorem j0 (a b:Nat):∀ k,am ((a ^^^ b:Nat):Int) k=List.zipWith x2 (am a k) (am b k)
 | 0=>rfl
 | k+1=>by
  rw [am,am,am,List.zipWith_cons_cons,j0 a b k]
  congr 1
  rw [dv,dv,dv,Nat.testBit_xor]
  cases a.testBit k <;> cases b.testBit k <;> rfl
theorem iq (a:Nat):∀ k,am ((a * 2:Nat):Int) (k+1)=am a k++[0]
 | 0=>by simp [am]
 | k+1=>by
  rw [am,iq a k,am,List.cons_append]
  congr 1
  rw [dv,dv,Nat.mul_comm,← Nat.pow_one 2,Nat.testBit_two_pow_mul]
  simp
theorem j3 (a:Nat) (m:Nat):∀ k,k≤m→am ((a % 2 ^ m:Nat):Int) k=am a k
 | 0,_=>rfl
 | k+1,h=>by
  rw [am,am,j3 a m k (by omega)]
  congr 1
  rw [dv,dv,Nat.testBit_mod_two_pow]
  simp [show k < m by omega]
theorem nB {c:Nat} (hc:c < 32768) (b:Int):am (fT c b) 15=du (am c 15) b:=by
 have hs:am ((c * 2 % 32768:Nat):Int) 15=(am c 15).tail++[0]:=by
  have:=j3 (c * 2) 15 15 (Nat.le_refl _)
  rw [show (2:Nat) ^ 15=32768 from rfl] at this
  rw [this,iq c 14]
  rfl
 have hh:(am c 15).headD 0=((c / 16384:Nat):Int):=by
  show ((c:Int) / 2 ^ 14 % 2)=_
  omega
 unfold fT du
 rw [hh]
 split
 ·exact hs
 ·rw [j0,hs]
  rfl
theorem sH:∀ (bs:List Int) (c:Nat),c < 32768→bs.foldl fT c < 32768
 | [],_,h=>h
 | b :: bs,c,_=>sH bs _ (o9 b)
theorem pe:∀ (bs:List Int) (c:Nat),c < 32768→am (bs.foldl fT c:Nat) 15=bs.foldl du (am c 15)
 | [],_,_=>rfl
 | b :: bs,c,h=>by
  rw [List.foldl_cons,List.foldl_cons,pe bs _ (o9 b),nB h]
theorem xu (bs:List Int):am (bs.foldl fT 0:Nat) 15=chk bs:=by
 rw [pe bs 0 (by decide)]
 rfl
theorem pi:∀ (ws r:List Int) (j:Nat),j < ws.length→j < r.length →
  (gr (ws.take j) r).set j (x2 ((gr (ws.take j) r).getD j 0) (ws.getD j 0))=gr (ws.take (j+1)) r
 | [],_,_,h,_=>by simp at h
 | _ :: _,[],_,_,h=>by simp at h
 | w :: ws,x :: r,0,_,_=>by
  simp [dq,bi]
 | w :: ws,x :: r,j+1,h,h'=>by
  have ih:=pi ws r j (by simpa using h) (by simpa using h')
  simp only [List.take_succ_cons,bi,List.set_cons_succ,List.getD_cons_succ]
  rw [ih]
def fb (k j:Nat) (rest:List Int):List Int:=rest.take k++gr ((1 :: wheel).take j) (rest.drop k)
theorem qe (k:Nat) (rest:List Int):fb k 0 rest=rest:=by
 unfold fb;rw [List.take_zero,dq,List.take_append_drop]
theorem lV (k j:Nat) (rest:List Int):(fb k j rest).length=rest.length:=by
 unfold fb
 rw [List.length_append,o0,← List.length_append,List.take_append_drop]
theorem sI (k j:Nat) (rest:List Int) (hk:k≤rest.length) (i:Nat):(fb k j rest).getD (k+i) 0=(gr ((1 :: wheel).take j) (rest.drop k)).getD i 0:=by
 unfold fb
 have:(rest.take k).length=k:=by simp [hk]
 simp [List.getD_eq_getElem?_getD,List.getElem?_append_right,this]
theorem sJ (k j:Nat) (rest:List Int) (hj:j < 16) (hk:k+j < rest.length) :
  (fb k j rest).set (k+j) (((fb k j rest).getD (k+j) 0+(1 :: wheel).getD j 0) % 2)=fb k (j+1) rest:=by
 rw [sI k j rest (by omega)]
 have hl:(rest.take k).length=k:=by simp;omega
 unfold fb
 rw [List.set_append_right _ _ (by omega),hl,Nat.add_sub_cancel_left]
 congr 1
 exact pi (1 :: wheel) (rest.drop k) j (by simp [dW];omega) (by simp;omega)
theorem qf (k:Nat) (rest:List Int) (x:Int) (r:List Int) (h:rest.drop k=x :: r):(fb k 16 rest).drop (k+1)=gr wheel r:=by
 have hk:k≤rest.length:=by
  have:=congrArg List.length h
  simp at this;omega
 have hl:(rest.take k).length=k:=by simp [hk]
 unfold fb
 rw [h,List.take_of_length_le (l:=1 :: wheel) (by simp [dW]),bi]
 rw [List.drop_append,hl]
 simp [List.drop_of_length_le,hl]
def turn (k:Nat) (rest:List Int):List Int:=if rest.getD k 0=1 then fb k 16 rest else rest
structure Outer (bs:List Int) (k:Nat) (rest:List Int):Prop where
 len:rest.length=bs.length+15
 bhd:rest.drop k=gr ((bs.take k).foldl du zeros15) (bs.drop k++zeros15)
theorem nC (bs:List Int) (hb:Bits bs):Outer bs 0 (bs++zeros15):=by
 refine ⟨by simp [zeros15],?_⟩
 simp only [List.drop_zero,List.take_zero,List.foldl_nil]
 have:∀ (m:Nat) (r:List Int),Bits r→gr (List.replicate m 0) r=r:=by
  intro m
  induction m with
  | zero=>intro r _;exact dq r
  | succ m ih=>
   intro r hr
   cases r with
   | nil=>rfl
   | cons x r=>
    rw [List.replicate_succ,bi,ih r hr.tail]
    congr 1
    rcases hr.head with e | e <;> subst e <;> rfl
 exact (this 15 _ (hb.append (Bits.zeros 15))).symm
theorem j4 {bs:List Int} (hb:Bits bs) {k:Nat} {rest:List Int} (hk:k < bs.length) (o:Outer bs k rest):Outer bs (k+1) (turn k rest):=by
 obtain ⟨hl,hd⟩:=o
 have e1:bs.drop k=bs[k] :: bs.drop (k+1):=List.drop_eq_getElem_cons hk
 have e2:(bs.take (k+1)).foldl du zeros15=du ((bs.take k).foldl du zeros15) bs[k]:=by
  rw [List.take_succ_eq_append_getElem hk,List.foldl_append]
  rfl
 have hcl:=kK (bs.take k) zeros15 (by simp [zeros15])
 have hcb:=i4 (bs.take k) zeros15 (Bits.zeros 15)
 generalize (bs.take k).foldl du zeros15=c at *
 match c,hcl,hcb with
 | [],h,_=>cases h
 | c0 :: cs,hcl,hcb=>
  rw [e1,List.cons_append,bi] at hd
  have hg:rest.getD k 0=x2 bs[k] c0:=by
   have:=congrArg (fun l=>l.getD 0 0) hd
   simpa [List.getD_eq_getElem?_getD] using this
  have hr:Bits (bs.drop (k+1)++zeros15):=(hb.drop _).append (Bits.zeros 15)
  have key:=uZ (b:=bs[k]) (c0:=c0) (cs:=cs) (r:=bs.drop (k+1)++zeros15) (hb _ (List.getElem_mem hk)) hcb.head hcb.tail hr (by simpa using hcl) (by simp [zeros15])
  refine ⟨?_,?_⟩
  ·unfold turn;split
   ·rw [lV,hl]
   ·exact hl
  ·rw [e2,← key]
   unfold turn
   rw [hg]
   split
   ·exact qf k rest _ _ hd
   ·have:rest.drop (k+1)=(rest.drop k).drop 1:=by rw [List.drop_drop]
    rw [this,hd];rfl
theorem sK {bs rest:List Int} (o:Outer bs bs.length rest):rest.drop bs.length=chk bs:=by
 have h:=o.bhd
 rw [List.take_of_length_le (Nat.le_refl _),List.drop_of_length_le (Nat.le_refl _),List.nil_append] at h
 rw [h]
 have:=jZ (chk bs) (o8 bs)
 rw [cY] at this
 exact this
end BB
namespace BB
def cv (l:List Int):Int:=l.foldl (fun n b=>n * 2+b) 0
theorem g6:∀ (l:List Int) (a:Int),l.foldl (fun n b=>n * 2+b) a=a * 2 ^ l.length+cv l
 | [],a=>by simp [cv]
 | b :: l,a=>by
  unfold cv
  rw [List.foldl_cons,List.foldl_cons,g6 l,g6 l (0 * 2+b),List.length_cons,Int.pow_succ]
  have:(2:Int) ^ l.length * 2=2 * 2 ^ l.length:=Int.mul_comm _ _
  rw [this,Int.add_mul,Int.zero_mul,Int.zero_add,← Int.mul_assoc,Int.add_assoc]
theorem eO (b:Int) (l:List Int):cv (b :: l)=b * 2 ^ l.length+cv l:=by
 show l.foldl _ (0 * 2+b)=_
 rw [g6];simp
theorem kL:∀ {l:List Int},Bits l→0≤cv l∧cv l < 2 ^ l.length
 | [],_=>by decide
 | b :: l,h=>by
  obtain ⟨h1,h2⟩:=kL h.tail
  rw [eO,List.length_cons,Int.pow_succ]
  rcases h.head with e | e <;> subst e <;> omega
theorem ir (n:Int):∀ k:Nat,cv (am n k)=n % 2 ^ k
 | 0=>by simp [am,cv]
 | k+1=>by
  rw [am,eO,ar,ir n k,Int.pow_succ]
  have hp:(0:Int) < 2 ^ k:=Int.pow_pos (by decide)
  generalize (2:Int) ^ k=p at *
  have h1:=Int.mul_ediv_add_emod n p
  have h2:=Int.mul_ediv_add_emod (n / p) 2
  have h3:0≤n / p % 2∧n / p % 2 < 2:=by omega
  have h4:=Int.emod_nonneg n (show p≠0 by omega)
  have h5:=Int.emod_lt_of_pos n hp
  generalize n % p=r at *
  generalize n / p=q at *
  generalize he:q % 2=b at *
  generalize q / 2=c at *
  have e:n=(p * 2) * c+(b * p+r):=by
   rw [← h1,← h2]
   rw [Int.mul_add,Int.mul_assoc,Int.add_assoc]
   congr 1
   rw [Int.mul_comm p b]
  have hb:b * p+r < p * 2:=by
   have:b=0∨b=1:=by omega
   rcases this with rfl | rfl <;> omega
  have hb0:0≤b * p+r:=by
   have:b=0∨b=1:=by omega
   rcases this with rfl | rfl <;> omega
  rw [e,Int.mul_add_emod_self_left]
  exact (Int.emod_eq_of_lt hb0 hb).symm
theorem ba {n:Int} {k:Nat} (h0:0≤n) (h1:n < 2 ^ k):cv (am n k)=n:=by
 rw [ir];exact Int.emod_eq_of_lt h0 h1
def bH (w:List Int):List Int:=w.drop (w.length - 5)
def due (w:List Int):Bool:=bH w == [0,0,0,0,0] || bH w == [1,1,1,1,1]
def aR (w:List Int) (b:Int):List Int:=if due (w++[b])=true then w++[b]++[1 - b] else w++[b]
def aS (l:List Int):List Int:=l.foldl aR []
theorem eQ (l:List Int) (b:Int):aS (l++[b])=aR (aS l) b:=by
 unfold aS;rw [List.foldl_append];rfl
def pj:List Int→Nat
 | []=>0
 | [_]=>1
 | x :: y :: r=>if x=y then pj (y :: r)+1 else 1
def run (w:List Int):Nat:=pj w.reverse
theorem eR (w:List Int) (b:Int):run (w++[b])=if w.getLast? = some b then run w+1 else 1:=by
 unfold run
 rw [List.reverse_append]
 show pj (b :: w.reverse)=_
 rw [← List.head?_reverse]
 cases h:w.reverse with
 | nil=>simp [pj]
 | cons y r=>
  by_cases e:b=y
  ·subst e
   rw [if_pos (show (b :: r).head? = some b from rfl)]
   simp [pj]
  ·rw [if_neg (show ¬ (y :: r).head? = some b from fun h=>e (Option.some.inj h).symm)]
   simp [pj,e]
theorem sL (w:List Int) (b:Int):1≤run (w++[b]):=by
 rw [eR];split <;> omega
theorem kM:∀ (n:Nat) (r:List Int) (x:Int),n+1≤pj (x :: r)↔∃ t,r=List.replicate n x++t
 | 0,r,x=>by
  constructor
  ·intro _;exact ⟨r,by simp⟩
  ·intro _
   cases r with
   | nil=>simp [pj]
   | cons y r=>simp only [pj];split <;> omega
 | n+1,[],x=>by simp [pj,List.replicate_succ]
 | n+1,y :: r,x=>by
  simp only [pj]
  by_cases e:x=y
  ·subst e
   rw [if_pos rfl,Nat.succ_le_succ_iff,kM n r x]
   simp [List.replicate_succ]
  ·rw [if_neg e]
   constructor
   ·intro h;omega
   ·rintro ⟨t,h⟩
    rw [List.replicate_succ,List.cons_append] at h
    injection h with h1 _
    exact absurd h1.symm e
theorem sM (w:List Int):bH w=(w.reverse.take 5).reverse:=by
 unfold bH
 rw [List.take_reverse,List.reverse_reverse]
theorem g7 {w:List Int} (h:Bits w):due w=true↔5≤run w:=by
 unfold due run
 rw [sM]
 have hb:Bits w.reverse:=fun b hb=>h b (List.mem_reverse.mp hb)
 generalize w.reverse=r at *
 simp only [Bool.or_eq_true,beq_iff_eq]
 have sym:∀ x:Int,(r.take 5).reverse=[x,x,x,x,x]↔r.take 5=[x,x,x,x,x]:=fun x=>by
  constructor
  ·intro e;have:=congrArg List.reverse e;simpa using this
  ·intro e;rw [e];rfl
 rw [sym,sym]
 cases r with
 | nil=>simp [pj]
 | cons x r=>
  rw [kM 4 r x]
  constructor
  ·rintro (e | e)
   all_goals
    rw [List.take_succ_cons] at e
    injection e with e1 e2
    subst e1
    refine ⟨r.drop 4,?_⟩
    have:=List.take_append_drop 4 r
    rw [e2] at this
    exact this.symm
  ·rintro ⟨t,rfl⟩
   rcases hb.head with e | e <;> subst e
   ·exact .inl rfl
   ·exact .inr rfl
theorem jC {w:List Int} {b:Int} (h:Bits w) (hb:Bit b):Bits (aR w b):=by
 have h1:Bits (w++[b]):=h.append (Bits.cons hb Bits.nil)
 unfold aR
 split
 ·exact h1.append (Bits.cons (by rcases hb with e | e <;> subst e <;> simp [Bit]) Bits.nil)
 ·exact h1
theorem eT:∀ {l:List Int},Bits l→Bits (aS l):=by
 intro l
 suffices ∀ (l w:List Int),Bits w→Bits l→Bits (l.foldl aR w) from fun h=>this l [] Bits.nil h
 intro l
 induction l with
 | nil=>intro w h _;exact h
 | cons b l ih=>intro w h hl;exact ih _ (jC h hl.head) hl.tail
theorem kN {w:List Int} {b:Int} (h:Bits w) (hb:Bit b) (hr:run w≤4):run (aR w b)≤4:=by
 have h1:Bits (w++[b]):=h.append (Bits.cons hb Bits.nil)
 unfold aR
 split
 ·rw [eR,if_neg (by simp;omega)];decide
 ·rename_i hd
  have:=mt (g7 h1).mpr hd
  omega
theorem c8 {α:Type} (l:List α):l=[]∨∃ m b,l=m++[b]:=by
 rcases List.eq_nil_or_concat l with h | ⟨m,b,h⟩
 ·exact .inl h
 ·exact .inr ⟨m,b,by simpa using h⟩
theorem sN {α:Type} {P:List α→Prop} (h0:P []) (h1:∀ l b,P l→P (l++[b])):∀ l,P l:=by
 intro l
 have:∀ n (l:List α),l.length=n→P l:=by
  intro n
  induction n with
  | zero=>intro l e;rw [List.length_eq_zero_iff.mp e];exact h0
  | succ n ih=>
   intro l e
   rcases c8 l with rfl | ⟨m,b,rfl⟩
   ·simp at e
   ·exact h1 m b (ih m (by simpa using e))
 exact this _ l rfl
theorem Bits.left {l m:List Int} (h:Bits (l++m)):Bits l:=fun b hb=>h b (List.mem_append_left _ hb)
theorem Bits.right {l m:List Int} (h:Bits (l++m)):Bits m:=fun b hb=>h b (List.mem_append_right _ hb)
theorem lX:∀ {l:List Int},Bits l→run (aS l)≤4:=by
 intro l
 refine sN (P:=fun l=>Bits l→run (aS l)≤4) (fun _=>by decide) (fun l b ih h => ?_) l
 rw [eQ]
 exact kN (eT h.left) h.right.head (ih h.left)
theorem iu {l:List Int} (h:Bits l):due (aS l)=false:=by
 have h1:=lX h
 have h2:=g7 (eT h)
 cases e:due (aS l) with
 | false=>rfl
 | true=>have:=h2.mp e;omega
def vI (w:List Int):Prop:=4 < w.length∧(∃ x,bH w=[x,x,x,x,x])∧run w % 5=0
theorem qh {w:List Int} (h:Bits w) (hr:run w≤5) (h1:1≤run w):vI w↔due w=true:=by
 constructor
 ·rintro ⟨_,_,h3⟩
  rw [g7 h];omega
 ·intro hd
  have h5:=(g7 h).mp hd
  have hl:4 < w.length:=by
   unfold due at hd
   simp only [Bool.or_eq_true,beq_iff_eq] at hd
   have:(bH w).length=5:=by rcases hd with e | e <;> rw [e] <;> rfl
   unfold bH at this
   rw [List.length_drop] at this
   omega
  refine ⟨hl,?_,by omega⟩
  unfold due at hd
  simp only [Bool.or_eq_true,beq_iff_eq] at hd
  rcases hd with e | e
  ·exact ⟨_,e⟩
  ·exact ⟨_,e⟩
theorem nE {w:List Int} {b:Int} (h:Bits w) (hb:Bit b) (hr:run w≤4):vI (w++[b])↔due (w++[b])=true:=by
 refine qh (h.append (Bits.cons hb Bits.nil)) ?_ (sL w b)
 rw [eR];split <;> omega
def C0 (w:List Int):Prop:=∀ k x,k+6≤w.length→(w.drop k).take 6≠[x,x,x,x,x,x]
theorem gH:∀ (l:List Int),(aS l).length≤2 * l.length:=by
 intro l
 refine sN (P:=fun l=>(aS l).length≤2 * l.length) (by simp [aS]) (fun l b ih => ?_) l
 rw [eQ]
 unfold aR
 split <;> simp <;> omega
end BB
namespace BB
def bb (row:List Int):List Int:=row.flatMap fun b=>am b 8
def body (name:Int) (row:List Int):List Int:=[0]++am name 11++am (row.length:Int) 4++bb row
def aE (name:Int) (row:List Int):List Int:=body name row++chk (body name row)
def cQ (name:Int) (row:List Int):Prop:=(0≤name∧name≤2047)∧row.length≤8∧∀ b∈row,0≤b∧b≤255
theorem dw:∀ row:List Int,(bb row).length=8 * row.length
 | []=>rfl
 | b :: r=>by
  show (am b 8++bb r).length=_
  rw [List.length_append,ar,dw r,List.length_cons];omega
theorem iw:∀ row:List Int,Bits (bb row)
 | []=>Bits.nil
 | b :: r=>(bS b 8).append (iw r)
theorem i5 (name:Int) (row:List Int):Bits (body name row):=
 (((Bits.cons (.inl rfl) Bits.nil).append (bS _ _)).append (bS _ _)).append (iw _)
theorem eU (name:Int) (row:List Int):(body name row).length=16+8 * row.length:=by
 unfold body;simp [ar,dw];omega
theorem dy (name:Int) (row:List Int):Bits (aE name row):=(i5 name row).append (o8 _)
theorem cz (name:Int) (row:List Int):(aE name row).length=31+8 * row.length:=by
 unfold aE;rw [List.length_append,eU,cY];omega
def cnt (p:List Int):Int:=8 * p.getD 12 0+4 * p.getD 13 0+2 * p.getD 14 0+p.getD 15 0
def bC (p:List Int):Nat:=(16+8 * cnt p).toNat
structure Fits (p:List Int):Prop where
 h0:p.getD 0 0=0
 h8:cnt p≤8
 ck:bC p < p.length→p.drop (bC p)=(chk (p.take (bC p))).take (p.length - bC p)
theorem aT {p:List Int} (h:Bits p) (i:Nat):Bit (p.getD i 0):=by
 rw [List.getD_eq_getElem?_getD]
 cases e:p[i]? with
 | none=>exact .inl rfl
 | some x=>exact h x (List.mem_of_getElem? e)
theorem sO {p:List Int} (h:Bits p):0≤cnt p:=by
 unfold cnt
 rcases aT h 12 with a | a <;> rcases aT h 13 with b | b <;> rcases aT h 14 with c | c <;> rcases aT h 15 with d | d <;> omega
theorem Fits.len {p:List Int} (f:Fits p):p.length≤bC p+15:=by
 by_cases h:bC p < p.length
 ·have:=congrArg List.length (f.ck h)
  rw [List.length_drop,List.length_take,cY] at this
  omega
 ·omega
def da (p:List Int):List Int:=if p.length=0 then [0] else if 12 < p.length∧p.getD 12 0=1 then [0] else [0,1]
def bI (p:List Int):List Int:=
 if p.length < 16 then da p else if p.length < bC p then [0,1] else if p.length=bC p+15 then []
 else [(chk (p.take (bC p))).getD (p.length - bC p) 0]
theorem Ac {p:List Int} (h:16≤p.length):cv ((p.drop 12).take 4)=cnt p:=by
 have e:(p.drop 12).take 4=[p.getD 12 0,p.getD 13 0,p.getD 14 0,p.getD 15 0]:=by
  match p,h with
  | _ :: _ :: _ :: _ :: _ :: _ :: _ :: _ :: _ :: _ :: _ :: _ :: a :: b :: c :: d :: r,_=>rfl
 rw [e]
 unfold cnt cv
 simp only [List.foldl_cons,List.foldl_nil]
 omega
theorem aV {p:List Int} {b:Int} {i:Nat} (h:i < p.length):(p++[b]).getD i 0=p.getD i 0:=by
 simp [List.getD_eq_getElem?_getD,List.getElem?_append_left h]
theorem bM {p:List Int} {b:Int}:(p++[b]).getD p.length 0=b:=by
 simp [List.getD_eq_getElem?_getD]
theorem dz {p:List Int} {i:Nat} (h:p.length≤i):p.getD i 0=0:=by
 simp [List.getD_eq_getElem?_getD,List.getElem?_eq_none h]
theorem pk {p:List Int} {b:Int} (h:16≤p.length):cnt (p++[b])=cnt p:=by
 unfold cnt
 rw [aV (by omega),aV (by omega),aV (by omega),aV (by omega)]
theorem xv {p:List Int} {b:Int} (h:16≤p.length):bC (p++[b])=bC p:=by
 unfold bC;rw [pk h]
theorem xw {p:List Int} (h:Bits p):16≤bC p:=by
 have:=sO h
 unfold bC;omega
theorem lY {p:List Int} {b:Int} (hp:Bits p) (hb:Bit b) (f:Fits p) (hend:¬ (16≤p.length∧p.length=bC p+15)) :
  b∈bI p↔Fits (p++[b]):=by
 have hq:Bits (p++[b]):=hp.append (Bits.cons hb Bits.nil)
 have hbm:b∈([0,1]:List Int):=by rcases hb with e | e <;> subst e <;> simp
 unfold bI
 by_cases h16:p.length < 16
 ·rw [if_pos h16]
  have noCk:∀ (h8:cnt (p++[b])≤8),(bC (p++[b]) < (p++[b]).length→(p++[b]).drop (bC (p++[b]))=(chk ((p++[b]).take (bC (p++[b])))).take ((p++[b]).length - bC (p++[b]))):=fun _ hlt=>by
   have:=xw hq
   rw [List.length_append,List.length_singleton] at hlt
   omega
  unfold da
  by_cases h0:p.length=0
  ·rw [if_pos h0]
   have e:p=[]:=List.length_eq_zero_iff.mp h0
   subst e
   constructor
   ·intro h
    have:b=0:=by simpa using h
    subst this
    exact ⟨rfl,by decide,noCk (by decide)⟩
   ·intro g
    have:=g.h0
    simpa using this
  ·rw [if_neg h0]
   have g0:(p++[b]).getD 0 0=0:=by rw [aV (by omega)];exact f.h0
   have f8:=f.h8
   by_cases hc:12 < p.length∧p.getD 12 0=1
   ·rw [if_pos hc]
    obtain ⟨h12,h1⟩:=hc
    have c12:(p++[b]).getD 12 0=1:=by rw [aV (by omega)];exact h1
    have cn:cnt (p++[b])≤8↔b=0:=by
     unfold cnt at f8 ⊢
     rw [c12]
     rw [h1] at f8
     have b13:=aT hp 13
     have b14:=aT hp 14
     have b15:=aT hp 15
     have z13:p.getD 13 0=0:=by rcases b13 with e | e <;> rcases b14 with e' | e' <;> rcases b15 with e'' | e'' <;> omega
     have z14:p.getD 14 0=0:=by rcases b14 with e' | e' <;> rcases b15 with e'' | e'' <;> omega
     have hl:p.length=13∨p.length=14∨p.length=15:=by omega
     rcases hl with hl | hl | hl
     ·have e13:(p++[b]).getD 13 0=b:=by rw [← hl];exact bM
      rw [e13,dz (by simp;omega),dz (by simp;omega)]
      rcases hb with e | e <;> subst e <;> simp
     ·have e14:(p++[b]).getD 14 0=b:=by rw [← hl];exact bM
      rw [e14,aV (by omega),z13,dz (by simp;omega)]
      rcases hb with e | e <;> subst e <;> simp
     ·have e15:(p++[b]).getD 15 0=b:=by rw [← hl];exact bM
      rw [e15,aV (by omega),z13,aV (by omega),z14]
      rcases hb with e | e <;> subst e <;> simp
    constructor
    ·intro h
     have:b=0:=by simpa using h
     have h8:=cn.mpr this
     exact ⟨g0,h8,noCk h8⟩
    ·intro g
     have:=cn.mp g.h8
     simp [this]
   ·rw [if_neg hc]
    refine ⟨fun _ => ?_,fun _=>hbm⟩
    have h8:cnt (p++[b])≤8:=by
     unfold cnt
     by_cases h12:12 < p.length
     ·have z:p.getD 12 0=0:=by
       rcases aT hp 12 with e | e
       ·exact e
       ·exact absurd ⟨h12,e⟩ hc
      rw [aV h12,z]
      rcases aT hq 13 with e | e <;> rcases aT hq 14 with e' | e' <;> rcases aT hq 15 with e'' | e'' <;> omega
     ·rw [dz (i:=13) (by simp;omega),dz (i:=14) (by simp;omega),dz (i:=15) (by simp;omega)]
      rcases aT hq 12 with e | e <;> omega
    exact ⟨g0,h8,noCk h8⟩
 ·rw [if_neg h16]
  have hge:16≤p.length:=by omega
  have ea:=xv (b:=b) hge
  have g0:(p++[b]).getD 0 0=0:=by rw [aV (by omega)];exact f.h0
  have g8:cnt (p++[b])≤8:=by rw [pk hge];exact f.h8
  by_cases hlt:p.length < bC p
  ·rw [if_pos hlt]
   refine ⟨fun _=>⟨g0,g8,fun h => ?_⟩,fun _=>hbm⟩
   rw [ea,List.length_append,List.length_singleton] at h
   omega
  ·rw [if_neg hlt,if_neg (fun e=>hend ⟨hge,e⟩)]
   have hl:=f.len
   have hl':p.length < bC p+15:=by
    rcases Nat.lt_or_ge p.length (bC p+15) with h | h
    ·exact h
    ·exact absurd ⟨hge,by omega⟩ hend
   have et:(p++[b]).take (bC p)=p.take (bC p):=List.take_append_of_le_length (by omega)
   have ed:(p++[b]).drop (bC p)=p.drop (bC p)++[b]:=List.drop_append_of_le_length (by omega)
   have ck:p.drop (bC p)=(chk (p.take (bC p))).take (p.length - bC p):=by
    by_cases h:bC p < p.length
    ·exact f.ck h
    ·have:p.length=bC p:=by omega
     rw [List.drop_of_length_le (by omega),this];simp
   have hi:p.length - bC p < (chk (p.take (bC p))).length:=by rw [cY];omega
   have key:(chk (p.take (bC p))).take (p.length+1 - bC p)=p.drop (bC p)++[(chk (p.take (bC p))).getD (p.length - bC p) 0]:=by
    rw [show p.length+1 - bC p=(p.length - bC p)+1 by omega,List.take_succ_eq_append_getElem hi,← ck]
    simp [List.getD_eq_getElem?_getD,List.getElem?_eq_getElem hi]
   constructor
   ·intro h
    have e:b=(chk (p.take (bC p))).getD (p.length - bC p) 0:=by simpa using h
    refine ⟨g0,g8,fun _ => ?_⟩
    rw [ea,et,ed,List.length_append,List.length_singleton,key,← e]
   ·intro g
    have h1:=g.ck (by rw [ea,List.length_append,List.length_singleton];omega)
    rw [ea,et,ed,List.length_append,List.length_singleton,key] at h1
    have h2:=List.append_cancel_left h1
    exact List.mem_singleton.mpr (List.head_eq_of_cons_eq h2)
theorem lZ {p:List Int} (hp:Bits p):bI p=[]↔16≤p.length∧p.length=bC p+15:=by
 have:=xw hp
 unfold bI da
 constructor
 ·intro h
  by_cases h16:p.length < 16
  ·rw [if_pos h16] at h
   split at h
   ·cases h
   ·split at h <;> cases h
  ·rw [if_neg h16] at h
   split at h
   ·cases h
   ·split at h
    ·exact ⟨by omega,by assumption⟩
    ·cases h
 ·rintro ⟨h1,h2⟩
  rw [if_neg (by omega),if_neg (by omega),if_pos h2]
def aF (w p:List Int):List Int:=if due w=true then [1 - w.getLastD 0] else bI p
def i6 (s:List Int×Int×Int) (b:Int):List Int×Int×Int:=
 if s.2.1=5 then (s.1,1,b) else (s.1++[b],if s.2.2=b then s.2.1+1 else 1,b)
def LP (w:List Int):List Int×Int×Int:=w.foldl i6 ([],0,2)
theorem sP (w:List Int) (b:Int):LP (w++[b])=i6 (LP w) b:=by
 unfold LP;rw [List.foldl_append];rfl
structure Rd (w p:List Int):Prop where
 bw:Bits w
 bp:Bits p
 st:aS p=if due w=true then w++[1 - w.getLastD 0] else w
 fit:Fits p
 lp:LP w=(p,(run w:Int),w.getLastD 2)
 r5:run w≤5
theorem u3:Fits []:=⟨rfl,by decide,fun h=>by simp at h⟩
theorem cw:Rd [] []:=⟨Bits.nil,Bits.nil,rfl,u3,rfl,by decide⟩
theorem dA {w:List Int} {b d:Int}:(w++[b]).getLastD d=b:=by simp
theorem Rd.d5 {w p:List Int} (r:Rd w p):due w=true↔run w=5:=by
 rw [g7 r.bw];have:=r.r5;omega
theorem pp {w:List Int} {b:Int} (hb:Bit b):w.getLastD 2=b↔w.getLast? = some b:=by
 rcases c8 w with rfl | ⟨m,c,rfl⟩
 ·simp;rcases hb with e | e <;> subst e <;> decide
 ·simp
def cO (w p:List Int) (b:Int):List Int:=if due w=true then p else p++[b]
theorem Rd.fin {w p:List Int} (r:Rd w p):aF w p=[]↔due w=false∧16≤p.length∧p.length=bC p+15:=by
 unfold aF
 cases e:due w with
 | true=>simp
 | false=>simp [lZ r.bp]
theorem Rd.next {w p:List Int} {b:Int} (r:Rd w p) (hb:Bit b) (hc:b∈aF w p):Rd (w++[b]) (cO w p b):=by
 have hw:Bits (w++[b]):=r.bw.append (Bits.cons hb Bits.nil)
 unfold aF at hc
 unfold cO
 cases e:due w with
 | true=>
  rw [e] at hc
  simp only [if_true] at hc ⊢
  have hne:w≠[]:=by rintro rfl;cases e
  obtain ⟨m,c,rfl⟩:∃ m c,w=m++[c]:=(c8 w).resolve_left hne
  have hbc:b=1 - c:=by simpa using hc
  have h5:=r.d5.mp e
  have hrun:run (m++[c]++[b])=1:=by
   rw [eR,if_neg (by simp;omega)]
  have nd:due (m++[c]++[b])=false:=by
   cases z:due (m++[c]++[b]) with
   | false=>rfl
   | true=>have:=(g7 hw).mp z;omega
  refine ⟨hw,r.bp,?_,r.fit,?_,by omega⟩
  ·rw [nd,r.st,e,hbc];simp
  ·rw [sP,r.lp,h5,hrun]
   simp [i6]
 | false=>
  rw [e] at hc
  simp only [Bool.false_eq_true,if_false] at hc ⊢
  have hne:¬ (16≤p.length∧p.length=bC p+15):=fun z=>by
   rw [(lZ r.bp).mpr z] at hc;cases hc
  have h5:run w≠5:=fun z=>by rw [r.d5.mpr z] at e;cases e
  have hr:=r.r5
  refine ⟨hw,r.bp.append (Bits.cons hb Bits.nil),?_,(lY r.bp hb r.fit hne).mp hc,?_,?_⟩
  ·rw [eQ,r.st,e]
   simp only [Bool.false_eq_true,if_false]
   unfold aR
   split <;> simp
  ·rw [sP,r.lp,eR]
   unfold i6
   simp only
   rw [if_neg (by omega),dA]
   by_cases hl:w.getLast? = some b
   ·rw [if_pos hl,if_pos ((pp hb).mpr hl)];simp
   ·rw [if_neg hl,if_neg (fun z=>hl ((pp hb).mp z))];simp
  ·rw [eR];split <;> omega
def Ends (w:List Int):Prop:=¬ ((LP w).1.length < 31∨(LP w).2.1=5)∧((LP w).1.length:Int)=31+8 * cnt (LP w).1
def Cb (w:List Int) (b:Int):Prop:=¬ (w≠[]∧(Ends w∨((LP w).2.1=5∧b=w.getLastD 0)))∧Fits (LP (w++[b])).1
def dL (p:List Int):Int:=cv ((p.drop 1).take 11)
def jD (p:List Int):List Int:=(List.range (cnt p).toNat).map fun j=>cv ((p.drop (16+8 * j)).take 8)
theorem db {l m:List Int} {i:Nat} (h:i < l.length):(l++m).getD i 0=l.getD i 0:=by
 simp [List.getD_eq_getElem?_getD,List.getElem?_append_left h]
theorem dX {name:Int} {row:List Int} (g:cQ name row):cnt (aE name row)=row.length:=by
 have hl:=cz name row
 rw [← Ac (by omega)]
 have:((aE name row).drop 12).take 4=am (row.length:Int) 4:=by
  unfold aE body
  simp only [List.append_assoc]
  rw [← List.append_assoc [0],List.drop_append_of_le_length (by simp [ar]),List.drop_of_length_le (by simp [ar]),List.nil_append,
   List.take_append_of_le_length (by simp [ar]),List.take_of_length_le (by simp [ar])]
 rw [this,ba (by omega) (by have:=g.2.1;omega)]
theorem l6 {name:Int} {row:List Int} (g:cQ name row):bC (aE name row)=16+8 * row.length:=by
 unfold bC;rw [dX g];omega
theorem sQ {P:List Int} (hP:Bits P) (f:Fits P) (h16:16≤P.length):∀ k,Fits (P.take k):=by
 intro k
 by_cases hk:P.length≤k
 ·rw [List.take_of_length_le hk];exact f
 have hk':k < P.length:=by omega
 have hlen:(P.take k).length=k:=by simp;omega
 have gd:∀ i,(P.take k).getD i 0=if i < k then P.getD i 0 else 0:=fun i=>by
  by_cases h:i < k
  ·rw [if_pos h];simp [List.getD_eq_getElem?_getD,h]
  ·rw [if_neg h,dz (by omega)]
 have c0:=f.h8
 have hc:cnt (P.take k)≤cnt P:=by
  unfold cnt
  rw [gd,gd,gd,gd]
  rcases aT hP 12 with a | a <;> rcases aT hP 13 with b | b <;> rcases aT hP 14 with c | c <;> rcases aT hP 15 with d | d <;> rw [a,b,c,d] <;> (repeat' split) <;> omega
 refine ⟨?_,by omega,fun hlt => ?_⟩
 ·rw [gd];split
  ·exact f.h0
  ·rfl
 ·rw [hlen] at hlt ⊢
  have h16':=xw (hP.take k)
  have ec:cnt (P.take k)=cnt P:=by
   unfold cnt
   rw [gd,gd,gd,gd,if_pos (by omega),if_pos (by omega),if_pos (by omega),if_pos (by omega)]
  have ea:bC (P.take k)=bC P:=by unfold bC;rw [ec]
  rw [ea] at hlt ⊢
  have:=f.ck (by omega)
  rw [List.take_take,show min (bC P) k=bC P by omega,List.drop_take,this,List.take_take]
  congr 1;omega
theorem nG {name:Int} {row:List Int} (g:cQ name row):Fits (aE name row):=by
 have ha:=l6 g
 have hl:=cz name row
 refine ⟨rfl,by rw [dX g];have:=g.2.1;omega,fun _ => ?_⟩
 rw [ha,hl]
 unfold aE
 rw [List.drop_left' (by rw [eU]),List.take_left' (by rw [eU]),List.take_of_length_le (by rw [cY];omega)]
inductive Way:List Int→List Int→List Int→List Int→Prop
 | nil (w p:List Int):Way w p [] p
 | cons {w p r q:List Int} {b:Int}:b∈aF w p→Way (w++[b]) (cO w p b) r q→Way w p (b :: r) q
theorem Way.snoc {w p r q:List Int} {b:Int} (h:Way w p r q) (hb:b∈aF (w++r) q):Way w p (r++[b]) (cO (w++r) q b):=by
 induction h with
 | nil w p=>rw [List.append_nil] at hb ⊢;exact .cons hb (.nil _ _)
 | cons h1 h2 ih=>
  rw [List.append_assoc] at ih
  exact .cons h1 (ih (by simpa using hb))
theorem Way.rd {w p r q:List Int} (h:Way w p r q) (hr:Bits r) (x:Rd w p):Rd (w++r) q:=by
 induction h with
 | nil w p=>rw [List.append_nil];exact x
 | cons h1 h2 ih=>
  have:=ih hr.tail (x.next hr.head h1)
  rwa [List.append_assoc] at this
theorem vJ {P:List Int} (hP:Bits P) (f:Fits P) (h16:16≤P.length):∀ k,k≤P.length→Way [] [] (aS (P.take k)) (P.take k)∧Rd (aS (P.take k)) (P.take k)
 | 0,_=>⟨.nil _ _,cw⟩
 | k+1,hk=>by
  obtain ⟨h,r⟩:=vJ hP f h16 k (by omega)
  have e:P.take (k+1)=P.take k++[P[k]]:=List.take_succ_eq_append_getElem (by omega)
  have hbit:Bit P[k]:=hP _ (List.getElem_mem _)
  have nd:=iu (hP.take k)
  have hlen:(P.take k).length=k:=by simp;omega
  have hne:¬ (16≤(P.take k).length∧(P.take k).length=bC (P.take k)+15):=by
   rintro ⟨h1,h2⟩
   have ec:cnt (P.take k)=cnt P:=by
    rw [← Ac h1,← Ac h16,List.drop_take,List.take_take,show min 4 (k - 12)=4 by omega]
   have ea:bC (P.take k)=bC P:=by unfold bC;rw [ec]
   have:=f.len
   rw [ea] at h2
   omega
  have hin:P[k]∈aF (aS (P.take k)) (P.take k):=by
   unfold aF
   rw [nd]
   simp only [Bool.false_eq_true,if_false]
   refine (lY (hP.take k) hbit r.fit hne).mpr ?_
   rw [← e];exact sQ hP f h16 (k+1)
  have h1:=h.snoc (b:=P[k]) (by simpa using hin)
  have r1:=r.next hbit hin
  have en:cO (aS (P.take k)) (P.take k) P[k]=P.take (k+1):=by unfold cO;rw [nd,e];rfl
  simp only [List.nil_append] at h1
  rw [en] at h1 r1
  have es:aS (P.take (k+1))=aR (aS (P.take k)) P[k]:=by rw [e,eQ]
  rw [es]
  unfold aR
  by_cases hd:due (aS (P.take k)++[P[k]])=true
  ·rw [if_pos hd]
   have hin2:1 - P[k]∈aF (aS (P.take k)++[P[k]]) (P.take (k+1)):=by
    unfold aF;rw [if_pos hd];simp
   have hb2:Bit (1 - P[k]):=by rcases hbit with z | z <;> rw [z] <;> simp [Bit]
   have h2:=h1.snoc (b:=1 - P[k]) (by simpa using hin2)
   have r2:=r1.next hb2 hin2
   have en2:cO (aS (P.take k)++[P[k]]) (P.take (k+1)) (1 - P[k])=P.take (k+1):=by unfold cO;rw [if_pos hd]
   simp only [List.nil_append] at h2
   rw [en2] at h2 r2
   exact ⟨h2,r2⟩
  ·rw [if_neg hd]
   exact ⟨h1,r1⟩
theorem j5 {name:Int} {row:List Int} (g:cQ name row):dL (aE name row)=name∧jD (aE name row)=row:=by
 have hc:=dX g
 constructor
 ·unfold dL aE body
  have:((([0]++am name 11++am (row.length:Int) 4++bb row)++chk ([0]++am name 11++am (row.length:Int) 4++bb row)).drop 1).take 11=am name 11:=by
   simp only [List.append_assoc]
   rw [List.drop_append_of_le_length (by simp),List.drop_of_length_le (by simp),List.nil_append,List.take_append_of_le_length (by simp [ar]),List.take_of_length_le (by simp [ar])]
  rw [this]
  exact ba g.1.1 (by have:=g.1.2;omega)
 ·unfold jD
  rw [hc]
  have hd:∀ (m:Nat),(aE name row).drop (16+m)=(bb row++chk (body name row)).drop m:=fun m=>by
   have e:aE name row=([0]++am name 11++am (row.length:Int) 4)++(bb row++chk (body name row)):=by
    unfold aE
    rw [← List.append_assoc]
    rfl
   rw [e,← List.drop_drop,List.drop_left' (by simp [ar])]
  have gen:∀ (r t:List Int),(∀ b∈r,0≤b∧b≤255)→(List.range r.length).map (fun j=>cv (((bb r++t).drop (8 * j)).take 8))=r:=by
   intro r t
   induction r with
   | nil=>intro _;rfl
   | cons b r ih=>
    intro hr
    rw [List.length_cons,List.range_succ_eq_map,List.map_cons,List.map_map]
    have e0:bb (b :: r)++t=am b 8++(bb r++t):=by
     show (am b 8++bb r)++t=_
     rw [List.append_assoc]
    congr 1
    ·rw [e0,Nat.mul_zero,List.drop_zero,List.take_append_of_le_length (by simp [ar]),List.take_of_length_le (by simp [ar])]
     have:=hr b List.mem_cons_self
     exact ba this.1 (by omega)
    ·have:=ih fun c hc=>hr c (List.mem_cons_of_mem _ hc)
     rw [← this]
     rw [List.length_map,List.length_range]
     apply List.map_congr_left
     intro j _
     rw [this]
     show cv (((bb (b :: r)++t).drop (8 * (j+1))).take 8)=_
     rw [e0,show 8 * (j+1)=8+8 * j by omega,← List.drop_drop,List.drop_left' (by simp [ar])]
  rw [Int.toNat_natCast]
  have:=gen row (chk (body name row)) g.2.2
  rw [← this]
  rw [List.length_map,List.length_range]
  apply List.map_congr_left
  intro j _
  rw [this,hd]
theorem l7 {name:Int} {row:List Int} (g:cQ name row):Way [] [] (aS (aE name row)) (aE name row)∧aF (aS (aE name row)) (aE name row)=[]∧Rd (aS (aE name row)) (aE name row):=by
 have hl:=cz name row
 have hP:=dy name row
 obtain ⟨h,r⟩:=vJ hP (nG g) (by omega) (aE name row).length (Nat.le_refl _)
 rw [List.take_of_length_le (Nat.le_refl _)] at h r
 refine ⟨h,r.fin.mpr ⟨iu hP,by omega,?_⟩,r⟩
 rw [l6 g];omega
end BB
namespace BB
inductive Md where
 | free | frame | cry | dazed | rest
 deriving DecidableEq
abbrev Fr:=Int×List Int
structure Nd where
 st:Md
 ps:Nat
 ws:List Int
 pl:List Int
 sn:Option (List Int)
 qu:List Fr
 tk:List Fr
 fc:Nat
def Nd.new:Nd:=⟨.free,0,[],[],none,[],[],0⟩
def ah (f:Fr):List Int:=aS (aE f.1 f.2)
namespace Nd
def Cc (d:Nd) (s:Md):Nd:={d with st:=s,ps:=0}
def passOne (d:Nd) (k:Nat) (s:Md):Nd:=if d.ps+1=k then {d with st:=s,ps:=0} else {d with ps:=d.ps+1}
def cryOut (d:Nd):Nd:={d with st := .cry,ps:=0,fc:=d.fc+1}
def enter (d:Nd) (sn:Option (List Int)):Nd:={d with st := .frame,ps:=0,ws:=[],pl:=[],sn:=sn}
def begin (d:Nd):Nd:=if d.st = .free then (match d.qu with | []=>d | f :: _=>d.enter (some (ah f))) else d
def over (d:Nd):Bool:=decide (aF d.ws d.pl=[])
def due (d:Nd) (s:List Int):Int:=s.getD d.ws.length 0
def putFrame (d:Nd):Int:=if d.over then (if d.ps=1∧d.sn=none then 0 else 1) else (match d.sn with | none=>1 | some s=>d.due s)
def put (d:Nd):Int:=match d.st with
 | .cry=>0
 | .frame=>d.putFrame
 | _=>1
def hears (d:Nd) (b:Int):Bool:=match d.sn with
 | none=>false
 | some s => !decide (b=d.due s)
def atName (d:Nd):Bool := !BB.due d.ws && decide (1≤d.pl.length) && decide (d.pl.length < 12)
def giveWay (d:Nd) (b:Int):Nd:=if d.hears b && decide (b=0) && d.atName then {d with sn:=none} else d
def take (d:Nd) (b:Int):Nd:={d with ws:=d.ws++[b],pl:=cO d.ws d.pl b}
def hearStuffed (d:Nd) (b:Int):Nd:=if (d.giveWay b).hears b || !decide (b∈aF d.ws d.pl) then (d.giveWay b).cryOut else (d.giveWay b).take b
def wrong (d:Nd) (b:Int):Bool:=if d.ps=1 then decide (b=1) && d.sn.isSome else decide (b=0)
def dropName (n:Int) (q:List Fr):List Fr:=q.eraseIdx ((q.map (·.1)).idxOf n)
def endFrame (d:Nd):Nd:=match d.sn with
 | none=>{d with st := .rest,ps:=0,tk:=d.tk++[(dL d.pl,jD d.pl)]}
 | some _=>{d with st := .rest,ps:=0,qu:=dropName (dL d.pl) d.qu}
def hearBehind (d:Nd) (b:Int):Nd:=if d.wrong b then d.cryOut else if d.ps+1=10 then ({d with ps:=d.ps+1}:Nd).endFrame else {d with ps:=d.ps+1}
def hearFrame (d:Nd) (b:Int):Nd:=if d.over then d.hearBehind b else d.hearStuffed b
def hearDazed (d:Nd) (b:Int):Nd:=if b=0 then {d with ps:=0} else d.passOne 8 .rest
def hearBetween (d:Nd) (b:Int):Nd:=if b=0 then (d.enter none).hearFrame b else if d.st = .rest then d.passOne 3 .free else d
def hear (d:Nd) (b:Int):Nd:=match d.st with
 | .frame=>d.hearFrame b
 | .cry=>d.passOne 6 .dazed
 | .dazed=>d.hearDazed b
 | _=>d.hearBetween b
def spot (n:Int):List Fr→Nat
 | []=>0
 | f :: q=>if f.1≤n then spot n q+1 else 0
def letWait (d:Nd) (f:Fr):Nd:={d with qu:=d.qu.take (spot f.1 d.qu)++f :: d.qu.drop (spot f.1 d.qu)}
end Nd
structure NdOk (d:Nd):Prop where
 rd:Rd d.ws d.pl
 qu:∀ f∈d.qu,cQ f.1 f.2
 sn:∀ s,d.st = .frame→d.sn=some s→∃ f∈d.qu,s=ah f∧d.ws <+: s
theorem NdOk.new:NdOk Nd.new:=⟨cw,fun f h=>by simp [Nd.new] at h,fun s h=>by simp [Nd.new] at h⟩
theorem Rd.uniq {w p q:List Int} (a:Rd w p) (b:Rd w q):p=q:=by
 have h:=a.lp.symm.trans b.lp
 exact (Prod.mk.inj h).1
theorem dB {f:Fr} (g:cQ f.1 f.2):Rd (ah f) (aE f.1 f.2)∧aF (ah f) (aE f.1 f.2)=[]:=by
 obtain ⟨_,b,c⟩:=l7 g
 exact ⟨c,b⟩
theorem NdOk.more {d:Nd} (ok:NdOk d) {s:List Int} (h1:d.st = .frame) (h2:d.sn=some s) (h3:d.over=false):d.ws.length < s.length:=by
 obtain ⟨f,hf,rfl,hp⟩:=ok.sn s h1 h2
 obtain ⟨r1,r2⟩:=dB (ok.qu f hf)
 have hl:=hp.length_le
 rcases Nat.lt_or_ge d.ws.length (ah f).length with z | z
 ·exact z
 ·have e:d.ws=ah f:=hp.eq_of_length (by omega)
  have r3:=ok.rd
  rw [e] at r3
  have e2:=r3.uniq r1
  unfold Nd.over at h3
  rw [e,e2] at h3
  exact absurd r2 (of_decide_eq_false h3)
theorem sR {w p q:List Int} {b:Int}:∀ {r t:List Int},Way w p (r++b :: t) q→∃ p',Way w p r p'∧b∈aF (w++r) p':=by
 intro r
 induction r generalizing w p with
 | nil=>
  intro t h
  cases h with
  | cons h1 h2=>exact ⟨p,.nil _ _,by rw [List.append_nil];exact h1⟩
 | cons a r ih=>
  intro t h
  cases h with
  | cons h1 h2=>
   obtain ⟨p',a1,a2⟩:=ih h2
   exact ⟨p',.cons h1 a1,by simpa using a2⟩
theorem de {f:Fr} (g:cQ f.1 f.2) {w p:List Int} (r:Rd w p) {b:Int} (h:w++[b] <+: ah f):b∈aF w p:=by
 obtain ⟨t,ht⟩:=h
 obtain ⟨a,_,_⟩:=l7 g
 have a':Way [] [] (w++b :: t) (aE f.1 f.2):=by
  have:w++b :: t=ah f:=by rw [← ht];simp
  rw [this]
  exact a
 obtain ⟨p',w1,w2⟩:=sR a'
 have r2:=w1.rd r.bw cw
 rw [List.nil_append] at r2 w2
 rw [r.uniq r2]
 exact w2
theorem cH {w s:List Int} (h:w <+: s) (hl:w.length < s.length):w++[s.getD w.length 0] <+: s:=by
 obtain ⟨t,rfl⟩:=h
 cases t with
 | nil=>simp at hl
 | cons b t=>
  refine ⟨t,?_⟩
  have:(w++b :: t).getD w.length 0=b:=by simp [List.getD_eq_getElem?_getD]
  rw [this]
  simp
theorem NdOk.over_eq {d:Nd} (ok:NdOk d) {f:Fr} (hf:f∈d.qu) (hp:d.ws <+: ah f) (h:d.over=true):d.ws=ah f∧d.pl=aE f.1 f.2:=by
 have g:=ok.qu f hf
 have e:d.ws=ah f:=by
  rcases Nat.lt_or_ge d.ws.length (ah f).length with z | z
  ·have h2:=de g ok.rd (cH hp z)
   unfold Nd.over at h
   rw [of_decide_eq_true h] at h2
   cases h2
  ·exact hp.eq_of_length (by have:=hp.length_le;omega)
 have r3:=ok.rd
 rw [e] at r3
 exact ⟨e,r3.uniq (dB g).1⟩
theorem NdOk.ps {d:Nd} (ok:NdOk d) (k:Nat):NdOk {d with ps:=k}:=⟨ok.rd,ok.qu,ok.sn⟩
theorem NdOk.enter0 {d:Nd} (ok:NdOk d):NdOk (d.enter none):=⟨cw,ok.qu,fun _ _ z=>by simp [Nd.enter] at z⟩
theorem NdOk.begin {d:Nd} (ok:NdOk d):NdOk d.begin:=by
 unfold Nd.begin
 split
 ·split
  ·exact ok
  ·rename_i f q e
   refine ⟨cw,ok.qu,fun s _ z => ?_⟩
   have:s=ah f:=(Option.some.inj z).symm
   subst this
   exact ⟨f,by show f∈d.qu;rw [e];exact List.mem_cons_self,rfl,List.nil_prefix⟩
 ·exact ok
theorem NdOk.passOne {d:Nd} (ok:NdOk d) (k:Nat) (s:Md) (h:s ≠ .frame):NdOk (d.passOne k s):=by
 unfold Nd.passOne
 split
 ·exact ⟨ok.rd,ok.qu,fun _ z=>absurd z h⟩
 ·exact ok.ps _
theorem NdOk.cryOut {d:Nd} (ok:NdOk d):NdOk d.cryOut:=⟨ok.rd,ok.qu,fun _ z=>by simp [Nd.cryOut] at z⟩
theorem NdOk.giveWay {d:Nd} (ok:NdOk d) (b:Int):NdOk (d.giveWay b):=by
 unfold Nd.giveWay
 split
 ·exact ⟨ok.rd,ok.qu,fun _ _ z=>by simp at z⟩
 ·exact ok
theorem g9 (d:Nd) (b:Int):(d.giveWay b).ws=d.ws∧(d.giveWay b).pl=d.pl∧(d.giveWay b).qu=d.qu∧(d.giveWay b).st=d.st∧(d.giveWay b).tk=d.tk∧(d.giveWay b).fc=d.fc∧(d.giveWay b).ps=d.ps:=by
 unfold Nd.giveWay
 split <;> exact ⟨rfl,rfl,rfl,rfl,rfl,rfl,rfl⟩
theorem NdOk.hearStuffed {d:Nd} (ok:NdOk d) {b:Int} (hb:Bit b) (hf:d.st = .frame) (ho:d.over=false):NdOk (d.hearStuffed b):=by
 unfold Nd.hearStuffed
 have ok':=ok.giveWay b
 obtain ⟨e1,e2,e3,e4,_⟩:=g9 d b
 split
 ·exact ok'.cryOut
 ·rename_i h
  have h':(d.giveWay b).hears b=false∧b∈aF d.ws d.pl:=by
   simp only [Bool.or_eq_true,Bool.not_eq_true',decide_eq_false_iff_not,not_or,Classical.not_not,Bool.not_eq_true] at h
   exact h
  refine ⟨?_,ok'.qu,fun s z1 z2 => ?_⟩
  ·show Rd ((d.giveWay b).ws++[b]) (cO (d.giveWay b).ws (d.giveWay b).pl b)
   rw [e1,e2]
   exact ok.rd.next hb h'.2
  ·have z2':(d.giveWay b).sn=some s:=z2
   obtain ⟨f,hf1,rfl,hp⟩:=ok'.sn s (by rw [e4];exact hf) z2'
   refine ⟨f,hf1,rfl,?_⟩
   have hd:b=(d.giveWay b).due (ah f):=by
    have:=h'.1
    unfold Nd.hears at this
    rw [z2'] at this
    simpa using this
   have hl:(d.giveWay b).ws.length < (ah f).length:=ok'.more (by rw [e4];exact hf) z2' (by unfold Nd.over;rw [e1,e2];exact ho)
   show (d.giveWay b).ws++[b] <+: ah f
   have:=cH hp hl
   unfold Nd.due at hd
   rw [← hd] at this
   exact this
theorem l8 {n:Int} {q:List Fr} {f:Fr} (h:f∈Nd.dropName n q):f∈q:=List.mem_of_mem_eraseIdx h
theorem NdOk.endFrame {d:Nd} (ok:NdOk d):NdOk d.endFrame:=by
 unfold Nd.endFrame
 split
 ·exact ⟨ok.rd,ok.qu,fun _ z=>by simp at z⟩
 ·exact ⟨ok.rd,fun f hf=>ok.qu f (l8 hf),fun _ z=>by simp at z⟩
theorem NdOk.hearBehind {d:Nd} (ok:NdOk d) (b:Int):NdOk (d.hearBehind b):=by
 unfold Nd.hearBehind
 split
 ·exact ok.cryOut
 ·split
  ·exact (ok.ps _).endFrame
  ·exact ok.ps _
theorem NdOk.hearFrame {d:Nd} (ok:NdOk d) {b:Int} (hb:Bit b) (hf:d.st = .frame):NdOk (d.hearFrame b):=by
 unfold Nd.hearFrame
 split
 ·exact ok.hearBehind b
 ·rename_i h
  exact ok.hearStuffed hb hf (Bool.eq_false_iff.mpr h)
theorem NdOk.hear {d:Nd} (ok:NdOk d) {b:Int} (hb:Bit b):NdOk (d.hear b):=by
 unfold Nd.hear
 split
 ·rename_i h;exact ok.hearFrame hb h
 ·exact ok.passOne _ _ (by decide)
 ·unfold Nd.hearDazed
  split
  ·exact ok.ps 0
  ·exact ok.passOne _ _ (by decide)
 all_goals
  unfold Nd.hearBetween
  split
  ·exact ok.enter0.hearFrame hb rfl
  ·split
   ·exact ok.passOne _ _ (by decide)
   ·exact ok
theorem sS (n:Int):∀ q:List Fr,Nd.spot n q≤q.length
 | []=>Nat.le_refl _
 | f :: q=>by
  unfold Nd.spot
  split
  ·have:=sS n q
   rw [List.length_cons];omega
  ·exact Nat.zero_le _
theorem NdOk.letWait {d:Nd} (ok:NdOk d) {f:Fr} (g:cQ f.1 f.2):NdOk (d.letWait f):=by
 have hm:∀ x,x∈d.qu→x∈(d.letWait f).qu:=fun x hx=>by
  unfold Nd.letWait
  rw [List.mem_append,List.mem_cons]
  rw [← List.take_append_drop (Nd.spot f.1 d.qu) d.qu] at hx
  rcases List.mem_append.mp hx with z | z
  ·exact .inl z
  ·exact .inr (.inr z)
 refine ⟨ok.rd,fun x hx => ?_,fun s h1 h2 => ?_⟩
 ·unfold Nd.letWait at hx
  rw [List.mem_append,List.mem_cons] at hx
  rcases hx with z | rfl | z
  ·exact ok.qu x (List.mem_of_mem_take z)
  ·exact g
  ·exact ok.qu x (List.mem_of_mem_drop z)
 ·obtain ⟨x,a,b,e⟩:=ok.sn s h1 h2
  exact ⟨x,hm x a,b,e⟩
end BB
namespace BB
theorem dg (f:Fr):Bits (ah f):=eT (dy _ _)
theorem NdOk.put_bit {d:Nd} (ok:NdOk d):Bit d.put:=by
 unfold Nd.put
 split
 ·exact .inl rfl
 ·rename_i hst
  unfold Nd.putFrame
  split
  ·split
   ·exact .inl rfl
   ·exact .inr rfl
  ·split
   ·exact .inr rfl
   ·rename_i s hs
    obtain ⟨f,hf,rfl,hp⟩:=ok.sn s hst hs
    exact aT (dg f) _
 ·exact .inr rfl
def dY (ds:List Nd):Int:=if 0∈ds.map Nd.put then 0 else 1
def bj (ds:List Nd) (flip:Int):Int:=if flip=1 then 1 - dY (ds.map Nd.begin) else dY (ds.map Nd.begin)
def aM (ds:List Nd) (flip:Int):List Nd:=(ds.map Nd.begin).map fun d=>d.hear (bj ds flip)
def i7:List Nd→List Int→List Int
 | _,[]=>[]
 | ds,f :: fs=>bj ds f :: i7 (aM ds f) fs
def cm:List Nd→List Int→List Nd
 | ds,[]=>ds
 | ds,f :: fs=>cm (aM ds f) fs
theorem nH (ds:List Nd):Bit (dY ds):=by
 unfold dY
 split
 ·exact .inl rfl
 ·exact .inr rfl
theorem i8 (ds:List Nd) (flip:Int):Bit (bj ds flip):=by
 unfold bj
 have:=nH (ds.map Nd.begin)
 split
 ·rcases this with h | h <;> rw [h]
  ·exact .inr rfl
  ·exact .inl rfl
 ·exact this
def AllOk (ds:List Nd):Prop:=∀ d∈ds,NdOk d
theorem AllOk.step {ds:List Nd} (h:AllOk ds) (flip:Int):AllOk (aM ds flip):=by
 intro d hd
 unfold aM at hd
 rw [List.map_map] at hd
 obtain ⟨e,he,rfl⟩:=List.mem_map.mp hd
 exact (h e he).begin.hear (i8 _ _)
theorem br (ds:List Nd) (flip:Int):(aM ds flip).length=ds.length:=by simp [aM]
theorem nI (ds:List Nd) (fs:List Int) (f:Int):cm ds (fs++[f])=aM (cm ds fs) f:=by
 induction fs generalizing ds with
 | nil=>rfl
 | cons g fs ih=>exact ih (aM ds g)
theorem l9 (ds:List Nd) (fs:List Int) (f:Int):i7 ds (fs++[f])=i7 ds fs++[bj (cm ds fs) f]:=by
 induction fs generalizing ds with
 | nil=>rfl
 | cons g fs ih=>exact congrArg _ (ih (aM ds g))
theorem j6 (ds:List Nd) (fs:List Int):(cm ds fs).length=ds.length:=by
 induction fs generalizing ds with
 | nil=>rfl
 | cons g fs ih=>rw [show cm ds (g :: fs)=cm (aM ds g) fs from rfl,ih,br]
theorem AllOk.run {ds:List Nd} (h:AllOk ds) (fs:List Int):AllOk (cm ds fs):=by
 induction fs generalizing ds with
 | nil=>exact h
 | cons g fs ih=>exact ih (h.step g)
theorem j7 (d:Nd):d.begin.qu=d.qu∧d.begin.tk=d.tk:=by
 unfold Nd.begin
 split
 ·split <;> exact ⟨rfl,rfl⟩
 ·exact ⟨rfl,rfl⟩
theorem dZ (d:Nd) (k:Nat) (s:Md):(d.passOne k s).qu=d.qu∧(d.passOne k s).tk=d.tk:=by
 unfold Nd.passOne
 split <;> exact ⟨rfl,rfl⟩
theorem nJ (n:Int) (q:List Fr):(Nd.dropName n q).length≤q.length:=by
 unfold Nd.dropName
 exact List.length_eraseIdx_le _ _
theorem fK (d:Nd) (b:Int):(d.hearFrame b).qu.length≤d.qu.length∧(d.hearFrame b).tk.length≤d.tk.length+1:=by
 unfold Nd.hearFrame
 split
 ·unfold Nd.hearBehind
  split
  ·exact ⟨Nat.le_refl _,Nat.le_succ _⟩
  ·split
   ·unfold Nd.endFrame
    split
    ·exact ⟨Nat.le_refl _,by simp⟩
    ·exact ⟨nJ _ _,Nat.le_succ _⟩
   ·exact ⟨Nat.le_refl _,Nat.le_succ _⟩
 ·unfold Nd.hearStuffed
  obtain ⟨_,_,e3,_,e5,_⟩:=g9 d b
  split
  ·show (d.giveWay b).qu.length≤_∧(d.giveWay b).tk.length≤_
   rw [e3,e5];exact ⟨Nat.le_refl _,Nat.le_succ _⟩
  ·show (d.giveWay b).qu.length≤_∧(d.giveWay b).tk.length≤_
   rw [e3,e5];exact ⟨Nat.le_refl _,Nat.le_succ _⟩
theorem sT (d:Nd) (b:Int):(d.hear b).qu.length≤d.qu.length∧(d.hear b).tk.length≤d.tk.length+1:=by
 unfold Nd.hear
 split
 ·exact fK d b
 ·obtain ⟨e1,e2⟩:=dZ d 6 .dazed
  rw [e1,e2];exact ⟨Nat.le_refl _,Nat.le_succ _⟩
 ·unfold Nd.hearDazed
  split
  ·exact ⟨Nat.le_refl _,Nat.le_succ _⟩
  ·obtain ⟨e1,e2⟩:=dZ d 8 .rest
   rw [e1,e2];exact ⟨Nat.le_refl _,Nat.le_succ _⟩
 all_goals
  unfold Nd.hearBetween
  split
  ·exact fK (d.enter none) b
  ·split
   ·obtain ⟨e1,e2⟩:=dZ d 3 .free
    rw [e1,e2];exact ⟨Nat.le_refl _,Nat.le_succ _⟩
   ·exact ⟨Nat.le_refl _,Nat.le_succ _⟩
def Few (q t:Nat) (ds:List Nd):Prop:=∀ d∈ds,d.qu.length≤q∧d.tk.length≤t
theorem Few.step {q t:Nat} {ds:List Nd} (h:Few q t ds) (flip:Int):Few q (t+1) (aM ds flip):=by
 intro d hd
 unfold aM at hd
 rw [List.map_map] at hd
 obtain ⟨e,he,rfl⟩:=List.mem_map.mp hd
 obtain ⟨a,b⟩:=h e he
 obtain ⟨c1,c2⟩:=j7 e
 obtain ⟨d1,d2⟩:=sT e.begin (bj ds flip)
 rw [c1] at d1
 rw [c2] at d2
 exact ⟨by show (e.begin.hear _).qu.length≤_;omega,by show (e.begin.hear _).tk.length≤_;omega⟩
theorem Few.run {q t:Nat} {ds:List Nd} (h:Few q t ds) (fs:List Int):Few q (t+fs.length) (cm ds fs):=by
 induction fs generalizing ds t with
 | nil=>exact h
 | cons g fs ih=>
  have:=ih (h.step g)
  rw [List.length_cons,show t+(fs.length+1)=t+1+fs.length by omega]
  exact this
theorem Few.mono {q q' t t':Nat} {ds:List Nd} (h:Few q t ds) (a:q≤q') (b:t≤t'):Few q' t' ds:=fun d hd=>⟨Nat.le_trans (h d hd).1 a,Nat.le_trans (h d hd).2 b⟩
end BB
namespace BB
theorem vK:∀ (l:List Int) (s:List Int×Int×Int),s.1 <+: (l.foldl i6 s).1
 | [],_=>List.prefix_refl _
 | b :: l,s=>by
  refine List.IsPrefix.trans ?_ (vK l (i6 s b))
  unfold i6
  split
  ·exact List.prefix_refl _
  ·exact List.prefix_append _ _
theorem zt (w t:List Int):(LP w).1 <+: (LP (w++t)).1:=by
 unfold LP
 rw [List.foldl_append]
 exact vK t _
theorem Rd.pre {f:Fr} {w p:List Int} (g:cQ f.1 f.2) (r:Rd w p) (h:w <+: ah f):p <+: aE f.1 f.2:=by
 obtain ⟨t,ht⟩:=h
 have:=zt w t
 rw [ht,r.lp,(dB g).1.lp] at this
 exact this
theorem eV {w s:List Int} {b:Int} (hs:Bits s) (h:w++[b] <+: s):Bit b:=by
 obtain ⟨t,rfl⟩:=h
 exact hs b (by simp)
theorem Rd.bit {f:Fr} {w p:List Int} {b:Int} (g:cQ f.1 f.2) (r:Rd w p) (h:w++[b] <+: ah f) (hd:due w=false):p++[b] <+: aE f.1 f.2:=by
 have hb:=eV (dg f) h
 have r2:=r.next hb (de g r h)
 have:cO w p b=p++[b]:=by unfold cO;rw [hd];rfl
 rw [this] at r2
 exact r2.pre g h
theorem sU:∀ {a b:List Int} {m:Nat},Bits a→Bits b→a.length=b.length→cv a < cv b→a.take m=b.take m→a.getD m 0≤b.getD m 0
 | [],[],_,_,_,_,h,_=>absurd h (by decide)
 | [],_ :: _,_,_,_,h,_,_=>by simp at h
 | _ :: _,[],_,_,_,h,_,_=>by simp at h
 | x :: a,y :: b,m,ha,hb,hl,hlt,ht=>by
  have hl':a.length=b.length:=by simpa using hl
  rw [eO,eO,hl'] at hlt
  obtain ⟨a0,a1⟩:=kL ha.tail
  obtain ⟨b0,b1⟩:=kL hb.tail
  have hx:=ha.head
  have hy:=hb.head
  cases m with
  | zero=>
   show x≤y
   rcases hx with e | e <;> rcases hy with e' | e' <;> subst e <;> subst e'
   ·exact Int.le_refl _
   ·decide
   ·rw [Int.one_mul,Int.zero_mul] at hlt
    omega
   ·exact Int.le_refl _
  | succ m=>
   rw [List.take_succ_cons,List.take_succ_cons] at ht
   obtain ⟨e,h3⟩:=List.cons.inj ht
   subst e
   show a.getD m 0≤b.getD m 0
   exact sU ha.tail hb.tail hl' (by omega) h3
theorem u4 (f:Fr):[0]++am f.1 11 <+: aE f.1 f.2:=by
 unfold aE body
 simp only [List.append_assoc]
 exact ⟨_,by rw [List.append_assoc]⟩
theorem iO {p s:List Int} (h:p <+: s) {n:Nat} (hn:n≤p.length):p.take n=s.take n:=by
 obtain ⟨t,rfl⟩:=h
 rw [List.take_append_of_le_length hn]
theorem dh {f:Fr} {p:List Int} (h:p <+: aE f.1 f.2) {n:Nat} (h1:n+1≤p.length) (h2:n≤11):(p.take (n+1)).drop 1=(am f.1 11).take n:=by
 have hb:=u4 f
 rw [iO h h1,← iO hb (by rw [List.length_append,ar];simp;omega)]
 rfl
theorem sV {f g:Fr} {p:List Int} (hf:cQ f.1 f.2) (hg:cQ g.1 g.2) (h1:p <+: aE f.1 f.2) (h2:p <+: aE g.1 g.2) (hl:12≤p.length):f.1=g.1:=by
 have a:=dh h1 (n:=11) hl (Nat.le_refl _)
 have b:=dh h2 (n:=11) hl (Nat.le_refl _)
 rw [a,List.take_of_length_le (by rw [ar];exact Nat.le_refl _),List.take_of_length_le (by rw [ar];exact Nat.le_refl _)] at b
 have c:=congrArg cv b
 rw [ba hf.1.1 (by have:=hf.1.2;omega),ba hg.1.1 (by have:=hg.1.2;omega)] at c
 exact c
theorem arb {f g:Fr} {w p:List Int} {x y:Int} (hf:cQ f.1 f.2) (hg:cQ g.1 g.2) (lt:f.1 < g.1) (r:Rd w p) (h1:w++[x] <+: ah f) (h2:w++[y] <+: ah g) :
  x=y∨(x=0∧y=1∧due w=false∧1≤p.length∧p.length < 12):=by
 have hx:=eV (dg f) h1
 have hy:=eV (dg g) h2
 cases hd:due w with
 | true=>
  have a:=de hf r h1
  have b:=de hg r h2
  unfold aF at a b
  rw [hd,if_pos rfl,List.mem_singleton] at a b
  exact .inl (a.trans b.symm)
 | false=>
  have a:=r.bit hf h1 hd
  have b:=r.bit hg h2 hd
  have lx:(p++[x]).length=p.length+1:=by simp
  have ly:(p++[y]).length=p.length+1:=by simp
  have pa:p <+: aE f.1 f.2:=(List.prefix_append p [x]).trans a
  have pb:p <+: aE g.1 g.2:=(List.prefix_append p [y]).trans b
  by_cases h12:12≤p.length
  ·exact absurd (sV hf hg pa pb h12) (by omega)
  ·by_cases h0:p.length=0
   ·have e:p=[]:=List.length_eq_zero_iff.mp h0
    subst e
    have c:=iO a (n:=1) (by simp)
    have d:=iO b (n:=1) (by simp)
    have zf:(aE f.1 f.2).take 1=[0]:=rfl
    have zg:(aE g.1 g.2).take 1=[0]:=rfl
    rw [zf] at c
    rw [zg] at d
    have c:[x]=[0]:=c
    have d:[y]=[0]:=d
    cases c
    cases d
    exact .inl rfl
   ·obtain ⟨n,hn⟩:∃ n,p.length=n+1:=⟨p.length - 1,by omega⟩
    have na:=dh a (n:=n+1) (by omega) (by omega)
    have nb:=dh b (n:=n+1) (by omega) (by omega)
    rw [List.take_of_length_le (by omega)] at na nb
    have pn:p=p.take (n+1):=by rw [List.take_of_length_le (by omega)]
    have ma:=dh pa (n:=n) (by omega) (by omega)
    have mb:=dh pb (n:=n) (by omega) (by omega)
    have key:=sU (m:=n) (bS f.1 11) (bS g.1 11) (by rw [ar,ar]) (by rw [ba hf.1.1 (by have:=hf.1.2;omega),ba hg.1.1 (by have:=hg.1.2;omega)];exact lt) (ma.symm.trans mb)
    have gx:(am f.1 11).getD n 0=x:=by
     have:=congrArg (fun l=>l.getD n 0) na
     rw [show (p++[x]).drop 1=p.drop 1++[x] by rw [List.drop_append_of_le_length (by omega)]] at this
     have e1:(p.drop 1++[x]).getD n 0=x:=by
      have:(p.drop 1).length=n:=by rw [List.length_drop];omega
      rw [← this];exact bM
     rw [e1] at this
     have e2:((am f.1 11).take (n+1)).getD n 0=(am f.1 11).getD n 0:=by simp [List.getD_eq_getElem?_getD]
     exact e2.symm.trans this.symm
    have gy:(am g.1 11).getD n 0=y:=by
     have:=congrArg (fun l=>l.getD n 0) nb
     rw [show (p++[y]).drop 1=p.drop 1++[y] by rw [List.drop_append_of_le_length (by omega)]] at this
     have e1:(p.drop 1++[y]).getD n 0=y:=by
      have:(p.drop 1).length=n:=by rw [List.length_drop];omega
      rw [← this];exact bM
     rw [e1] at this
     have e2:((am g.1 11).take (n+1)).getD n 0=(am g.1 11).getD n 0:=by simp [List.getD_eq_getElem?_getD]
     exact e2.symm.trans this.symm
    rw [gx,gy] at key
    rcases hx with e | e <;> rcases hy with e' | e'
    ·exact .inl (e.trans e'.symm)
    ·exact .inr ⟨e,e',rfl,by omega,by omega⟩
    ·omega
    ·exact .inl (e.trans e'.symm)
end BB
namespace BB
structure Kept (d e:Nd):Prop where
 qu:e.qu=d.qu
 tk:e.tk=d.tk
 fc:e.fc=d.fc
structure At1 (f:Fr) (own:Bool) (j:Nat) (d:Nd):Prop where
 st:d.st = .frame
 ws:d.ws=(ah f).take j
 rd:Rd d.ws d.pl
 ps:d.ps=0
 mine:own=true→d.sn=some (ah f)
 other:own=false→d.sn=none∨∃ g:Fr,d.sn=some (ah g)∧cQ g.1 g.2∧f.1 < g.1∧(ah f).take j <+: ah g
theorem pq {s:List Int} {j:Nat} (h:j < s.length):s.take (j+1)=s.take j++[s.getD j 0]:=by
 rw [List.take_succ_eq_append_getElem h]
 simp [List.getD_eq_getElem?_getD,h]
theorem At1.len {f:Fr} {own:Bool} {j:Nat} {d:Nd} (h:At1 f own j d) (hj:j≤(ah f).length):d.ws.length=j:=by rw [h.ws,List.length_take];omega
theorem At1.pre {f:Fr} {own:Bool} {j:Nat} {d:Nd} (h:At1 f own j d) (hj:j < (ah f).length):d.ws++[(ah f).getD j 0] <+: ah f:=by
 rw [h.ws,← pq hj]
 exact List.take_prefix _ _
theorem At1.open {f:Fr} {own:Bool} {j:Nat} {d:Nd} (h:At1 f own j d) (g:cQ f.1 f.2) (hj:j < (ah f).length):(ah f).getD j 0∈aF d.ws d.pl∧d.over=false:=by
 have hm:=de g h.rd (h.pre hj)
 refine ⟨hm,?_⟩
 unfold Nd.over
 rw [decide_eq_false_iff_not]
 intro z
 rw [z] at hm
 cases hm
theorem At1.put {f:Fr} {own:Bool} {j:Nat} {d:Nd} (h:At1 f own j d) (g:cQ f.1 f.2) (hj:j < (ah f).length):(own=true→d.put=(ah f).getD j 0)∧(own=false→(ah f).getD j 0=1→d.put=1):=by
 have ho:=(h.open g hj).2
 have hl:=h.len (Nat.le_of_lt hj)
 unfold Nd.put
 rw [h.st]
 unfold Nd.putFrame
 rw [ho]
 constructor
 ·intro z
  rw [h.mine z]
  show (ah f).getD d.ws.length 0=_
  rw [hl]
 ·intro z one
  rcases h.other z with e | ⟨k,e,gk,lt,hp⟩
  ·rw [e];rfl
  ·rw [e]
   show (ah k).getD d.ws.length 0=1
   rw [hl]
   have hlen:((ah f).take j).length=j:=by rw [List.length_take];omega
   by_cases hk:j < (ah k).length
   ·have h2:d.ws++[(ah k).getD j 0] <+: ah k:=by
     have:=cH hp (by rw [hlen];exact hk)
     rw [hlen] at this
     rw [h.ws];exact this
    rcases arb g gk lt h.rd (h.pre hj) h2 with a | ⟨a,_⟩
    ·rw [← a];exact one
    ·rw [one] at a;cases a
   ·
    exfalso
    obtain ⟨t,ht⟩:=hp
    have:t=[]:=by
     have:=congrArg List.length ht
     rw [List.length_append,hlen] at this
     exact List.length_eq_zero_iff.mp (by omega)
    rw [this,List.append_nil] at ht
    have e2:d.ws=ah k:=h.ws.trans ht
    have hc:=(dB gk).2
    have hu:=h.rd
    rw [e2] at hu
    have ep:=hu.uniq (dB gk).1
    have:d.over=true:=by
     unfold Nd.over
     rw [e2,ep,hc]
     rfl
    rw [ho] at this
    cases this
theorem At1.hear {f:Fr} {own:Bool} {j:Nat} {d:Nd} (h:At1 f own j d) (g:cQ f.1 f.2) (hj:j < (ah f).length):At1 f own (j+1) (d.hear ((ah f).getD j 0))∧Kept d (d.hear ((ah f).getD j 0)):=by
 obtain ⟨hm,ho⟩:=h.open g hj
 have hl:=h.len (Nat.le_of_lt hj)
 have hb:=eV (dg f) (h.pre hj)
 have hpre:=h.pre hj
 have hw:d.ws++[(ah f).getD j 0]=(ah f).take (j+1):=by rw [h.ws,← pq hj]
 have rn:=h.rd.next hb hm
 have go:∀ e:Nd,e.st=d.st→e.ws=d.ws→e.pl=d.pl→e.ps=d.ps→e.qu=d.qu→e.tk=d.tk→e.fc=d.fc→d.giveWay ((ah f).getD j 0)=e→e.hears ((ah f).getD j 0)=false →
   d.hear ((ah f).getD j 0)={e with ws:=(ah f).take (j+1),pl:=cO d.ws d.pl ((ah f).getD j 0)}:=fun e a1 a2 a3 a4 a5 a6 a7 ge hh=>by
  unfold Nd.hear
  rw [h.st]
  show d.hearFrame _=_
  unfold Nd.hearFrame
  rw [ho,if_neg (by decide)]
  unfold Nd.hearStuffed
  rw [ge,hh,Bool.false_or,decide_eq_true hm,if_neg (by decide)]
  unfold Nd.take
  rw [a2,a3,hw]
 have fin:∀ e:Nd,e.st=d.st→e.ps=d.ps→e.qu=d.qu→e.tk=d.tk→e.fc=d.fc→(own=true→e.sn=some (ah f))→(own=false→e.sn=none∨∃ g:Fr,e.sn=some (ah g)∧cQ g.1 g.2∧f.1 < g.1∧(ah f).take (j+1) <+: ah g) →
   At1 f own (j+1) {e with ws:=(ah f).take (j+1),pl:=cO d.ws d.pl ((ah f).getD j 0)}∧Kept d {e with ws:=(ah f).take (j+1),pl:=cO d.ws d.pl ((ah f).getD j 0)}:=fun e a1 a4 a5 a6 a7 s1 s2=>
  ⟨⟨a1.trans h.st,rfl,by rw [← hw];exact rn,a4.trans h.ps,s1,s2⟩,⟨a5,a6,a7⟩⟩
 cases own with
 | true=>
  have sn:=h.mine rfl
  have hh:d.hears ((ah f).getD j 0)=false:=by
   unfold Nd.hears
   rw [sn]
   show (!decide ((ah f).getD j 0=(ah f).getD d.ws.length 0))=false
   rw [hl,decide_eq_true rfl];rfl
  have ge:d.giveWay ((ah f).getD j 0)=d:=by unfold Nd.giveWay;rw [hh];rfl
  rw [go d rfl rfl rfl rfl rfl rfl rfl ge hh]
  exact fin d rfl rfl rfl rfl rfl (fun _=>sn) (fun z=>by cases z)
 | false=>
  rcases h.other rfl with e | ⟨k,e,gk,lt,hp⟩
  ·have hh:d.hears ((ah f).getD j 0)=false:=by unfold Nd.hears;rw [e]
   have ge:d.giveWay ((ah f).getD j 0)=d:=by unfold Nd.giveWay;rw [hh];rfl
   rw [go d rfl rfl rfl rfl rfl rfl rfl ge hh]
   exact fin d rfl rfl rfl rfl rfl (fun z=>by cases z) (fun _ => .inl e)
  ·have hlen:((ah f).take j).length=j:=by rw [List.length_take];omega
   have hk:j < (ah k).length:=by
    have:=NdOk.more (d:={d with qu:=[k]}) ⟨h.rd,fun x hx=>by rw [List.mem_singleton.mp hx];exact gk,fun s _ z=>⟨k,List.mem_singleton.mpr rfl,by rw [show ({d with qu:=[k]}:Nd).sn=d.sn from rfl,e] at z;exact (Option.some.inj z).symm,by rw [show ({d with qu:=[k]}:Nd).sn=d.sn from rfl,e] at z;rw [← Option.some.inj z];show d.ws <+: _;rw [h.ws];exact hp⟩⟩ h.st e ho
    have this:d.ws.length < (ah k).length:=this
    rw [hl] at this
    exact this
   have h2:d.ws++[(ah k).getD j 0] <+: ah k:=by
    have:=cH hp (by rw [hlen];exact hk)
    rw [hlen] at this
    rw [h.ws];exact this
   have hd:d.hears ((ah f).getD j 0) = !decide ((ah f).getD j 0=(ah k).getD j 0):=by
    unfold Nd.hears
    rw [e]
    show (!decide ((ah f).getD j 0=(ah k).getD d.ws.length 0))=_
    rw [hl]
   rcases arb g gk lt h.rd (h.pre hj) h2 with a | ⟨a0,a1,a2,a3,a4⟩
   ·have hh:d.hears ((ah f).getD j 0)=false:=by rw [hd,decide_eq_true a];rfl
    have ge:d.giveWay ((ah f).getD j 0)=d:=by unfold Nd.giveWay;rw [hh];rfl
    rw [go d rfl rfl rfl rfl rfl rfl rfl ge hh]
    refine fin d rfl rfl rfl rfl rfl (fun z=>by cases z) (fun _ => .inr ⟨k,e,gk,lt,?_⟩)
    rw [← hw,a];exact h2
   ·have hh:d.hears ((ah f).getD j 0)=true:=by rw [hd,a0,a1];rfl
    have ge:d.giveWay ((ah f).getD j 0)={d with sn:=none}:=by
     unfold Nd.giveWay
     have:d.atName=true:=by
      unfold Nd.atName
      rw [a2,decide_eq_true a3,decide_eq_true a4];rfl
     rw [hh,this,a0];rfl
    rw [go {d with sn:=none} rfl rfl rfl rfl rfl rfl rfl ge rfl]
    exact fin {d with sn:=none} rfl rfl rfl rfl rfl (fun z=>by cases z) (fun _ => .inl rfl)
end BB
namespace BB
structure Bh1 (f:Fr) (own:Bool) (k:Nat) (d:Nd):Prop where
 st:d.st = .frame
 ws:d.ws=ah f
 pl:d.pl=aE f.1 f.2
 ps:d.ps=k
 sn:d.sn=if own then some (ah f) else none
theorem md (f:Fr):31≤(aE f.1 f.2).length:=by
 unfold aE body
 simp only [List.length_append,ar,cY,List.length_cons,List.length_nil]
 omega
theorem At1.all {f:Fr} {own:Bool} {d:Nd} (h:At1 f own (ah f).length d) (g:cQ f.1 f.2):Bh1 f own 0 d:=by
 have hw:d.ws=ah f:=by rw [h.ws,List.take_length]
 have hp:d.pl=aE f.1 f.2:=by
  have:=h.rd
  rw [hw] at this
  exact this.uniq (dB g).1
 refine ⟨h.st,hw,hp,h.ps,?_⟩
 cases own with
 | true=>exact h.mine rfl
 | false=>
  rcases h.other rfl with e | ⟨k,e,gk,lt,hpre⟩
  ·exact e
  ·exfalso
   rw [List.take_length] at hpre
   have r:=(dB g).1
   have:=sV g gk (List.prefix_refl _) (r.pre gk hpre) (by have:=md f;omega)
   omega
theorem Bh1.over {f:Fr} {own:Bool} {k:Nat} {d:Nd} (h:Bh1 f own k d) (g:cQ f.1 f.2):d.over=true:=by
 unfold Nd.over
 rw [h.ws,h.pl,(dB g).2]
 rfl
theorem Bh1.put {f:Fr} {own:Bool} {k:Nat} {d:Nd} (h:Bh1 f own k d) (g:cQ f.1 f.2):d.put=if k=1∧own=false then 0 else 1:=by
 unfold Nd.put
 rw [h.st]
 unfold Nd.putFrame
 rw [h.over g,h.ps,h.sn]
 cases own
 ·show (if k=1∧none=none then (0:Int) else 1)=_
  by_cases c:k=1
  ·rw [if_pos ⟨c,rfl⟩,if_pos ⟨c,rfl⟩]
  ·rw [if_neg (fun z=>c z.1),if_neg (fun z=>c z.1)]
 ·show (if k=1∧some (ah f)=none then (0:Int) else 1)=_
  rw [if_neg (fun z=>by cases z.2),if_neg (fun z=>by cases z.2)]
structure Rs1 (k:Nat) (d:Nd):Prop where
 st:d.st = .rest
 ps:d.ps=k
def aX (k:Nat):Int:=if k=1 then 0 else 1
theorem Bh1.hear {f:Fr} {own:Bool} {k:Nat} {d:Nd} (h:Bh1 f own k d) (g:cQ f.1 f.2) (hk:k < 10) :
  (k < 9→Bh1 f own (k+1) (d.hear (aX k))∧Kept d (d.hear (aX k))) ∧
   (k=9→Rs1 0 (d.hear (aX k))∧(d.hear (aX k)).fc=d.fc∧(d.hear (aX k)).qu=(if own then Nd.dropName f.1 d.qu else d.qu)∧(d.hear (aX k)).tk=(if own then d.tk else d.tk++[f])):=by
 have hw:d.wrong (aX k)=false:=by
  unfold Nd.wrong aX
  rw [h.ps]
  by_cases c:k=1
  ·rw [if_pos c,if_pos c];rfl
  ·rw [if_neg c,if_neg c];rfl
 have e:d.hear (aX k)=if k+1=10 then ({d with ps:=d.ps+1}:Nd).endFrame else {d with ps:=d.ps+1}:=by
  have e0:d.hear (aX k)=d.hearFrame (aX k):=by unfold Nd.hear;rw [h.st]
  rw [e0]
  unfold Nd.hearFrame
  rw [h.over g,if_pos rfl]
  unfold Nd.hearBehind
  rw [hw,if_neg (by decide),h.ps]
 have hn:=j5 g
 refine ⟨fun c => ?_,fun c => ?_⟩
 ·rw [e,if_neg (by omega)]
  exact ⟨⟨h.st,h.ws,h.pl,by show d.ps+1=_;rw [h.ps],h.sn⟩,⟨rfl,rfl,rfl⟩⟩
 ·rw [e,if_pos (by omega)]
  unfold Nd.endFrame
  show Rs1 0 (match d.sn with | none=>_ | some _=>_)∧_
  rw [h.sn]
  cases own
  ·refine ⟨⟨rfl,rfl⟩,rfl,rfl,?_⟩
   show d.tk++[(dL d.pl,jD d.pl)]=d.tk++[f]
   rw [h.pl,hn.1,hn.2]
  ·refine ⟨⟨rfl,rfl⟩,rfl,?_,rfl⟩
   show Nd.dropName (dL d.pl) d.qu=Nd.dropName f.1 d.qu
   rw [h.pl,hn.1]
theorem Rs1.put {k:Nat} {d:Nd} (h:Rs1 k d):d.put=1:=by unfold Nd.put;rw [h.st]
theorem Rs1.hear {k:Nat} {d:Nd} (h:Rs1 k d) (hk:k < 3):(k < 2→Rs1 (k+1) (d.hear 1))∧(k=2→(d.hear 1).st = .free)∧Kept d (d.hear 1):=by
 have e:d.hear 1=d.passOne 3 .free:=by
  unfold Nd.hear
  rw [h.st]
  show d.hearBetween 1=_
  unfold Nd.hearBetween
  rw [if_neg (by decide),if_pos h.st]
 rw [e]
 unfold Nd.passOne
 rw [h.ps]
 by_cases c:k+1=3
 ·rw [if_pos c]
  exact ⟨fun z=>by omega,fun _=>rfl,⟨rfl,rfl,rfl⟩⟩
 ·rw [if_neg c]
  exact ⟨fun _=>⟨h.st,rfl⟩,fun z=>by omega,⟨rfl,rfl,rfl⟩⟩
theorem u5 {d:Nd} (h:d.st = .free):d.put=1:=by unfold Nd.put;rw [h]
theorem u6 {d:Nd} (h:d.st = .free):d.hear 1=d:=by
 unfold Nd.hear
 rw [h]
 show d.hearBetween 1=_
 unfold Nd.hearBetween
 rw [if_neg (by decide),if_neg (by rw [h];decide)]
theorem pA {f:Fr} (g:cQ f.1 f.2):0 < (ah f).length:=by
 rcases Nat.eq_zero_or_pos (ah f).length with z | z
 ·have e:=List.length_eq_zero_iff.mp z
  have r:=(dB g).1
  rw [e] at r
  have:=r.uniq cw
  have hl:=md f
  rw [this] at hl
  simp at hl
 ·exact z
theorem qi {f:Fr} (g:cQ f.1 f.2):(ah f).getD 0 0=0:=by
 have h:([]:List Int)++[(ah f).getD 0 0] <+: ah f:=by
  have:=cH (w:=[]) (s:=ah f) (List.nil_prefix) (pA g)
  exact this
 have:=de g cw h
 have hc:aF [] []=[0]:=by decide
 rw [hc] at this
 exact List.mem_singleton.mp this
theorem u7 {f g:Fr} {d:Nd} {own:Bool} (h1:own=true→g=f) (h2:own=false→cQ g.1 g.2∧f.1 < g.1):At1 f own 0 (d.enter (some (ah g))):=
 ⟨rfl,rfl,cw,rfl,fun z=>by rw [← h1 z];rfl,fun z => .inr ⟨g,rfl,(h2 z).1,(h2 z).2,List.nil_prefix⟩⟩
theorem qj {f:Fr} {d:Nd}:At1 f false 0 (d.enter none):=⟨rfl,rfl,cw,rfl,fun z=>(by cases z),fun _ => .inl rfl⟩
theorem sX {d:Nd} (h:d.st = .free):d.hear 0=(d.enter none).hear 0:=by
 have e0:d.hear 0=d.hearBetween 0:=by unfold Nd.hear;rw [h]
 rw [e0]
 unfold Nd.hearBetween
 rw [if_pos rfl]
 rfl
end BB
namespace BB
def nb (f:Fr) (n:Nat):Int:=if n < (ah f).length then (ah f).getD n 0 else if n < (ah f).length+10 then aX (n - (ah f).length) else 1
def Node1 (f:Fr) (own:Bool) (n:Nat) (d:Nd):Prop:=
 if n≤(ah f).length then At1 f own n d else if n < (ah f).length+10 then Bh1 f own (n - (ah f).length) d else Rs1 (n - (ah f).length - 10) d
theorem Node1.bh {f:Fr} {own:Bool} {n:Nat} {d:Nd} (h:Node1 f own n d) (g:cQ f.1 f.2) (h1:(ah f).length≤n) (h2:n < (ah f).length+10):Bh1 f own (n - (ah f).length) d:=by
 unfold Node1 at h
 by_cases c:n≤(ah f).length
 ·rw [if_pos c] at h
  have e:n=(ah f).length:=by omega
  subst e
  rw [Nat.sub_self]
  exact h.all g
 ·rw [if_neg c,if_pos h2] at h
  exact h
theorem Node1.st {f:Fr} {own:Bool} {n:Nat} {d:Nd} (h:Node1 f own n d):d.st ≠ .free:=by
 unfold Node1 at h
 split at h
 ·rw [h.st];decide
 ·split at h
  ·rw [h.st];decide
  ·rw [h.st];decide
theorem zu (f:Fr) (n:Nat):Bit (nb f n):=by
 unfold nb
 split
 ·exact aT (dg f) _
 ·split
  ·unfold aX
   split
   ·exact .inl rfl
   ·exact .inr rfl
  ·exact .inr rfl
theorem Node1.put {f:Fr} {own:Bool} {n:Nat} {d:Nd} (h:Node1 f own n d) (g:cQ f.1 f.2) :
  (own=true→n < (ah f).length→d.put=nb f n)∧(own=false→(ah f).length≤n→nb f n=0→d.put=0)∧(nb f n=1→d.put=1):=by
 by_cases c:n < (ah f).length
 ·have e:nb f n=(ah f).getD n 0:=by unfold nb;rw [if_pos c]
  have ha:At1 f own n d:=by unfold Node1 at h;rw [if_pos (by omega)] at h;exact h
  obtain ⟨p1,p2⟩:=ha.put g c
  rw [e]
  refine ⟨fun z _=>p1 z,fun _ z=>absurd z (by omega),fun z => ?_⟩
  cases own
  ·exact p2 rfl z
  ·rw [p1 rfl];exact z
 ·by_cases c2:n < (ah f).length+10
  ·have hb:=h.bh g (by omega) c2
   have e:nb f n=aX (n - (ah f).length):=by unfold nb;rw [if_neg c,if_pos c2]
   have hp:=hb.put g
   rw [e]
   unfold aX
   refine ⟨fun _ z=>absurd z c,fun z _ w => ?_,fun w => ?_⟩
   ·by_cases k1:n - (ah f).length=1
    ·rw [hp,if_pos ⟨k1,z⟩]
    ·rw [if_neg k1] at w;cases w
   ·by_cases k1:n - (ah f).length=1
    ·rw [if_pos k1] at w;cases w
    ·rw [hp,if_neg (fun z=>k1 z.1)]
  ·have e:nb f n=1:=by unfold nb;rw [if_neg c,if_neg c2]
   have hr:Rs1 (n - (ah f).length - 10) d:=by unfold Node1 at h;rw [if_neg (by omega),if_neg c2] at h;exact h
   rw [e]
   exact ⟨fun _ z=>absurd z c,fun _ _ z=>(by cases z),fun _=>hr.put⟩
theorem Node1.hear {f:Fr} {own:Bool} {n:Nat} {d:Nd} (h:Node1 f own n d) (g:cQ f.1 f.2) (hn:n < (ah f).length+13) :
  (n+1 < (ah f).length+13→Node1 f own (n+1) (d.hear (nb f n)))∧(n+1=(ah f).length+13→(d.hear (nb f n)).st = .free)∧(d.hear (nb f n)).fc=d.fc ∧
   (d.hear (nb f n)).qu=(if n+1=(ah f).length+10∧own=true then Nd.dropName f.1 d.qu else d.qu)∧(d.hear (nb f n)).tk=(if n+1=(ah f).length+10∧own=false then d.tk++[f] else d.tk):=by
 by_cases c:n < (ah f).length
 ·have e:nb f n=(ah f).getD n 0:=by unfold nb;rw [if_pos c]
  have ha:At1 f own n d:=by unfold Node1 at h;rw [if_pos (by omega)] at h;exact h
  obtain ⟨a,k⟩:=ha.hear g c
  rw [e]
  refine ⟨fun _ => ?_,fun z=>by omega,k.fc,?_,?_⟩
  ·unfold Node1;rw [if_pos (by omega)];exact a
  ·rw [if_neg (fun z=>by omega)];exact k.qu
  ·rw [if_neg (fun z=>by omega)];exact k.tk
 ·by_cases c2:n < (ah f).length+10
  ·have hb:=h.bh g (by omega) c2
   have e:nb f n=aX (n - (ah f).length):=by unfold nb;rw [if_neg c,if_pos c2]
   obtain ⟨b1,b2⟩:=hb.hear g (by omega)
   rw [e]
   by_cases c3:n - (ah f).length=9
   ·obtain ⟨r,q1,q2,q3⟩:=b2 c3
    refine ⟨fun _ => ?_,fun z=>by omega,q1,?_,?_⟩
    ·unfold Node1
     rw [if_neg (by omega),if_neg (by omega),show n+1 - (ah f).length - 10=0 by omega]
     exact r
    ·rw [q2]
     have c9:n+1=(ah f).length+10:=by omega
     cases own
     ·exact (if_neg (show ¬ (n+1=(ah f).length+10∧false=true) from fun z=>by cases z.2)).symm
     ·exact (if_pos (show n+1=(ah f).length+10∧true=true from ⟨c9,rfl⟩)).symm
    ·rw [q3]
     have c9:n+1=(ah f).length+10:=by omega
     cases own
     ·exact (if_pos (show n+1=(ah f).length+10∧false=false from ⟨c9,rfl⟩)).symm
     ·exact (if_neg (show ¬ (n+1=(ah f).length+10∧true=false) from fun z=>by cases z.2)).symm
   ·obtain ⟨r,k⟩:=b1 (by omega)
    refine ⟨fun _ => ?_,fun z=>by omega,k.fc,?_,?_⟩
    ·unfold Node1
     rw [if_neg (by omega),if_pos (by omega),show n+1 - (ah f).length=n - (ah f).length+1 by omega]
     exact r
    ·rw [if_neg (fun z=>by omega)];exact k.qu
    ·rw [if_neg (fun z=>by omega)];exact k.tk
  ·have e:nb f n=1:=by unfold nb;rw [if_neg c,if_neg c2]
   have hr:Rs1 (n - (ah f).length - 10) d:=by unfold Node1 at h;rw [if_neg (by omega),if_neg c2] at h;exact h
   obtain ⟨r1,r2,k⟩:=hr.hear (by omega)
   rw [e]
   refine ⟨fun z => ?_,fun z=>r2 (by omega),k.fc,?_,?_⟩
   ·unfold Node1
    rw [if_neg (by omega),if_neg (by omega),show n+1 - (ah f).length - 10=n - (ah f).length - 10+1 by omega]
    exact r1 (by omega)
   ·rw [if_neg (fun z=>by omega)];exact k.qu
   ·rw [if_neg (fun z=>by omega)];exact k.tk
inductive Ph where
 | free
 | busy (w:Nat) (f:Fr) (n:Nat)
def Rel:Ph→List Nd→Prop
 | .free,ds=>∀ d∈ds,d.st = .free
 | .busy w f n,ds=>cQ f.1 f.2∧w < ds.length∧n < (ah f).length+13∧∀ (i:Nat) d,ds[i]? = some d→Node1 f (decide (i=w)) n d
theorem nK {ds:List Nd} {b:Int} (hb:Bit b) (h0:b=0→∃ d∈ds,d.put=0) (h1:b=1→∀ d∈ds,d.put=1):dY ds=b:=by
 unfold dY
 rcases hb with e | e
 ·obtain ⟨d,hd,hp⟩:=h0 e
  rw [if_pos (List.mem_map.mpr ⟨d,hd,hp⟩),e]
 ·rw [if_neg,e]
  intro z
  obtain ⟨d,hd,hp⟩:=List.mem_map.mp z
  rw [h1 e d hd] at hp
  cases hp
theorem qk {d:Nd} (h:d.st ≠ .free):d.begin=d:=by unfold Nd.begin;rw [if_neg h]
theorem i9 (ds:List Nd):bj ds 0=dY (ds.map Nd.begin):=by unfold bj;rw [if_neg (by decide)]
theorem sY {w n:Nat} {f:Fr} {ds:List Nd} (h:Rel (.busy w f n) ds) (h2:2≤ds.length) :
  (n+1 < (ah f).length+13→Rel (.busy w f (n+1)) (aM ds 0))∧(n+1=(ah f).length+13→Rel .free (aM ds 0)) ∧
   ∀ (i:Nat) d,ds[i]? = some d→∃ e,(aM ds 0)[i]? = some e∧e.fc=d.fc∧e.qu=(if n+1=(ah f).length+10∧i=w then Nd.dropName f.1 d.qu else d.qu)∧e.tk=(if n+1=(ah f).length+10∧i≠w then d.tk++[f] else d.tk):=by
 obtain ⟨g,hw,hn,hall⟩:=h
 have hbeg:ds.map Nd.begin=ds:=by
  apply List.ext_getElem?
  intro i
  rw [List.getElem?_map]
  cases e:ds[i]? with
  | none=>rfl
  | some d=>exact congrArg some (qk (hall i d e).st)
 have hbit:bj ds 0=nb f n:=by
  rw [i9,hbeg]
  refine nK (zu f n) (fun z => ?_) (fun z d hd => ?_)
  ·by_cases c:n < (ah f).length
   ·have e:=List.getElem?_eq_getElem hw
    refine ⟨_,List.getElem_mem hw,?_⟩
    rw [((hall w _ e).put g).1 (decide_eq_true rfl) c]
    exact z
   ·obtain ⟨i,hi,hne⟩:∃ i,i < ds.length∧i≠w:=by
     by_cases c0:w=0
     ·exact ⟨1,by omega,by omega⟩
     ·exact ⟨0,by omega,by omega⟩
    exact ⟨_,List.getElem_mem hi,((hall i _ (List.getElem?_eq_getElem hi)).put g).2.1 (decide_eq_false hne) (by omega) z⟩
  ·obtain ⟨i,e⟩:=List.mem_iff_getElem?.mp hd
   exact ((hall i d e).put g).2.2 z
 have hget:∀ (i:Nat),(aM ds 0)[i]? = (ds[i]?).map fun d=>d.hear (nb f n):=fun i=>by
  unfold aM
  rw [hbit,hbeg,List.getElem?_map]
 refine ⟨fun z=>⟨g,by rw [br];exact hw,z,fun i d e => ?_⟩,fun z d hd => ?_,fun i d e => ?_⟩
 ·rw [hget] at e
  obtain ⟨d0,e0,rfl⟩:=Option.map_eq_some_iff.mp e
  exact ((hall i d0 e0).hear g hn).1 z
 ·obtain ⟨i,e⟩:=List.mem_iff_getElem?.mp hd
  rw [hget] at e
  obtain ⟨d0,e0,rfl⟩:=Option.map_eq_some_iff.mp e
  exact ((hall i d0 e0).hear g hn).2.1 z
 ·obtain ⟨_,_,q1,q2,q3⟩:=(hall i d e).hear g hn
  refine ⟨_,by rw [hget,e];rfl,q1,?_,?_⟩
  ·rw [q2]
   by_cases c:i=w
   ·rw [decide_eq_true c]
    by_cases c2:n+1=(ah f).length+10
    ·rw [if_pos ⟨c2,rfl⟩,if_pos ⟨c2,c⟩]
    ·rw [if_neg (fun z=>c2 z.1),if_neg (fun z=>c2 z.1)]
   ·rw [decide_eq_false c,if_neg (fun z=>by cases z.2),if_neg (fun z=>c z.2)]
  ·rw [q3]
   by_cases c:i=w
   ·rw [decide_eq_true c,if_neg (fun z=>by cases z.2),if_neg (fun z=>z.2 c)]
   ·rw [decide_eq_false c]
    by_cases c2:n+1=(ah f).length+10
    ·rw [if_pos ⟨c2,rfl⟩,if_pos ⟨c2,c⟩]
    ·rw [if_neg (fun z=>c2 z.1),if_neg (fun z=>c2 z.1)]
theorem tf {ds:List Nd} (h:Rel .free ds) (hq:∀ d∈ds,d.qu=[]):aM ds 0=ds:=by
 have hb:∀ d∈ds,d.begin=d:=fun d hd=>by
  unfold Nd.begin
  rw [if_pos (h d hd),hq d hd]
 have hbeg:ds.map Nd.begin=ds:=by
  conv=>rhs;rw [← List.map_id ds]
  exact List.map_congr_left fun d hd=>hb d hd
 have hbit:bj ds 0=1:=by
  rw [i9,hbeg]
  exact nK (.inr rfl) (fun z=>by cases z) (fun _ d hd=>u5 (h d hd))
 unfold aM
 rw [hbit,hbeg]
 conv=>rhs;rw [← List.map_id ds]
 exact List.map_congr_left fun d hd=>u6 (h d hd)
theorem qm {ds:List Nd} {w:Nat} {d0:Nd} {f:Fr} {r:List Fr} (h:Rel .free ds) (ok:AllOk ds) (e0:ds[w]? = some d0) (q0:d0.qu=f :: r) (least:∀ (i:Nat) d g t,ds[i]? = some d→d.qu=g :: t→i≠w→f.1 < g.1) :
  Rel (.busy w f 1) (aM ds 0)∧∀ (i:Nat) d,ds[i]? = some d→∃ e,(aM ds 0)[i]? = some e∧Kept d e:=by
 have hw:=(List.getElem?_eq_some_iff.mp e0).1
 have good:∀ {i:Nat} {d:Nd} {g:Fr} {t:List Fr},ds[i]? = some d→d.qu=g :: t→cQ g.1 g.2:=fun e q=>(ok _ (List.mem_of_getElem? e)).qu _ (by rw [q];exact List.mem_cons_self)
 have g:=good e0 q0
 have hL:=pA g
 have z0:=qi g
 have bf:∀ {d:Nd} {k:Fr} {t:List Fr},d∈ds→d.qu=k :: t→d.begin=d.enter (some (ah k)):=fun hd q=>by
  unfold Nd.begin
  rw [if_pos (h _ hd),q]
 have be:∀ {d:Nd},d∈ds→d.qu=[]→d.begin=d:=fun hd q=>by
  unfold Nd.begin
  rw [if_pos (h _ hd),q]
 have at0:∀ (i:Nat) d,ds[i]? = some d→∃ c:Nd,At1 f (decide (i=w)) 0 c∧d.begin.hear 0=c.hear 0∧Kept d c∧(i=w→d.begin=c):=fun i d e=>by
  have hd:=List.mem_of_getElem? e
  cases q:d.qu with
  | nil=>
   have hne:i≠w:=fun z=>by
    rw [z,e0] at e
    cases e
    rw [q0] at q
    cases q
   refine ⟨d.enter none,?_,?_,⟨rfl,rfl,rfl⟩,fun z=>absurd z hne⟩
   ·rw [decide_eq_false hne];exact qj
   ·rw [be hd q];exact sX (h d hd)
  | cons k t=>
   refine ⟨d.enter (some (ah k)),u7 (fun z => ?_) (fun z => ?_),by rw [bf hd q],⟨rfl,rfl,rfl⟩,fun _=>bf hd q⟩
   ·have z:=of_decide_eq_true z
    rw [z,e0] at e
    cases e
    rw [q0] at q
    exact (List.cons.inj q).1.symm
   ·exact ⟨good e q,least i d k t e q (of_decide_eq_false z)⟩
 have hbit:bj ds 0=0:=by
  rw [i9]
  refine nK (.inl rfl) (fun _ => ?_) (fun z=>by cases z)
  obtain ⟨c,hc,_,_,hcw⟩:=at0 w d0 e0
  refine ⟨d0.begin,List.mem_map.mpr ⟨d0,List.mem_of_getElem? e0,rfl⟩,?_⟩
  rw [hcw rfl,(hc.put g hL).1 (decide_eq_true rfl)]
  exact z0
 have hget:∀ (i:Nat),(aM ds 0)[i]? = (ds[i]?).map fun d=>d.begin.hear 0:=fun i=>by
  unfold aM
  rw [hbit,List.map_map,List.getElem?_map]
  rfl
 refine ⟨⟨g,by rw [br];exact hw,by omega,fun i d e => ?_⟩,fun i d e => ?_⟩
 ·rw [hget] at e
  obtain ⟨d1,e1,rfl⟩:=Option.map_eq_some_iff.mp e
  obtain ⟨c,hc,he,_,_⟩:=at0 i d1 e1
  rw [he]
  have:=(hc.hear g hL).1
  rw [z0] at this
  unfold Node1
  rw [if_pos (by omega)]
  exact this
 ·obtain ⟨c,hc,he,k,_⟩:=at0 i d e
  refine ⟨d.begin.hear 0,by rw [hget,e];rfl,?_⟩
  have:=(hc.hear g hL).2
  rw [z0] at this
  rw [he]
  exact ⟨this.qu.trans k.qu,this.tk.trans k.tk,this.fc.trans k.fc⟩
end BB
namespace BB
structure Snd where
 t:Nat
 at_:Nat
 f:Fr
 k:Nat
def ins (f:Fr) (q:List Fr):List Fr:=q.take (Nd.spot f.1 q)++f :: q.drop (Nd.spot f.1 q)
theorem u8 (d:Nd) (f:Fr):(d.letWait f).qu=ins f d.qu:=rfl
def qOf (a:Nat) (p:List Snd):List Fr:=p.foldl (fun q x=>if x.at_=a then ins x.f q else q) []
theorem vc (a:Nat) (p:List Snd) (x:Snd):qOf a (p++[x])=if x.at_=a then ins x.f (qOf a p) else qOf a p:=by
 unfold qOf
 rw [List.foldl_append]
 rfl
theorem tj (f:Fr):ins f []=[f]:=rfl
theorem cx (f g:Fr) (q:List Fr):ins f (g :: q)=if g.1≤f.1 then g :: ins f q else f :: g :: q:=by
 unfold ins
 show (g :: q).take (if g.1≤f.1 then Nd.spot f.1 q+1 else 0)++f :: (g :: q).drop (if g.1≤f.1 then Nd.spot f.1 q+1 else 0)=_
 split <;> rfl
theorem mem_ins {f g:Fr}:∀ {q:List Fr},g∈ins f q↔g=f∨g∈q
 | []=>by rw [tj];simp
 | h :: q=>by
  rw [cx]
  split
  ·rw [List.mem_cons,mem_ins,List.mem_cons]
   constructor
   ·rintro (a | a | a)
    ·exact .inr (.inl a)
    ·exact .inl a
    ·exact .inr (.inr a)
   ·rintro (a | a | a)
    ·exact .inr (.inl a)
    ·exact .inl a
    ·exact .inr (.inr a)
  ·rw [List.mem_cons]
theorem tq {f:Fr}:∀ {q:List Fr},q.Pairwise (fun a b=>a.1≤b.1)→(ins f q).Pairwise (fun a b=>a.1≤b.1)
 | [],_=>by rw [tj];exact List.pairwise_singleton _ _
 | h :: q,hp=>by
  rw [cx]
  obtain ⟨h1,h2⟩:=List.pairwise_cons.mp hp
  split
  ·rename_i c
   refine List.pairwise_cons.mpr ⟨fun g hg => ?_,tq h2⟩
   rcases mem_ins.mp hg with z | z
   ·rw [z];exact c
   ·exact h1 g z
  ·rename_i c
   refine List.pairwise_cons.mpr ⟨fun g hg => ?_,hp⟩
   rcases List.mem_cons.mp hg with z | z
   ·rw [z];omega
   ·have:=h1 g z;omega
theorem xx (a:Nat) (p:List Snd):(qOf a p).Pairwise (fun a b=>a.1≤b.1):=by
 unfold qOf
 have:∀ (p:List Snd) (q:List Fr),q.Pairwise (fun a b:Fr=>a.1≤b.1)→(p.foldl (fun q x=>if x.at_=a then ins x.f q else q) q).Pairwise (fun a b=>a.1≤b.1):=by
  intro p
  induction p with
  | nil=>intro q h;exact h
  | cons x p ih=>
   intro q h
   rw [List.foldl_cons]
   apply ih
   split
   ·exact tq h
   ·exact h
 exact this p [] List.Pairwise.nil
theorem kO {a:Nat} {g:Fr} (p:List Snd):g∈qOf a p↔∃ x∈p,x.at_=a∧x.f=g:=by
 unfold qOf
 have:∀ (p:List Snd) (q:List Fr),g∈p.foldl (fun q x=>if x.at_=a then ins x.f q else q) q↔g∈q∨∃ x∈p,x.at_=a∧x.f=g:=by
  intro p
  induction p with
  | nil=>intro q;simp
  | cons x p ih=>
   intro q
   rw [List.foldl_cons,ih]
   constructor
   ·rintro (h | ⟨y,hy,e⟩)
    ·split at h
     ·rename_i c
      rcases mem_ins.mp h with z | z
      ·exact .inr ⟨x,List.mem_cons_self,c,z.symm⟩
      ·exact .inl z
     ·exact .inl h
    ·exact .inr ⟨y,List.mem_cons_of_mem _ hy,e⟩
   ·rintro (h | ⟨y,hy,e1,e2⟩)
    ·left
     split
     ·exact mem_ins.mpr (.inr h)
     ·exact h
    ·rcases List.mem_cons.mp hy with z | z
     ·left
      subst z
      rw [if_pos e1]
      exact mem_ins.mpr (.inl e2.symm)
     ·exact .inr ⟨y,z,e1,e2⟩
 rw [this p []]
 simp
def With (f:Fr) (q q':List Fr):Prop:=∃ u v,q=u++v∧q'=u++f :: v∧(∀ g∈u,g.1 < f.1)∧(∀ g∈v,f.1≤g.1)
theorem hJ {y:Fr}:∀ {u v:List Fr},(∀ g∈v,y.1 < g.1)→ins y (u++v)=ins y u++v
 | [],[],_=>rfl
 | [],g :: v,h=>by
  rw [List.nil_append,cx,if_neg (by have:=h g List.mem_cons_self;omega)]
  rfl
 | g :: u,v,h=>by
  rw [List.cons_append,cx,cx]
  split
  ·rw [hJ h];rfl
  ·rfl
theorem hU {y:Fr}:∀ {u v:List Fr},(∀ g∈u,g.1≤y.1)→ins y (u++v)=u++ins y v
 | [],_,_=>rfl
 | g :: u,v,h=>by
  rw [List.cons_append,cx,if_pos (h g List.mem_cons_self),hU fun k hk=>h k (List.mem_cons_of_mem _ hk)]
  rfl
theorem With.ins {f y:Fr} {q q':List Fr} (h:With f q q'):With f (ins y q) (ins y q'):=by
 obtain ⟨u,v,rfl,rfl,hu,hv⟩:=h
 by_cases c:y.1 < f.1
 ·refine ⟨BB.ins y u,v,hJ fun g hg => ?_,hJ fun g hg => ?_,fun g hg => ?_,hv⟩
  ·have:=hv g hg;omega
  ·rcases List.mem_cons.mp hg with z | z
   ·rw [z];exact c
   ·have:=hv g z;omega
  ·rcases mem_ins.mp hg with z | z
   ·rw [z];exact c
   ·exact hu g z
 ·refine ⟨u,BB.ins y v,hU fun g hg => ?_,?_,hu,fun g hg => ?_⟩
  ·have:=hu g hg;omega
  ·rw [hU fun g hg=>by have:=hu g hg;omega,cx,if_pos (by omega)]
  ·rcases mem_ins.mp hg with z | z
   ·rw [z];omega
   ·exact hv g z
theorem With.drop {f:Fr} {q q':List Fr} (h:With f q q'):Nd.dropName f.1 q'=q:=by
 obtain ⟨u,v,rfl,rfl,hu,hv⟩:=h
 unfold Nd.dropName
 have e:((u++f :: v).map (·.1)).idxOf f.1=u.length:=by
  have hm:f.1∉u.map (·.1):=fun z=>by
   obtain ⟨g,hg,e⟩:=List.mem_map.mp z
   have:=hu g hg
   omega
  rw [List.map_append,List.idxOf_append,if_neg hm,List.map_cons,List.idxOf_cons_self,List.length_map]
  omega
 rw [e,List.eraseIdx_append_of_length_le (Nat.le_refl _),Nat.sub_self]
 rfl
theorem vd {f:Fr} {q:List Fr} (ho:q.Pairwise (fun a b=>a.1≤b.1)) (hn:∀ g∈q,g.1≠f.1):With f q (ins f q):=by
 induction q with
 | nil=>exact ⟨[],[],rfl,rfl,fun g hg=>(by cases hg),fun g hg=>(by cases hg)⟩
 | cons h q ih=>
  obtain ⟨h1,h2⟩:=List.pairwise_cons.mp ho
  rw [cx]
  by_cases c:h.1≤f.1
  ·rw [if_pos c]
   obtain ⟨u,v,e1,e2,hu,hv⟩:=ih h2 fun g hg=>hn g (List.mem_cons_of_mem _ hg)
   refine ⟨h :: u,v,by rw [List.cons_append,← e1],by rw [List.cons_append,← e2],fun g hg => ?_,hv⟩
   rcases List.mem_cons.mp hg with z | z
   ·rw [z]
    have:=hn h List.mem_cons_self
    omega
   ·exact hu g z
  ·rw [if_neg c]
   refine ⟨[],h :: q,rfl,rfl,fun g hg=>(by cases hg),fun g hg => ?_⟩
   rcases List.mem_cons.mp hg with z | z
   ·rw [z];omega
   ·have:=h1 g z;omega
theorem kP (a:Nat) (p r:List Snd):qOf a (p++r)=r.foldl (fun q x=>if x.at_=a then ins x.f q else q) (qOf a p):=by
 unfold qOf
 rw [List.foldl_append]
theorem pB {l r:List Snd} {x:Snd} (h:∀ y∈l,y.at_=x.at_→y.f.1≠x.f.1):With x.f (qOf x.at_ (l++r)) (qOf x.at_ (l++x :: r)):=by
 have key:∀ (r:List Snd) (q q':List Fr),With x.f q q'→With x.f (r.foldl (fun q y=>if y.at_=x.at_ then ins y.f q else q) q) (r.foldl (fun q y=>if y.at_=x.at_ then ins y.f q else q) q'):=by
  intro r
  induction r with
  | nil=>intro q q' w;exact w
  | cons y r ih=>
   intro q q' w
   rw [List.foldl_cons,List.foldl_cons]
   apply ih
   split
   ·exact w.ins
   ·exact w
 rw [kP,kP,List.foldl_cons,if_pos rfl]
 refine key r _ _ (vd (xx _ l) fun g hg => ?_)
 obtain ⟨y,hy,e1,e2⟩:=(kO l).mp hg
 rw [← e2]
 exact h y hy e1
theorem xy {l r:List Snd} {x:Snd} (h:∀ y∈l,y.at_=x.at_→y.f.1≠x.f.1) (a:Nat):qOf a (l++r)=if x.at_=a then Nd.dropName x.f.1 (qOf a (l++x :: r)) else qOf a (l++x :: r):=by
 by_cases c:x.at_=a
 ·subst c
  rw [if_pos rfl]
  exact (pB h).drop.symm
 ·rw [if_neg c,kP,kP,List.foldl_cons,if_neg c]
end BB
namespace BB
def bG:List Snd→Option Snd
 | []=>none
 | x :: r=>match bG r with
  | none=>some x
  | some y=>if x.f.1≤y.f.1 then some x else some y
theorem hV:∀ {p:List Snd},bG p=none→p=[]
 | [],_=>rfl
 | x :: r,h=>by
  unfold bG at h
  split at h
  ·cases h
  ·split at h <;> cases h
theorem bJ:∀ {p:List Snd} {x:Snd},bG p=some x→∃ l r,p=l++x :: r∧(∀ y∈l,x.f.1 < y.f.1)∧(∀ y∈r,x.f.1≤y.f.1)
 | [],_,h=>by cases h
 | z :: p,x,h=>by
  unfold bG at h
  cases e:bG p with
  | none=>
   rw [e] at h
   cases h
   rw [hV e]
   exact ⟨[],[],rfl,fun y hy=>(by cases hy),fun y hy=>(by cases hy)⟩
  | some y=>
   rw [e] at h
   obtain ⟨l,r,ep,hl,hr⟩:=bJ e
   have h:(if z.f.1≤y.f.1 then some z else some y)=some x:=h
   by_cases c:z.f.1≤y.f.1
   ·rw [if_pos c] at h
    cases h
    refine ⟨[],p,rfl,fun y hy=>(by cases hy),fun k hk => ?_⟩
    rw [ep] at hk
    rcases List.mem_append.mp hk with a | a
    ·have:=hl k a;omega
    ·rcases List.mem_cons.mp a with b | b
     ·rw [b];exact c
     ·have:=hr k b;omega
   ·rw [if_neg c] at h
    cases h
    refine ⟨z :: l,r,by rw [ep];rfl,fun k hk => ?_,hr⟩
    rcases List.mem_cons.mp hk with a | a
    ·rw [a];omega
    ·exact hl k a
abbrev fl (f:Fr):Nat:=(ah f).length
structure Mc where
 cur:Option (Snd×Nat)
 pend:List Snd
 done:List (Nat×Snd)
def Mc.new:Mc:=⟨none,[],[]⟩
def Mc.send (m:Mc) (x:Snd):Mc:={m with pend:=m.pend++[x]}
def Mc.bit (t:Nat) (m:Mc):Mc:=match m.cur with
 | none=>(match bG m.pend with
  | none=>m
  | some x=>{m with cur:=some (x,1)})
 | some (x,n)=>⟨if n+1=fl x.f+13 then none else some (x,n+1),if n+1=fl x.f+10 then m.pend.eraseP (fun y=>decide (y.k=x.k)) else m.pend,if n+1=fl x.f+10 then m.done++[(t+1,x)] else m.done⟩
def Mc.ph (m:Mc):Ph:=match m.cur with
 | none => .free
 | some (x,n) => .busy x.at_ x.f n
structure BM (ds:List Nd) (m:Mc):Prop where
 ph:Rel m.ph ds
 qu:∀ (i:Nat) d,ds[i]? = some d→d.qu=qOf i m.pend
 tk:∀ (i:Nat) d,ds[i]? = some d→d.tk=(m.done.filter fun e=>decide (e.2.at_≠i)).map (·.2.f)
 fc:∀ d∈ds,d.fc=0
 names:∀ x∈m.pend,∀ y∈m.pend,x.f.1=y.f.1→x.at_=y.at_
 at_:∀ x∈m.pend,x.at_ < ds.length
 ks:m.pend.Pairwise (fun a b=>a.k < b.k)
 cu:∀ x n,m.cur=some (x,n)→n < fl x.f+10→∃ l r,m.pend=l++x :: r∧∀ y∈l,y.f.1≠x.f.1
theorem nL {l r:List Snd} {x:Snd} (h:(l++x :: r).Pairwise (fun a b=>a.k < b.k)):(l++x :: r).eraseP (fun y=>decide (y.k=x.k))=l++r:=by
 obtain ⟨_,_,h3⟩:=List.pairwise_append.mp h
 rw [List.eraseP_append_right _ (fun y hy=>by
  have:=h3 y hy x List.mem_cons_self
  simp only [decide_eq_true_eq]
  omega),List.eraseP_cons_of_pos (by simp)]
theorem BM.send {ds:List Nd} {m:Mc} {x:Snd} {d:Nd} (h:BM ds m) (e:ds[x.at_]? = some d) (hn:∀ y∈m.pend,y.f.1=x.f.1→y.at_=x.at_) (hk:∀ y∈m.pend,y.k < x.k):BM (ds.set x.at_ (d.letWait x.f)) (m.send x):=by
 have hi:=(List.getElem?_eq_some_iff.mp e).1
 have get:∀ (i:Nat) (c:Nd),(ds.set x.at_ (d.letWait x.f))[i]? = some c→(i=x.at_∧c=d.letWait x.f)∨(i≠x.at_∧ds[i]? = some c):=fun i c he=>by
  by_cases z:x.at_=i
  ·subst z
   rw [List.getElem?_set_self hi] at he
   cases he
   exact .inl ⟨rfl,rfl⟩
  ·rw [List.getElem?_set_ne z] at he
   exact .inr ⟨fun y=>z y.symm,he⟩
 have nd1:∀ {f:Fr} {own:Bool} {n:Nat},Node1 f own n d→Node1 f own n (d.letWait x.f):=fun {f own n} z=>by
  unfold Node1 at z ⊢
  split
  ·rename_i c
   rw [if_pos c] at z
   exact ⟨z.st,z.ws,z.rd,z.ps,z.mine,z.other⟩
  ·rename_i c
   rw [if_neg c] at z
   split
   ·rename_i c2
    rw [if_pos c2] at z
    exact ⟨z.st,z.ws,z.pl,z.ps,z.sn⟩
   ·rename_i c2
    rw [if_neg c2] at z
    exact ⟨z.st,z.ps⟩
 refine ⟨?_,fun i c he => ?_,fun i c he => ?_,fun c hc => ?_,fun a ha b hb => ?_,fun a ha => ?_,?_,fun a n hc hlt => ?_⟩
 ·have hp:=h.ph
  show Rel m.ph _
  revert hp
  cases m.ph with
  | free=>
   intro hp c hc
   rcases List.mem_or_eq_of_mem_set hc with z | z
   ·exact hp c z
   ·rw [z];exact hp d (List.mem_of_getElem? e)
  | busy w f n=>
   rintro ⟨g,hw,hn,hall⟩
   refine ⟨g,by rw [List.length_set];exact hw,hn,fun i c he => ?_⟩
   rcases get i c he with ⟨rfl,rfl⟩ | ⟨_,z⟩
   ·exact nd1 (hall _ d e)
   ·exact hall i c z
 ·show c.qu=qOf i (m.pend++[x])
  rw [vc]
  rcases get i c he with ⟨rfl,rfl⟩ | ⟨z1,z⟩
  ·rw [if_pos rfl,u8,h.qu _ d e]
  ·rw [if_neg (fun y=>z1 y.symm)];exact h.qu i c z
 ·rcases get i c he with ⟨rfl,rfl⟩ | ⟨_,z⟩
  ·exact h.tk _ d e
  ·exact h.tk i c z
 ·rcases List.mem_or_eq_of_mem_set hc with z | z
  ·exact h.fc c z
  ·rw [z];exact h.fc d (List.mem_of_getElem? e)
 ·rcases List.mem_append.mp ha with z | z <;> rcases List.mem_append.mp hb with y | y
  ·exact h.names a z b y
  ·rw [List.mem_singleton.mp y];exact hn a z
  ·rw [List.mem_singleton.mp z];exact fun w=>(hn b y w.symm).symm
  ·rw [List.mem_singleton.mp y,List.mem_singleton.mp z];exact fun _=>rfl
 ·rw [List.length_set]
  rcases List.mem_append.mp ha with z | z
  ·exact h.at_ a z
  ·rw [List.mem_singleton.mp z];exact hi
 ·refine List.pairwise_append.mpr ⟨h.ks,List.pairwise_singleton _ _,fun a ha b hb => ?_⟩
  rw [List.mem_singleton.mp hb]
  exact hk a ha
 ·obtain ⟨l,r,e1,e2⟩:=h.cu a n hc hlt
  exact ⟨l,r++[x],by show m.pend++[x]=_;rw [e1];simp,e2⟩
end BB
namespace BB
theorem BM.head {ds:List Nd} {m:Mc} {x:Snd} (h:BM ds m) (hx:bG m.pend=some x) :
  (∃ r,qOf x.at_ m.pend=x.f :: r)∧∀ (a:Nat) g t,qOf a m.pend=g :: t→a≠x.at_→x.f.1 < g.1:=by
 obtain ⟨l,r,ep,hl,hr⟩:=bJ hx
 have all:∀ y∈m.pend,x.f.1≤y.f.1:=fun y hy=>by
  rw [ep] at hy
  rcases List.mem_append.mp hy with z | z
  ·have:=hl y z;omega
  ·rcases List.mem_cons.mp z with w | w
   ·rw [w];exact Int.le_refl _
   ·exact hr y w
 have hm:x∈m.pend:=by rw [ep];simp
 refine ⟨?_,fun a g t e hne => ?_⟩
 ·have w:=pB (l:=l) (r:=r) (x:=x) fun y hy _=>by have:=hl y hy;omega
  rw [← ep] at w
  obtain ⟨u,v,_,e2,hu,_⟩:=w
  cases u with
  | nil=>exact ⟨v,e2⟩
  | cons g u=>
   exfalso
   have hg:g∈qOf x.at_ m.pend:=by rw [e2];simp
   obtain ⟨y,hy,_,e3⟩:=(kO _).mp hg
   have:=all y hy
   have:=hu g List.mem_cons_self
   rw [← e3] at this
   omega
 ·have hg:g∈qOf a m.pend:=by rw [e];simp
  obtain ⟨y,hy,e1,e3⟩:=(kO _).mp hg
  have h1:=all y hy
  have h2:x.f.1≠y.f.1:=fun z=>hne (by rw [← e1];exact (h.names x hm y hy z).symm)
  rw [← e3]
  omega
theorem BM.bit {ds:List Nd} {m:Mc} {t:Nat} (h:BM ds m) (ok:AllOk ds) (h2:2≤ds.length):BM (aM ds 0) (m.bit t):=by
 have hp:=h.ph
 cases hc:m.cur with
 | none=>
  have ph:m.ph = .free:=by unfold Mc.ph;rw [hc]
  rw [ph] at hp
  cases hl:bG m.pend with
  | none=>
   have e:m.bit t=m:=by unfold Mc.bit;rw [hc];dsimp only;rw [hl]
   have hq:∀ d∈ds,d.qu=[]:=fun d hd=>by
    obtain ⟨i,ei⟩:=List.mem_iff_getElem?.mp hd
    rw [h.qu i d ei,hV hl]
    rfl
   rw [e,tf hp hq]
   exact h
  | some x=>
   have e:m.bit t={m with cur:=some (x,1)}:=by unfold Mc.bit;rw [hc];dsimp only;rw [hl]
   obtain ⟨⟨r,hr⟩,hd⟩:=h.head hl
   obtain ⟨l,r2,ep,hl1,_⟩:=bJ hl
   have hm:x∈m.pend:=by rw [ep];simp
   have hi:=h.at_ x hm
   have e0:=List.getElem?_eq_getElem hi
   obtain ⟨s1,s2⟩:=qm hp ok e0 ((h.qu _ _ e0).trans hr) fun i d g t ei q hne=>hd i g t ((h.qu i d ei).symm.trans q) hne
   have back:∀ (i:Nat) c,(aM ds 0)[i]? = some c→∃ d,ds[i]? = some d∧Kept d c:=fun i c ec=>by
    have hlt:=(List.getElem?_eq_some_iff.mp ec).1
    rw [br] at hlt
    obtain ⟨c2,e2,k⟩:=s2 i _ (List.getElem?_eq_getElem hlt)
    rw [ec] at e2
    cases e2
    exact ⟨_,List.getElem?_eq_getElem hlt,k⟩
   rw [e]
   refine ⟨s1,fun i c ec => ?_,fun i c ec => ?_,fun c hcm => ?_,h.names,fun y hy=>by rw [br];exact h.at_ y hy,h.ks,fun y n hy hlt => ?_⟩
   ·obtain ⟨d,ed,k⟩:=back i c ec
    rw [k.qu];exact h.qu i d ed
   ·obtain ⟨d,ed,k⟩:=back i c ec
    rw [k.tk];exact h.tk i d ed
   ·obtain ⟨i,ec⟩:=List.mem_iff_getElem?.mp hcm
    obtain ⟨d,ed,k⟩:=back i c ec
    rw [k.fc];exact h.fc d (List.mem_of_getElem? ed)
   ·cases hy
    exact ⟨l,r2,ep,fun z hz=>by have:=hl1 z hz;omega⟩
 | some xn=>
  obtain ⟨x,n⟩:=xn
  have ph:m.ph = .busy x.at_ x.f n:=by unfold Mc.ph;rw [hc]
  rw [ph] at hp
  have e:m.bit t=⟨if n+1=fl x.f+13 then none else some (x,n+1),if n+1=fl x.f+10 then m.pend.eraseP (fun y=>decide (y.k=x.k)) else m.pend,if n+1=fl x.f+10 then m.done++[(t+1,x)] else m.done⟩:=by unfold Mc.bit;rw [hc]
  have hn13:n < fl x.f+13:=hp.2.2.1
  obtain ⟨b1,b2,b3⟩:=sY hp h2
  have back:∀ (i:Nat) c,(aM ds 0)[i]? = some c→∃ d,ds[i]? = some d∧c.fc=d.fc∧c.qu=(if n+1=fl x.f+10∧i=x.at_ then Nd.dropName x.f.1 d.qu else d.qu)∧c.tk=(if n+1=fl x.f+10∧i≠x.at_ then d.tk++[x.f] else d.tk):=fun i c ec=>by
   have hlt:=(List.getElem?_eq_some_iff.mp ec).1
   rw [br] at hlt
   obtain ⟨c2,e2,k⟩:=b3 i _ (List.getElem?_eq_getElem hlt)
   rw [ec] at e2
   cases e2
   exact ⟨_,List.getElem?_eq_getElem hlt,k⟩
  have hph:Rel (m.bit t).ph (aM ds 0):=by
   unfold Mc.ph
   rw [e]
   by_cases c:n+1=fl x.f+13
   ·rw [if_pos c];exact b2 c
   ·rw [if_neg c];exact b1 (show n+1 < fl x.f+13 by omega)
  have fcs:∀ c∈aM ds 0,c.fc=0:=fun c hcm=>by
   obtain ⟨i,ec⟩:=List.mem_iff_getElem?.mp hcm
   obtain ⟨d,ed,k,_⟩:=back i c ec
   rw [k];exact h.fc d (List.mem_of_getElem? ed)
  by_cases c10:n+1=fl x.f+10
  ·obtain ⟨l,r,ep,hl⟩:=h.cu x n hc (by omega)
   have ks:=h.ks
   have er:m.pend.eraseP (fun y=>decide (y.k=x.k))=l++r:=by rw [ep] at ks ⊢;exact nL ks
   have e':m.bit t=⟨some (x,n+1),l++r,m.done++[(t+1,x)]⟩:=by rw [e,if_neg (by omega),if_pos c10,if_pos c10,er]
   have sub:∀ y∈l++r,y∈m.pend:=fun y hy=>by
    rw [ep]
    rcases List.mem_append.mp hy with z | z
    ·exact List.mem_append.mpr (.inl z)
    ·exact List.mem_append.mpr (.inr (List.mem_cons_of_mem _ z))
   rw [e'] at hph ⊢
   refine ⟨hph,fun i c ec => ?_,fun i c ec => ?_,fcs,fun a ha b hb=>h.names a (sub a ha) b (sub b hb),fun y hy=>by rw [br];exact h.at_ y (sub y hy),?_,fun y k hy hlt => ?_⟩
   ·obtain ⟨d,ed,_,q,_⟩:=back i c ec
    show c.qu=qOf i (l++r)
    have qo:=xy (l:=l) (r:=r) (x:=x) (fun y hy _=>hl y hy) i
    rw [q,h.qu i d ed,ep,qo]
    by_cases z:i=x.at_
    ·rw [if_pos ⟨c10,z⟩,if_pos z.symm]
    ·rw [if_neg (fun y=>z y.2),if_neg (fun y=>z y.symm)]
   ·obtain ⟨d,ed,_,_,q⟩:=back i c ec
    show c.tk=((m.done++[(t+1,x)]).filter fun e=>decide (e.2.at_≠i)).map (·.2.f)
    rw [q,h.tk i d ed,List.filter_append,List.map_append]
    by_cases z:i=x.at_
    ·rw [if_neg (fun y=>y.2 z),List.filter_cons_of_neg (by simp [z])]
     simp
    ·rw [if_pos ⟨c10,z⟩,List.filter_cons_of_pos (by simpa using fun y=>z y.symm)]
     rfl
   ·rw [ep] at ks
    exact List.Pairwise.sublist (List.Sublist.append (List.Sublist.refl l) (List.sublist_cons_self x r)) ks
   ·have hy:some (x,n+1)=some (y,k):=hy
    cases hy
    omega
  ·have e':m.bit t=⟨if n+1=fl x.f+13 then none else some (x,n+1),m.pend,m.done⟩:=by rw [e,if_neg c10,if_neg c10]
   rw [e'] at hph ⊢
   refine ⟨hph,fun i c ec => ?_,fun i c ec => ?_,fcs,h.names,fun y hy=>by rw [br];exact h.at_ y hy,h.ks,fun y k hy hlt => ?_⟩
   ·obtain ⟨d,ed,_,q,_⟩:=back i c ec
    rw [q,if_neg (fun y=>c10 y.1)];exact h.qu i d ed
   ·obtain ⟨d,ed,_,_,q⟩:=back i c ec
    rw [q,if_neg (fun y=>c10 y.1)];exact h.tk i d ed
   ·have hy:(if n+1=fl x.f+13 then none else some (x,n+1))=some (y,k):=hy
    by_cases z:n+1=fl x.f+13
    ·rw [if_pos z] at hy;cases hy
    ·rw [if_neg z] at hy
     cases hy
     exact h.cu x n hc (by omega)
end BB
namespace BB
def atT (sent:List Snd) (t:Nat) (m:Mc):Mc:={m with pend:=m.pend++sent.filter (fun x=>decide (x.t=t))}
def go (sent:List Snd):Nat→Mc
 | 0=>Mc.new
 | t+1=>(atT sent t (go sent t)).bit t
theorem tu {sent:List Snd} {x:Snd}:∀ {t:Nat},t≤x.t→go (sent++[x]) t=go sent t
 | 0,_=>rfl
 | t+1,h=>by
  unfold go atT
  rw [tu (by omega),List.filter_append,List.filter_cons_of_neg (by simp;omega)]
  simp
theorem vf {sent:List Snd} {x:Snd}:atT (sent++[x]) x.t (go (sent++[x]) x.t)=(atT sent x.t (go sent x.t)).send x:=by
 rw [tu (Nat.le_refl _)]
 unfold atT Mc.send
 rw [List.filter_append,List.filter_cons_of_pos (by simp)]
 simp
theorem vg {sent:List Snd} {t:Nat} (h:∀ x∈sent,x.t < t) (m:Mc):atT sent t m=m:=by
 unfold atT
 rw [List.filter_eq_nil_iff.mpr (fun x hx=>by have:=h x hx;simp;omega),List.append_nil]
def iC (l:List Snd):Prop:=l.Pairwise fun a b=>a.t≤b.t
theorem cI:∀ {l:List Snd} (s:Nat),iC l→l.filter (fun x=>decide (x.t < s+1))=l.filter (fun x=>decide (x.t < s))++l.filter (fun x=>decide (x.t=s))
 | [],_,_=>rfl
 | x :: l,s,h=>by
  obtain ⟨h1,h2⟩:=List.pairwise_cons.mp h
  have ih:=cI s h2
  by_cases c:x.t < s
  ·rw [List.filter_cons_of_pos (by simp;omega),List.filter_cons_of_pos (by simpa using c),List.filter_cons_of_neg (by simp;omega),ih]
   rfl
  ·have no:l.filter (fun x=>decide (x.t < s))=[]:=List.filter_eq_nil_iff.mpr fun y hy=>by have:=h1 y hy;simp;omega
   rw [no,List.nil_append] at ih
   by_cases c2:x.t=s
   ·rw [List.filter_cons_of_pos (by simp;omega),List.filter_cons_of_neg (by simp;omega),List.filter_cons_of_pos (by simpa using c2),no,ih]
    rfl
   ·rw [List.filter_cons_of_neg (by simp;omega),List.filter_cons_of_neg (by simp;omega),List.filter_cons_of_neg (by simpa using c2),no,ih]
    rfl
structure FreeAt (sent left:List Snd) (now:Nat) (found:List (Nat×Snd)):Prop where
 go_:go sent now=⟨none,left.filter (fun x=>decide (x.t < now)),found⟩
 times:iC left
 ks:left.Pairwise fun a b=>a.k < b.k
 rest:∀ s,now≤s→sent.filter (fun x=>decide (x.t=s))=left.filter (fun x=>decide (x.t=s))
theorem FreeAt.idle {sent left:List Snd} {now:Nat} {found:List (Nat×Snd)} (h:FreeAt sent left now found):∀ j,(∀ x∈left,now+j≤x.t)→go sent (now+j)=⟨none,[],found⟩
 | 0,hl=>by
  rw [Nat.add_zero,h.go_,List.filter_eq_nil_iff.mpr fun x hx=>by have:=hl x hx;simp;omega]
 | j+1,hl=>by
  have ih:=h.idle j fun x hx=>by have:=hl x hx;omega
  show (atT sent (now+j) (go sent (now+j))).bit (now+j)=_
  have e:atT sent (now+j) (go sent (now+j))=⟨none,[],found⟩:=by
   rw [ih]
   unfold atT
   rw [h.rest (now+j) (by omega),List.filter_eq_nil_iff.mpr fun x hx=>by have:=hl x hx;simp;omega]
   rfl
  rw [e]
  rfl
theorem FreeAt.wait {sent left:List Snd} {now:Nat} {found:List (Nat×Snd)} (h:FreeAt sent left now found) (j:Nat) (hl:∀ x∈left,now+j≤x.t):FreeAt sent left (now+j) found:=
 ⟨by rw [h.idle j hl,List.filter_eq_nil_iff.mpr fun x hx=>by have:=hl x hx;simp;omega],h.times,h.ks,fun s hs=>h.rest s (by omega)⟩
def out (l:List Snd) (x:Snd):List Snd:=l.eraseP fun y=>decide (y.k=x.k)
theorem cJ {l:List Snd} {x:Snd} (hk:l.Pairwise fun a b=>a.k < b.k) (hx:x∈l):∃ a b,l=a++x :: b∧out l x=a++b:=by
 obtain ⟨a,b,rfl⟩:=List.append_of_mem hx
 exact ⟨a,b,rfl,nL hk⟩
theorem qp {l:List Snd} {x:Snd} {p:Snd→Bool} (hk:l.Pairwise fun a b=>a.k < b.k) (hx:x∈l) (hp:p x=true):out (l.filter p) x=(out l x).filter p:=by
 obtain ⟨a,b,rfl,e⟩:=cJ hk hx
 rw [e,List.filter_append,List.filter_append,List.filter_cons_of_pos hp]
 refine nL ?_
 have:=List.Pairwise.sublist (List.filter_sublist (p:=p)) hk
 rw [List.filter_append,List.filter_cons_of_pos hp] at this
 exact this
theorem me {l:List Snd} {x:Snd} {p:Snd→Bool} (hk:l.Pairwise fun a b=>a.k < b.k) (hx:x∈l) (hp:p x=false):(out l x).filter p=l.filter p:=by
 obtain ⟨a,b,rfl,e⟩:=cJ hk hx
 rw [e,List.filter_append,List.filter_append,List.filter_cons_of_neg (by rw [hp];decide)]
theorem ja (l:List Snd) (x:Snd):(out l x).Sublist l:=List.eraseP_sublist
theorem FreeAt.goes {sent left:List Snd} {now:Nat} {found:List (Nat×Snd)} {x:Snd} (h:FreeAt sent left now found) (hx:bG (left.filter fun y=>decide (y.t≤now))=some x) :
  ∀ j,j < fl x.f+12→go sent (now+(j+1))=⟨some (x,j+1),(if j+1 < fl x.f+10 then left else out left x).filter (fun y=>decide (y.t < now+(j+1))),if j+1 < fl x.f+10 then found else found++[(now+fl x.f+10,x)]⟩:=by
 obtain ⟨l,r,ep,_,_⟩:=bJ hx
 have hm:x∈left.filter fun y=>decide (y.t≤now):=by rw [ep];simp
 obtain ⟨hxl,hxt⟩:=List.mem_filter.mp hm
 have hxt:x.t≤now:=by simpa using hxt
 have tout:iC (out left x):=List.Pairwise.sublist (ja _ _) h.times
 intro j
 induction j with
 | zero=>
  intro _
  have e:atT sent now (go sent now)=⟨none,left.filter (fun y=>decide (y.t < now+1)),found⟩:=by
   rw [h.go_]
   unfold atT
   rw [h.rest now (Nat.le_refl _),cI now h.times]
  show (atT sent now (go sent now)).bit now=_
  rw [e,if_pos (by omega),if_pos (by omega)]
  have e2:left.filter (fun y=>decide (y.t < now+1))=left.filter (fun y=>decide (y.t≤now)):=by
   congr 1
   funext y
   exact decide_eq_decide.mpr (by omega)
  unfold Mc.bit
  dsimp only
  rw [e2,hx]
 | succ j ih=>
  intro hj
  have ih:=ih (by omega)
  have e:atT sent (now+(j+1)) (go sent (now+(j+1)))=⟨some (x,j+1),(if j+1 < fl x.f+10 then left else out left x).filter (fun y=>decide (y.t < now+(j+1)+1)),if j+1 < fl x.f+10 then found else found++[(now+fl x.f+10,x)]⟩:=by
   rw [ih]
   unfold atT
   dsimp only
   rw [h.rest (now+(j+1)) (by omega)]
   by_cases c:j+1 < fl x.f+10
   ·rw [if_pos c,cI _ h.times]
   ·rw [if_neg c,cI _ tout,me (p:=fun y=>decide (y.t=now+(j+1))) h.ks hxl (by simp;omega)]
  show (atT sent (now+(j+1)) (go sent (now+(j+1)))).bit (now+(j+1))=_
  rw [e]
  unfold Mc.bit
  dsimp only
  rw [if_neg (show ¬ (j+1+1=fl x.f+13) by omega)]
  by_cases c:j+1+1 < fl x.f+10
  ·rw [if_pos (show j+1 < fl x.f+10 by omega),if_pos (show j+1 < fl x.f+10 by omega),if_neg (show ¬ (j+1+1=fl x.f+10) by omega),if_neg (show ¬ (j+1+1=fl x.f+10) by omega),if_pos c,if_pos c]
   rfl
  ·by_cases c2:j+1+1=fl x.f+10
   ·rw [if_pos (show j+1 < fl x.f+10 by omega),if_pos (show j+1 < fl x.f+10 by omega),if_pos c2,if_pos c2,if_neg c,if_neg c]
    have o:=qp (p:=fun y=>decide (y.t < now+(j+1)+1)) h.ks hxl (by simp;omega)
    unfold out at o
    rw [o,show now+(j+1)+1=now+fl x.f+10 by omega,show now+(j+1+1)=now+fl x.f+10 by omega]
    rfl
   ·rw [if_neg (show ¬ (j+1 < fl x.f+10) by omega),if_neg (show ¬ (j+1 < fl x.f+10) by omega),if_neg c2,if_neg c2,if_neg c,if_neg c]
    rfl
theorem FreeAt.next {sent left:List Snd} {now:Nat} {found:List (Nat×Snd)} {x:Snd} (h:FreeAt sent left now found) (hx:bG (left.filter fun y=>decide (y.t≤now))=some x) :
  FreeAt sent (out left x) (now+fl x.f+13) (found++[(now+fl x.f+10,x)]):=by
 obtain ⟨l,r,ep,_,_⟩:=bJ hx
 have hm:x∈left.filter fun y=>decide (y.t≤now):=by rw [ep];simp
 obtain ⟨hxl,hxt⟩:=List.mem_filter.mp hm
 have hxt:x.t≤now:=by simpa using hxt
 have tout:iC (out left x):=List.Pairwise.sublist (ja _ _) h.times
 have rest:∀ s,now+1≤s→sent.filter (fun x=>decide (x.t=s))=(out left x).filter (fun x=>decide (x.t=s)):=fun s hs=>by
  rw [h.rest s (by omega),me (p:=fun y=>decide (y.t=s)) h.ks hxl (by simp;omega)]
 refine ⟨?_,tout,List.Pairwise.sublist (ja _ _) h.ks,fun s hs=>rest s (by omega)⟩
 have g:=h.goes hx (fl x.f+11) (by omega)
 rw [if_neg (by omega),if_neg (by omega)] at g
 have e:atT sent (now+(fl x.f+11+1)) (go sent (now+(fl x.f+11+1)))=⟨some (x,fl x.f+11+1),(out left x).filter (fun y=>decide (y.t < now+(fl x.f+11+1)+1)),found++[(now+fl x.f+10,x)]⟩:=by
  rw [g]
  unfold atT
  dsimp only
  rw [rest _ (by omega),cI _ tout]
 have e2:go sent (now+fl x.f+13)=(atT sent (now+(fl x.f+11+1)) (go sent (now+(fl x.f+11+1)))).bit (now+(fl x.f+11+1)):=by
  rw [show now+fl x.f+13=(now+(fl x.f+11+1))+1 by omega]
  rfl
 rw [e2,e]
 unfold Mc.bit
 dsimp only
 rw [if_pos (by omega),if_neg (by omega),if_neg (by omega),show now+(fl x.f+11+1)+1=now+fl x.f+13 by omega]
end BB
namespace BB
structure PlanInv (sent left:List Snd) (now:Nat) (found:List (Nat×Snd)):Prop where
 fr:FreeAt sent left now found
 hist:∀ T,T≤now→(go sent T).done=found.filter (fun e=>decide (e.1≤T))
 past:∀ e∈found,e.1≤now
 todo:∀ T,T≤now→∀ y∈(go sent T).pend,y∈left∨∃ e∈found,e.2=y∧T < e.1
theorem PlanInv.start {sent:List Snd} (ht:iC sent) (hk:sent.Pairwise fun a b=>a.k < b.k):PlanInv sent sent 0 []:=by
 refine ⟨⟨?_,ht,hk,fun _ _=>rfl⟩,fun T hT => ?_,fun e he=>(by cases he),fun T hT y hy => ?_⟩
 ·show Mc.new=_
  rw [List.filter_eq_nil_iff.mpr fun x _=>by simp]
  rfl
 ·obtain rfl:T=0:=by omega
  rfl
 ·obtain rfl:T=0:=by omega
  cases hy
theorem di {found:List (Nat×Snd)} {now T:Nat} (h:∀ e∈found,e.1≤now) (hT:now≤T):found.filter (fun e=>decide (e.1≤T))=found:=
 List.filter_eq_self.mpr fun e he=>by have:=h e he;simp;omega
theorem PlanInv.wait {sent left:List Snd} {now:Nat} {found:List (Nat×Snd)} (h:PlanInv sent left now found) (j:Nat) (hl:∀ x∈left,now+j≤x.t):PlanInv sent left (now+j) found:=by
 have mid:∀ T,now≤T→T≤now+j→go sent T=⟨none,[],found⟩:=fun T h1 h2=>by
  have:=h.fr.idle (T - now) fun x hx=>by have:=hl x hx;omega
  rw [show now+(T - now)=T by omega] at this
  exact this
 refine ⟨h.fr.wait j hl,fun T hT => ?_,fun e he=>by have:=h.past e he;omega,fun T hT y hy => ?_⟩
 ·rcases Nat.le_total T now with c | c
  ·exact h.hist T c
  ·rw [mid T c hT,di h.past c]
 ·rcases Nat.le_total T now with c | c
  ·exact h.todo T c y hy
  ·rw [mid T c hT] at hy
   cases hy
theorem zw {l:List Snd} {x y:Snd} (hk:l.Pairwise fun a b=>a.k < b.k) (hx:x∈l) (hy:y∈l):y∈out l x∨y=x:=by
 obtain ⟨a,b,e1,e2⟩:=cJ hk hx
 rw [e1] at hy
 rw [e2]
 rcases List.mem_append.mp hy with z | z
 ·exact .inl (List.mem_append.mpr (.inl z))
 ·rcases List.mem_cons.mp z with w | w
  ·exact .inr w
  ·exact .inl (List.mem_append.mpr (.inr w))
theorem PlanInv.next {sent left:List Snd} {now:Nat} {found:List (Nat×Snd)} {x:Snd} (h:PlanInv sent left now found) (hx:bG (left.filter fun y=>decide (y.t≤now))=some x) :
  PlanInv sent (out left x) (now+fl x.f+13) (found++[(now+fl x.f+10,x)]):=by
 obtain ⟨l,r,ep,_,_⟩:=bJ hx
 have hm:x∈left.filter fun y=>decide (y.t≤now):=by rw [ep];simp
 have hxl:=(List.mem_filter.mp hm).1
 have nx:=h.fr.next hx
 have mid:∀ T,now < T→T < now+fl x.f+13→go sent T=⟨some (x,T - now),(if T - now < fl x.f+10 then left else out left x).filter (fun y=>decide (y.t < T)),if T - now < fl x.f+10 then found else found++[(now+fl x.f+10,x)]⟩:=fun T h1 h2=>by
  have:=h.fr.goes hx (T - now - 1) (by omega)
  rw [show T - now - 1+1=T - now by omega,show now+(T - now)=T by omega] at this
  exact this
 have fl1:∀ T,T < now+fl x.f+10→(found++[(now+fl x.f+10,x)]).filter (fun e=>decide (e.1≤T))=found.filter (fun e=>decide (e.1≤T)):=fun T hT=>by
  rw [List.filter_append,List.filter_cons_of_neg (by simp;omega)]
  simp
 have past2:∀ e∈found++[(now+fl x.f+10,x)],e.1≤now+fl x.f+10:=fun e he=>by
  rcases List.mem_append.mp he with z | z
  ·have:=h.past e z;omega
  ·rw [List.mem_singleton.mp z];exact Nat.le_refl _
 have later:∀ T y,T < now+fl x.f+10→(y∈left∨∃ e∈found,e.2=y∧T < e.1)→y∈out left x∨∃ e∈found++[(now+fl x.f+10,x)],e.2=y∧T < e.1:=fun T y hT hy=>by
  rcases hy with z | ⟨e,he,e1,e2⟩
  ·rcases zw h.fr.ks hxl z with w | w
   ·exact .inl w
   ·exact .inr ⟨_,List.mem_append.mpr (.inr (List.mem_singleton.mpr rfl)),w.symm,hT⟩
  ·exact .inr ⟨e,List.mem_append.mpr (.inl he),e1,e2⟩
 refine ⟨nx,fun T hT => ?_,fun e he=>by have:=past2 e he;omega,fun T hT y hy => ?_⟩
 ·rcases Nat.le_total T now with c | c
  ·rw [h.hist T c,fl1 T (by omega)]
  ·by_cases c0:T=now
   ·subst c0
    rw [h.hist T (Nat.le_refl _),fl1 T (by omega)]
   ·by_cases c1:T=now+fl x.f+13
    ·rw [c1,nx.go_,di past2 (by omega)]
    ·rw [mid T (by omega) (by omega)]
     by_cases c2:T - now < fl x.f+10
     ·show (if T - now < fl x.f+10 then found else _)=_
      rw [if_pos c2,fl1 T (by omega),di h.past (by omega)]
     ·show (if T - now < fl x.f+10 then found else _)=_
      rw [if_neg c2,di past2 (by omega)]
 ·by_cases c0:T≤now
  ·exact later T y (by omega) (h.todo T c0 y hy)
  ·by_cases c1:T=now+fl x.f+13
   ·rw [c1,nx.go_] at hy
    exact .inl (List.mem_filter.mp hy).1
   ·rw [mid T (by omega) (by omega)] at hy
    have hy:=(List.mem_filter.mp hy).1
    by_cases c2:T - now < fl x.f+10
    ·rw [if_pos c2] at hy
     exact later T y (by omega) (.inl hy)
    ·rw [if_neg c2] at hy
     exact .inl hy
theorem PlanInv.ends {sent:List Snd} {now:Nat} {found:List (Nat×Snd)} (h:PlanInv sent [] now found) (T:Nat) :
  (go sent T).done=found.filter (fun e=>decide (e.1≤T))∧((∀ e∈found,e.1≤T)→(go sent T).pend=[]):=by
 rcases Nat.le_total T now with c | c
 ·refine ⟨h.hist T c,fun hp=>List.eq_nil_iff_forall_not_mem.mpr fun y hy => ?_⟩
  rcases h.todo T c y hy with z | ⟨e,he,_,e2⟩
  ·cases z
  ·have:=hp e he
   omega
 ·have:=h.fr.idle (T - now) fun x hx=>by cases hx
  rw [show now+(T - now)=T by omega] at this
  rw [this]
  exact ⟨(di h.past c).symm,fun _=>rfl⟩
end BB
namespace BB
theorem vh {p:List Snd} {x:Snd} (ht:iC p) (hk:p.Pairwise fun a b=>a.k < b.k) (hx:x∈p) (h:∀ y∈p,x.f.1 < y.f.1∨(x.f.1=y.f.1∧(x.t < y.t∨(x.t=y.t∧x.k≤y.k)))):bG p=some x:=by
 cases e:bG p with
 | none=>rw [hV e] at hx;cases hx
 | some z=>
  obtain ⟨l,r,ep,hl,hr⟩:=bJ e
  have hz:z∈p:=by rw [ep];simp
  have h1:=h z hz
  rw [ep] at hx ht hk
  rcases List.mem_append.mp hx with a | a
  ·have:=hl x a
   omega
  ·rcases List.mem_cons.mp a with b | b
   ·rw [b]
   ·have c:=hr x b
    have t1:=List.rel_of_pairwise_cons (List.pairwise_append.mp ht).2.1 b
    have k1:=List.rel_of_pairwise_cons (List.pairwise_append.mp hk).2.1 b
    omega
theorem zx {l:List Snd} {x:Snd} (hk:l.Pairwise fun a b=>a.k < b.k) (hx:x∈l):l.filter (fun y => !decide (y.k=x.k))=out l x:=by
 obtain ⟨a,b,rfl,e⟩:=cJ hk hx
 obtain ⟨_,h2,h3⟩:=List.pairwise_append.mp hk
 rw [e,List.filter_append,List.filter_cons_of_neg (by simp),List.filter_eq_self.mpr,List.filter_eq_self.mpr]
 ·intro y hy
  have:=List.rel_of_pairwise_cons h2 hy
  simp
  omega
 ·intro y hy
  have:=h3 y hy x List.mem_cons_self
  simp
  omega
theorem xz {l:List Snd} {x:Snd} (hk:l.Pairwise fun a b=>a.k < b.k) (hx:x∈l):l.filter (fun y=>decide (y.k=x.k))=[x]:=by
 obtain ⟨a,b,rfl,e⟩:=cJ hk hx
 obtain ⟨_,h2,h3⟩:=List.pairwise_append.mp hk
 rw [List.filter_append,List.filter_cons_of_pos (by simp),List.filter_eq_nil_iff.mpr,List.filter_eq_nil_iff.mpr]
 ·rfl
 ·intro y hy
  have:=List.rel_of_pairwise_cons h2 hy
  simp
  omega
 ·intro y hy
  have:=h3 y hy x List.mem_cons_self
  simp
  omega
structure BusAtT (ds:List Nd) (sent:List Snd) (t:Nat):Prop where
 bm:BM ds (atT sent t (go sent t))
 ok:AllOk ds
 past:∀ x∈sent,x.t≤t
theorem BusAtT.bit {ds:List Nd} {sent:List Snd} {t:Nat} (h:BusAtT ds sent t) (h2:2≤ds.length):BusAtT (aM ds 0) sent (t+1):=by
 refine ⟨?_,h.ok.step 0,fun x hx=>by have:=h.past x hx;omega⟩
 rw [vg fun x hx=>by have:=h.past x hx;omega]
 exact h.bm.bit h.ok h2
theorem BusAtT.run {sent:List Snd}:∀ (n:Nat) {ds:List Nd} {t:Nat},BusAtT ds sent t→2≤ds.length→BusAtT (cm ds (List.replicate n 0)) sent (t+n)
 | 0,_,_,h,_=>h
 | n+1,ds,t,h,h2=>by
  rw [List.replicate_succ]
  show BusAtT (cm (aM ds 0) (List.replicate n 0)) sent (t+(n+1))
  rw [show t+(n+1)=t+1+n by omega]
  exact BusAtT.run n (h.bit h2) (by rw [br];exact h2)
theorem BusAtT.new (m:Nat):BusAtT (List.replicate m Nd.new) [] 0:=by
 have hr:∀ d∈List.replicate m Nd.new,d=Nd.new:=fun d hd=>List.eq_of_mem_replicate hd
 refine ⟨⟨fun d hd => ?_,fun i d e => ?_,fun i d e => ?_,fun d hd => ?_,fun x hx=>(by cases hx),fun x hx=>(by cases hx),List.Pairwise.nil,fun x n e=>(by cases e)⟩,fun d hd => ?_,fun x hx=>(by cases hx)⟩
 ·rw [hr d hd];rfl
 ·rw [hr d (List.mem_of_getElem? e)];rfl
 ·rw [hr d (List.mem_of_getElem? e)];rfl
 ·rw [hr d hd];rfl
 ·rw [hr d hd];exact NdOk.new
theorem BusAtT.send {ds:List Nd} {sent:List Snd} {x:Snd} {d:Nd} (h:BusAtT ds sent x.t) (e:ds[x.at_]? = some d) (g:cQ x.f.1 x.f.2) (hn:∀ y∈sent,y.f.1=x.f.1→y.at_=x.at_) (hk:∀ y∈sent,y.k < x.k) (hp:∀ y∈(atT sent x.t (go sent x.t)).pend,y∈sent) :
  BusAtT (ds.set x.at_ (d.letWait x.f)) (sent++[x]) x.t:=by
 refine ⟨?_,fun c hc => ?_,fun y hy => ?_⟩
 ·rw [vf]
  exact h.bm.send e (fun y hy=>hn y (hp y hy)) (fun y hy=>hk y (hp y hy))
 ·rcases List.mem_or_eq_of_mem_set hc with z | z
  ·exact h.ok c z
  ·rw [z];exact (h.ok d (List.mem_of_getElem? e)).letWait g
 ·rcases List.mem_append.mp hy with z | z
  ·exact h.past y z
  ·rw [List.mem_singleton.mp z];exact Nat.le_refl _
theorem vi {t:Nat} {m:Mc} {y:Snd} (h:y∈(m.bit t).pend):y∈m.pend:=by
 unfold Mc.bit at h
 split at h
 ·split at h
  ·exact h
  ·exact h
 ·dsimp only at h
  split at h
  ·exact List.mem_of_mem_eraseP h
  ·exact h
theorem tw {sent:List Snd}:∀ {t:Nat} {y:Snd},y∈(go sent t).pend→y∈sent
 | 0,_,h=>by cases h
 | t+1,y,h=>by
  have h:=vi h
  rcases List.mem_append.mp h with z | z
  ·exact tw z
  ·exact (List.mem_filter.mp z).1
theorem tz {sent:List Snd} {t:Nat} {y:Snd} (h:y∈(atT sent t (go sent t)).pend):y∈sent:=by
 rcases List.mem_append.mp h with z | z
 ·exact tw z
 ·exact (List.mem_filter.mp z).1
end BB
namespace BB
theorem tD (f:Fr):∀ q:List Fr,(ins f q).length=q.length+1
 | []=>rfl
 | g :: q=>by
  rw [cx]
  split
  ·rw [List.length_cons,tD f q,List.length_cons]
  ·rfl
theorem xA (a:Nat) (p:List Snd):(qOf a p).length≤p.length:=by
 unfold qOf
 have:∀ (p:List Snd) (q:List Fr),(p.foldl (fun q x=>if x.at_=a then ins x.f q else q) q).length≤q.length+p.length:=by
  intro p
  induction p with
  | nil=>intro q;exact Nat.le_refl _
  | cons x p ih=>
   intro q
   rw [List.foldl_cons,List.length_cons]
   refine Nat.le_trans (ih _) ?_
   split
   ·rw [tD];omega
   ·omega
 have h:=this p []
 rw [List.length_nil] at h
 omega
theorem xB (t:Nat) (m:Mc):(m.bit t).pend.length≤m.pend.length∧(m.bit t).done.length≤m.done.length+1:=by
 unfold Mc.bit
 split
 ·split
  ·exact ⟨Nat.le_refl _,Nat.le_succ _⟩
  ·exact ⟨Nat.le_refl _,Nat.le_succ _⟩
 ·dsimp only
  split
  ·exact ⟨List.length_eraseP_le,by rw [List.length_append];exact Nat.le_refl _⟩
  ·exact ⟨Nat.le_refl _,Nat.le_succ _⟩
theorem tE {sent:List Snd} (h:iC sent):∀ t,(go sent t).pend.length≤(sent.filter fun x=>decide (x.t < t)).length∧(go sent t).done.length≤t
 | 0=>⟨Nat.zero_le _,Nat.le_refl _⟩
 | t+1=>by
  obtain ⟨h1,h2⟩:=tE h t
  obtain ⟨b1,b2⟩:=xB t (atT sent t (go sent t))
  have e1:(atT sent t (go sent t)).pend.length=(go sent t).pend.length+(sent.filter fun x=>decide (x.t=t)).length:=List.length_append
  have e2:(atT sent t (go sent t)).done=(go sent t).done:=rfl
  rw [e2] at b2
  refine ⟨?_,Nat.le_trans b2 (by omega)⟩
  rw [cI t h,List.length_append]
  exact Nat.le_trans b1 (by omega)
theorem zy {sent:List Snd} (h:iC sent) (t:Nat):(atT sent t (go sent t)).pend.length≤sent.length:=by
 have e1:(atT sent t (go sent t)).pend.length=(go sent t).pend.length+(sent.filter fun x=>decide (x.t=t)).length:=List.length_append
 have h1:=(tE h t).1
 have h2:=cI t h
 have h3:=List.length_filter_le (fun x:Snd=>decide (x.t < t+1)) sent
 rw [h2,List.length_append] at h3
 omega
theorem BusAtT.few {ds:List Nd} {sent:List Snd} {t:Nat} (h:BusAtT ds sent t) (ht:iC sent):Few sent.length t ds:=fun d hd=>by
 obtain ⟨i,e⟩:=List.mem_iff_getElem?.mp hd
 rw [h.bm.qu i d e,h.bm.tk i d e]
 refine ⟨Nat.le_trans (xA _ _) (zy ht t),?_⟩
 rw [List.length_map]
 exact Nat.le_trans (List.length_filter_le _ _) (tE ht t).2
theorem zz {f:Fr} (h:f.2.length≤20):fl f+13≤400:=by
 have h1:=gH (aE f.1 f.2)
 rw [cz] at h1
 have:fl f=(aS (aE f.1 f.2)).length:=rfl
 omega
theorem BusAtT.heard {ds:List Nd} {sent:List Snd} {t now i:Nat} {found:List (Nat×Snd)} {d:Nd} (h:BusAtT ds sent t) (p:PlanInv sent [] now found) (e:ds[i]? = some d) :
  d.tk=(found.filter fun e=>decide (e.2.at_≠i) && decide (e.1≤t)).map (·.2.f):=by
 rw [h.bm.tk i d e]
 have e2:(atT sent t (go sent t)).done=(go sent t).done:=rfl
 rw [e2,(p.ends t).1,List.filter_filter]
theorem PlanInv.over {sent:List Snd} {now T:Nat} {found:List (Nat×Snd)} (p:PlanInv sent [] now found) (hp:∀ e∈found,e.1≤T):(atT sent T (go sent T)).pend=[]:=by
 have h1:((atT sent T (go sent T)).bit T).pend=[]:=(p.ends (T+1)).2 fun e he=>by have:=hp e he;omega
 have h2:((atT sent T (go sent T)).bit T).done=found.filter (fun e=>decide (e.1≤T+1)):=(p.ends (T+1)).1
 have h3:∀ x,(T+1,x)∉((atT sent T (go sent T)).bit T).done:=fun x hx=>by
  rw [h2] at hx
  have:=hp _ (List.mem_filter.mp hx).1
  have:T+1≤T:=this
  omega
 clear h2
 unfold Mc.bit at h1 h3
 split at h1
 ·split at h1
  ·exact h1
  ·exact h1
 ·rename_i x n e
  rw [e] at h3
  dsimp only at h1 h3
  split at h1
  ·rename_i c
   exact absurd (List.mem_append.mpr (.inr (List.mem_singleton.mpr rfl))) (by have:=h3 x;rw [if_pos c] at this;exact this)
  ·exact h1
theorem BusAtT.none {ds:List Nd} {sent:List Snd} {t now i:Nat} {found:List (Nat×Snd)} {d:Nd} (h:BusAtT ds sent t) (p:PlanInv sent [] now found) (hp:∀ e∈found,e.1≤t) (e:ds[i]? = some d):d.qu=[]:=by
 rw [h.bm.qu i d e,p.over hp]
 rfl
end BB
set_option maxHeartbeats 4000000
set_option maxRecDepth 100000
namespace BB
open PySem L2
def top (i:Nat):Stmt:=PySem.Challenge.pw_bitbus_k20_whole_least_first.main.body.getD i (.Pass ⟨0,0,0,0⟩)
structure Cs where
 E:Addr
 F:Addr
 N:Addr
 B:Addr
 R:Addr
 D:Addr
 U:Addr
structure Txt (K:PySem.W.Frag) (mg:Str→Option Value) (c:Cs):Prop where
 range:mg "range" = none
 len:mg "len" = none
 isI:mg "isinstance" = none
 all:mg "all" = none
 any:mg "any" = none
 int:mg "int" = none
 bool:mg "bool" = none
 list:mg "list" = none
 set:mg "set" = none
 min:mg "min" = none
 sorted:mg "sorted" = none
 valueError:mg "ValueError" = none
 c_HIGHEST_NAME:∃ t,mg "HIGHEST_NAME" = some (.int 2047 t)
 c_HIGHEST_BYTE:∃ t,mg "HIGHEST_BYTE" = some (.int 255 t)
 c_MOST_BYTES:∃ t,mg "MOST_BYTES" = some (.int 8 t)
 c_NAME_BITS:∃ t,mg "NAME_BITS" = some (.int 11 t)
 c_COUNT_BITS:∃ t,mg "COUNT_BITS" = some (.int 4 t)
 c_BYTE_BITS:∃ t,mg "BYTE_BITS" = some (.int 8 t)
 c_CHECK_BITS:∃ t,mg "CHECK_BITS" = some (.int 15 t)
 c_CHECK_TURNS:∃ t,mg "CHECK_TURNS" = some (.int 17817 t)
 c_CHECK_HIGHEST:∃ t,mg "CHECK_HIGHEST" = some (.int 32767 t)
 c_MOST_LIKE_BITS:∃ t,mg "MOST_LIKE_BITS" = some (.int 5 t)
 c_NAME_AT:∃ t,mg "NAME_AT" = some (.int 1 t)
 c_COUNT_AT:∃ t,mg "COUNT_AT" = some (.int 12 t)
 c_ROW_AT:∃ t,mg "ROW_AT" = some (.int 16 t)
 c_FREE:∃ t,mg "FREE" = some (.str "free" t)
 c_FRAME:∃ t,mg "FRAME" = some (.str "frame" t)
 c_CRY:∃ t,mg "CRY" = some (.str "cry" t)
 c_DAZED:∃ t,mg "DAZED" = some (.str "dazed" t)
 c_REST:∃ t,mg "REST" = some (.str "rest" t)
 c_CRIED_BITS:∃ t,mg "CRIED_BITS" = some (.int 6 t)
 c_DAZED_ONES:∃ t,mg "DAZED_ONES" = some (.int 8 t)
 c_REST_ONES:∃ t,mg "REST_ONES" = some (.int 3 t)
 c_ANSWER_AT:∃ t,mg "ANSWER_AT" = some (.int 1 t)
 c_BITS_BEHIND:∃ t,mg "BITS_BEHIND" = some (.int 10 t)
 c_MOST_NODES:∃ t,mg "MOST_NODES" = some (.int 8 t)
 m_BusError:mg "BusError" = some (.ref c.E)
 m_BadFrame:mg "BadFrame" = some (.ref c.F)
 m_NoNode:mg "NoNode" = some (.ref c.N)
 m_BadBits:mg "BadBits" = some (.ref c.B)
 m_Reading:mg "Reading" = some (.ref c.R)
 m_Node:mg "Node" = some (.ref c.D)
 m_Bus:mg "Bus" = some (.ref c.U)
 d_in_bits:DefAt K mg "in_bits" (top 20)
 d_number_of:DefAt K mg "number_of" (top 21)
 d_check_of:DefAt K mg "check_of" (top 22)
 d_refuse_bad_frame:DefAt K mg "refuse_bad_frame" (top 23)
 d_bits_of:DefAt K mg "bits_of" (top 24)
 d_is_one_due:DefAt K mg "is_one_due" (top 25)
 d_stuffed:DefAt K mg "stuffed" (top 26)
 d_head_choices:DefAt K mg "head_choices" (top 27)
 d_check_place:DefAt K mg "check_place" (top 28)
 d_plain_choices:DefAt K mg "plain_choices" (top 29)
 d_choices_behind:DefAt K mg "choices_behind" (top 30)
 d_parts_of:DefAt K mg "parts_of" (top 31)
 d_Reading___init__:InitAt K c.R "Reading.__init__" (aj (top 32) 0)
 d_Reading_take:MethAt K c.R "take" "Reading.take" (aj (top 32) 1)
 d_Reading_is_over:MethAt K c.R "is_over" "Reading.is_over" (aj (top 32) 2)
 d_Reading_is_at_name:MethAt K c.R "is_at_name" "Reading.is_at_name" (aj (top 32) 3)
 d_Node___init__:InitAt K c.D "Node.__init__" (aj (top 44) 0)
 d_Node_has_waiting:MethAt K c.D "has_waiting" "Node.has_waiting" (aj (top 44) 1)
 d_Node_let_wait:MethAt K c.D "let_wait" "Node.let_wait" (aj (top 44) 2)
 d_Node_begin_if_free:MethAt K c.D "begin_if_free" "Node.begin_if_free" (aj (top 44) 3)
 d_Node_put:MethAt K c.D "put" "Node.put" (aj (top 44) 4)
 d_Node_put_in_frame:MethAt K c.D "put_in_frame" "Node.put_in_frame" (aj (top 44) 5)
 d_Node_hear:MethAt K c.D "hear" "Node.hear" (aj (top 44) 6)
 d_Node_hear_in_frame:MethAt K c.D "hear_in_frame" "Node.hear_in_frame" (aj (top 44) 7)
 d_Node_hear_stuffed:MethAt K c.D "hear_stuffed" "Node.hear_stuffed" (aj (top 44) 8)
 d_Node_hears_another:MethAt K c.D "hears_another" "Node.hears_another" (aj (top 44) 9)
 d_Node_hear_behind:MethAt K c.D "hear_behind" "Node.hear_behind" (aj (top 44) 10)
 d_Node_is_wrong_behind:MethAt K c.D "is_wrong_behind" "Node.is_wrong_behind" (aj (top 44) 11)
 d_Node_hear_dazed:MethAt K c.D "hear_dazed" "Node.hear_dazed" (aj (top 44) 12)
 d_Node_hear_between:MethAt K c.D "hear_between" "Node.hear_between" (aj (top 44) 13)
 d_Node_enter_frame:MethAt K c.D "enter_frame" "Node.enter_frame" (aj (top 44) 14)
 d_Node_end_frame:MethAt K c.D "end_frame" "Node.end_frame" (aj (top 44) 15)
 d_Node_drop_first:MethAt K c.D "drop_first" "Node.drop_first" (aj (top 44) 16)
 d_Node_cry_out:MethAt K c.D "cry_out" "Node.cry_out" (aj (top 44) 17)
 d_Node_pass_one:MethAt K c.D "pass_one" "Node.pass_one" (aj (top 44) 18)
 d_Node_turn_to:MethAt K c.D "turn_to" "Node.turn_to" (aj (top 44) 19)
 d_copies_of:DefAt K mg "copies_of" (top 47)
 d_Bus___init__:InitAt K c.U "Bus.__init__" (aj (top 48) 0)
 d_Bus_node_at:MethAt K c.U "node_at" "Bus.node_at" (aj (top 48) 1)
 d_Bus_time:MethAt K c.U "time" "Bus.time" (aj (top 48) 2)
 d_Bus_heard:MethAt K c.U "heard" "Bus.heard" (aj (top 48) 3)
 d_Bus_waits:MethAt K c.U "waits" "Bus.waits" (aj (top 48) 4)
 d_Bus_faults:MethAt K c.U "faults" "Bus.faults" (aj (top 48) 5)
 d_waits_elsewhere:DefAt K mg "waits_elsewhere" (top 49)
 d_send:DefAt K mg "send" (top 50)
 d_step:DefAt K mg "step" (top 51)
 d_run:DefAt K mg "run" (top 52)
 d__law_cell:DefAt K mg "_law_cell" (top 54)
 d__law_mix:DefAt K mg "_law_mix" (top 55)
 d__law_digits:DefAt K mg "_law_digits" (top 57)
 d__law_check:DefAt K mg "_law_check" (top 58)
 d__law_bits:DefAt K mg "_law_bits" (top 59)
 d__law_stuffed:DefAt K mg "_law_stuffed" (top 60)
 d__law_run:DefAt K mg "_law_run" (top 61)
 d__law_frame:DefAt K mg "_law_frame" (top 62)
 d__law_told:DefAt K mg "_law_told" (top 63)
 d__law_size:DefAt K mg "_law_size" (top 64)
 d__law_plan:DefAt K mg "_law_plan" (top 65)
 d_law:DefAt K mg "law" (top 66)
 k_Reading:Cls K c.R
 a_Reading_wire:NoAttr K c.R "wire"
 a_Reading_plain:NoAttr K c.R "plain"
 a_Reading_choices:NoAttr K c.R "choices"
 k_Node:Cls K c.D
 a_Node_state:NoAttr K c.D "state"
 a_Node_passed:NoAttr K c.D "passed"
 a_Node_reading:NoAttr K c.D "reading"
 a_Node_sending:NoAttr K c.D "sending"
 a_Node_queue:NoAttr K c.D "queue"
 a_Node_taken:NoAttr K c.D "taken"
 a_Node_fault_count:NoAttr K c.D "fault_count"
 k_Bus:Cls K c.U
 a_Bus_nodes:NoAttr K c.U "nodes"
 a_Bus_bits_past:NoAttr K c.U "bits_past"
 kib:PySem.W.kitOne K (.type "int") (.type "bool")=some false
 x_BadFrame:PySem.W.excIn K c.F [.type "ValueError",.type "Exception",.type "BaseException",.type "object"] "ValueError.__new__" = true
 r_BadFrame:PySem.W.mroIn K c.F (.ref c.E)=some true
 e_BadFrame:ExcC K c.F
 x_NoNode:PySem.W.excIn K c.N [.type "ValueError",.type "Exception",.type "BaseException",.type "object"] "ValueError.__new__" = true
 r_NoNode:PySem.W.mroIn K c.N (.ref c.E)=some true
 e_NoNode:ExcC K c.N
 i_BadFrame_BadFrame:PySem.W.kitOne K (.ref c.F) (.ref c.F)=some true
 i_BadFrame_NoNode:PySem.W.kitOne K (.ref c.F) (.ref c.N)=some false
 i_BadFrame_BadBits:PySem.W.kitOne K (.ref c.F) (.ref c.B)=some false
 i_BadFrame_V:PySem.W.kitOne K (.ref c.F) (.type "ValueError")=some true
 i_NoNode_BadFrame:PySem.W.kitOne K (.ref c.N) (.ref c.F)=some false
 i_NoNode_NoNode:PySem.W.kitOne K (.ref c.N) (.ref c.N)=some true
 i_NoNode_BadBits:PySem.W.kitOne K (.ref c.N) (.ref c.B)=some false
 i_NoNode_V:PySem.W.kitOne K (.ref c.N) (.type "ValueError")=some true
 i_F_BN:PySem.W.kitAny K (.ref c.F) [.ref c.B,.ref c.N]=some false
 t_BusError:PySem.W.typeIn K (.ref c.E)=some (.type "type")
 l_BusError:(PySem.W.clsIn K c.E).isSome=true
 b_BusError:PySem.W.mroIn K c.E (.type "BaseException")=some true
end BB
set_option maxHeartbeats 4000000
set_option maxRecDepth 100000
set_option linter.unusedVariables false
namespace BB
open PySem L2
local macro_rules | `(tactic| wtm_at "sA")=>`(tactic| first
 | ((with_reducible apply aA);(focus with_reducible assumption))
 | ((with_reducible apply aP);(focus wtm_at "hn"))
 | ((with_reducible apply Same.get);(focus with_reducible assumption)))
local macro_rules | `(tactic| wtm_at "sL")=>`(tactic| first
 | ((with_reducible apply SqL.new);(focus with_reducible assumption))
 | ((with_reducible apply Same.seq);(focus with_reducible assumption))
 | with_reducible apply At.sqL
 | with_reducible apply At.sqF)
local macro_rules | `(tactic| wtm_at "sT")=>`(tactic| first
 | with_reducible apply At.sqT)
local macro_rules | `(tactic| wtm_at "hA")=>`(tactic| first
 | with_reducible assumption
 | with_reducible exact ad
 | (wtm_at "sA";wtm_at "hA"))
local macro_rules | `(tactic| wtm_at "hL")=>`(tactic| first
 | with_reducible assumption
 | ((with_reducible apply At.sqL);wtm_at "hA")
 | ((with_reducible apply At.sqF);wtm_at "hA")
 | (wtm_at "sL";wtm_at "hL"))
local macro_rules | `(tactic| wtm_at "hT")=>`(tactic| first
 | with_reducible assumption
 | ((with_reducible apply At.sqT);wtm_at "hA")
 | (wtm_at "sT";wtm_at "hT"))
local macro_rules | `(tactic| wtm_at "hg")=>`(tactic| first
 | ((with_reducible apply Bb);wtm_at "hA")
 | ((with_reducible apply y3);wtm_at "hL")
 | ((with_reducible apply y4);wtm_at "hT"))
local macro_rules | `(tactic| wtm_at "hn")=>`(tactic| first
 | with_reducible assumption
 | ((with_reducible refine Ne.symm ?_);with_reducible assumption)
 | ((with_reducible apply Bd);(focus with_reducible assumption))
 | ((with_reducible apply B2);(focus with_reducible assumption))
 | ((with_reducible apply Ne.symm);(with_reducible apply Bd);(focus with_reducible assumption))
 | ((with_reducible apply Ne.symm);(with_reducible apply B2);(focus with_reducible assumption))
 | ((with_reducible apply Ne.symm);(with_reducible apply fne3);(focus with_reducible assumption))
 | ((with_reducible apply Ne.symm);(with_reducible apply fne4);(focus with_reducible assumption))
 | ((with_reducible refine rM (by with_reducible assumption) ?_);exact ⟨_,by wtm_at "hA"⟩)
 | ((with_reducible refine Ne.symm (rM (by with_reducible assumption) ?_));exact ⟨_,by wtm_at "hA"⟩))
local macro_rules | `(tactic| wtm_at "ni")=>`(tactic| first
 | with_reducible assumption
 | exact List.not_mem_nil
 | ((with_reducible refine aK ?_);wtm_at "hn")
 | ((with_reducible refine lJ ?_ ?_ ?_) <;> wtm_at "hn"))
local macro_rules | `(tactic| wtm_at "hs")=>`(tactic| first
 | with_reducible assumption
 | with_reducible exact Same.refl _
 | ((with_reducible refine Same.new ?a ?b);(case b=>with_reducible assumption);(case a=>wtm_at "hs"))
 | ((with_reducible refine Same.upF ?a ?b);(case b=>wtm_at "hf");(case a=>wtm_at "hs"))
 | ((with_reducible refine Same.trans ?_ (by with_reducible assumption));wtm_at "hs"))
local macro_rules | `(tactic| wtm_at "hf")=>`(tactic| first
 | with_reducible assumption
 | ((with_reducible apply ze);(focus with_reducible assumption))
 | ((with_reducible apply vD);(focus with_reducible assumption))
 | ((with_reducible apply B1);(focus with_reducible assumption))
 | ((with_reducible apply CK);(focus with_reducible assumption))
 | ((with_reducible refine Same.fr (by with_reducible assumption) ?_);wtm_at "hf")
 | ((with_reducible refine Chg.fr (by with_reducible assumption) ?n ?m);(case n=>wtm_at "ni");(case m=>wtm_at "hf")))
local macro_rules | `(tactic| wtm_at "hc")=>`(tactic| first
 | with_reducible assumption
 | with_reducible exact Chg.refl _ _
 | ((with_reducible refine Chg.new ?a ?b);(case b=>with_reducible assumption);(case a=>wtm_at "hc"))
 | ((with_reducible refine Chg.upd ?a ?b);(case b=>simp);(case a=>wtm_at "hc"))
 | ((with_reducible refine Chg.trans ?_ (by with_reducible assumption));wtm_at "hc")
 | ((with_reducible refine Chg.trans ?_ (Same.chg (by with_reducible assumption)));wtm_at "hc"))
local macro_rules | `(tactic| wtm_at "ar")=>`(tactic| first
 | (show (0:Int) < _;decide)
 | (show (0:Int) < _;omega)
 | (show (0:Int)≤_;decide)
 | (show (0:Int)≤_;omega)
 | exact ⟨by decide,by decide⟩
 | exact ⟨by decide,by decide,by omega⟩
 | exact ⟨by omega,by omega⟩
 | exact .inl ⟨by decide,by decide⟩
 | exact .inr ⟨by decide,by decide⟩
 | exact .inl ⟨by omega,by omega⟩
 | exact .inr ⟨by omega,by omega⟩)
local macro_rules | `(tactic| wtm_at "w1")=>`(tactic| first
 | (with_reducible first
 | refine AE ?_
 | refine AG ?_
 | refine AI ?_
 | refine AK ?_
 | refine AM ?_
 | refine uC ?_
 | refine Au ?_
 | refine Aw ?_
 | refine yx ?_
 | refine yy ?_
 | refine wF ?_
 | refine yI ?_
 | refine yM ?_
 | refine AH ?_
 | refine AJ ?_
 | refine AL ?_
 | refine AN ?_
 | refine yA ?_
 | refine wC ?_
 | refine wG ?_
 | refine AZ ?_
 | refine A0 ?_
 | refine A6 ?_
 | refine A7 ?_
 | refine wD ?_
 | refine uD ?_
 | refine yB ?_
 | refine yC ?_
 | refine yD ?_
 | refine yE ?_
 | refine yz ?_
 | refine wA ?_
 | refine wN ?_
 | refine Ax ?_
 | refine Az ?_
 | refine wz ?_
 | refine Aq ?_
 | refine As ?_)
 | ((with_reducible refine CJ ?_);refine BY (by wtm_at "ar") ?_)
 | ((with_reducible refine y7 ?_);refine wI (by wtm_at "hA") (by wtm_at "kf") (by wtm_at "kf") (by rfl) ?_)
 | ((with_reducible refine w8 ?_);refine uJ (by wtm_at "hA") (by rfl) ?_)
 | ((with_reducible refine wZ ?_);refine uF (by wtm_at "hA") (by wtm_at "kf") (by wtm_at "kf") (by first | exact Nat.le_of_ble_eq_true rfl | simp [rdF,ndF,buF]) (by wtm_at "pf") ?_)
 | ((with_reducible refine w5 ?_);refine wL (by wtm_at "hA") (by wtm_at "kf") (by wtm_at "kf") (by rfl) ?_)
 | ((with_reducible refine w6 ?_);refine wM (by wtm_at "hA") (by first | exact Nat.le_of_ble_eq_true rfl | simp [rdF,ndF,buF]) (by wtm_at "pf") ?_)
 | ((with_reducible refine za ?_);refine yL (by wtm_at "hL") ?_)
 | ((with_reducible refine vC ?_);refine wO (by wtm_at "hL") ?_)
 | ((with_reducible refine vC ?_);refine wp_lenT (by wtm_at "hT") ?_)
 | ((with_reducible refine w9 ?_);refine uK (by wtm_at "hL") ?_)
 | ((with_reducible refine y8 ?_);refine bL (by wtm_at "hL") (by rfl) ?_)
 | ((with_reducible refine y9 ?_);refine yP (by wtm_at "hT") (by rfl) ?_)
 | ((with_reducible refine zb ?_);refine wP (by wtm_at "hL") ?_)
 | (with_reducible first
 | refine Av ?_
 | refine CH ?_
 | refine yF ?_
 | refine Ay ?_
 | refine yG ?_
 | refine wE ?_
 | refine yH ?_
 | refine yJ ?_
 | refine yK ?_
 | refine AA ?_
 | refine wB ?_
 | refine wJ ?_
 | refine wK ?_
 | refine wH ?_
 | refine wT ?_
 | refine AD ?_
 | refine rH ?_
 | refine wU ?_
 | refine A3 ?_
 | refine A4 ?_
 | refine A8 ?_
 | refine wR ?_
 | refine wS ?_
 | refine uL ?_
 | refine uM ?_
 | refine yO ?_
 | refine zd ?_
 | refine zj ?_
 | refine zk ?_
 | refine xg ?_
 | refine zm ?_
 | refine xj ?_
 | refine rj ?_
 | refine vv ?_
 | refine Be ?_
 | refine Bf ?_
 | refine AO ?_
 | refine AR ?_
 | refine AT ?_
 | refine AV ?_
 | refine AX ?_
 | refine yR ?_
 | refine yT ?_
 | refine yV ?_
 | refine AF ?_
 | refine AQ ?_
 | refine AS ?_
 | refine AU ?_
 | refine AW ?_
 | refine AY ?_
 | refine yS ?_
 | refine yU ?_
 | refine yW ?_))
local macro_rules | `(tactic| wtm_at "wp")=>`(tactic| repeat wtm_at "w1")
local macro_rules | `(tactic| wtm_at "sm")=>`(tactic| first
 | exact small (by decide)
 | exact bg (by decide)
 | (simp only [List.length_map,List.length_append,List.length_cons,List.length_nil,ar,cY,eU,List.length_take,List.length_drop,List.length_replicate] at *;first | exact small (by omega) | exact bg (by omega)))
local macro_rules | `(tactic| wtm_at "kf")=>`(tactic| first | assumption | exact Txt.k_Reading (by assumption) | exact Txt.a_Reading_wire (by assumption) | exact Txt.a_Reading_plain (by assumption) | exact Txt.a_Reading_choices (by assumption) | exact Txt.k_Node (by assumption) | exact Txt.a_Node_state (by assumption) | exact Txt.a_Node_passed (by assumption) | exact Txt.a_Node_reading (by assumption) | exact Txt.a_Node_sending (by assumption) | exact Txt.a_Node_queue (by assumption) | exact Txt.a_Node_taken (by assumption) | exact Txt.a_Node_fault_count (by assumption) | exact Txt.k_Bus (by assumption) | exact Txt.a_Bus_nodes (by assumption) | exact Txt.a_Bus_bits_past (by assumption))
local macro_rules | `(tactic| wtm_at "pf")=>`(tactic| first | exact put_wire | exact put_plain | exact nl | exact rK | exact pV | exact nq | exact nr | exact put_queue | exact put_taken | exact iZ | exact ky | rfl)
variable {P:Program} {w:World} {K:PySem.W.Frag} {mg:Str→Option Value} {base:Heap} {c:Cs}
theorem zA (c:Nat):Builtin.bitAnd ((c:Int) * 2 ^ (1:Int).toNat) 32767=((c * 2 % 32768:Nat):Int):=by
 have:=PySem.W.kbt_mask ((c:Int) * 2 ^ (1:Int).toNat) 15
 have e:(2:Int) ^ 15 - 1=32767:=by decide
 rw [e] at this
 rw [this]
 have e2:(c:Int) * 2 ^ (1:Int).toNat=((c * 2:Nat):Int):=by
  show (c:Int) * 2 ^ 1=_
  omega
 rw [e2]
 have e3:(2:Int) ^ 15=32768:=by decide
 rw [e3]
 omega
theorem zB:(List.replicate (5:Int).toNat [V.int 0]).flatten=([0,0,0,0,0]:List Int).map V.int:=by rfl
theorem zC:(List.replicate (5:Int).toNat [V.int 1]).flatten=([1,1,1,1,1]:List Int).map V.int:=by rfl
theorem ix {row:List Int} {i:Nat} {b:Int} (h:row[i]? = some b):bb (row.take (i+1))=bb (row.take i)++am b 8:=by
 obtain ⟨hi,e⟩:=List.getElem?_eq_some_iff.mp h
 unfold bb
 rw [List.take_succ_eq_append_getElem hi,List.flatMap_append,e]
 simp
theorem Cd (w:List Int):kg (w.map V.int) (some (-5)) none=(bH w).map V.int:=by
 unfold kg bH
 rw [HT.sIx_none,List.length_map]
 have e:HT.sIx w.length 0 (some (-5))=w.length - 5:=by
  unfold HT.sIx
  simp
  omega
 rw [e,← List.map_drop,List.take_of_length_le (by rw [List.length_map,List.length_drop];omega)]
abbrev tF:Stmt:=(top 20)
abbrev qr (K:PySem.W.Frag) (c:Cs):Sp:=sp2 fun a b H Q _=>∃ (n:Int) (k:Nat),a = .int n∧b = .int k∧k≤100∧MkL H Q (am n k)
theorem qt:FnScope ["number", "many"] ["number", "many"] (ai tF):=aQ
theorem eX (T:Txt K mg c):fI P w K mg base CX0 1 "in_bits" ["number", "many"] (qr K c):=by
 refine T.d_in_bits.ok qt (fun _ _ _ _ _ _ us hl=>match us,hl with | [_,_],_=>rfl) gX (fun f cdv A outer s H vs Q E hr h => ?_)
 obtain ⟨v0,v1,rfl,h⟩:=h
 refine ⟨_,(af (ay (ce ["number", "many"] [0,1] (bN rfl T.range (aa (pv 1) ac)) (fun fp s H=>(av vp (av vo (pv 0) (av dH (av dH (pv 1) ag) (pv 2))) ag))))),?_⟩
 try dsimp only [bv,Cx.nox,Cx.wish]
 refine ak (s2:=[some v0,some v1]) rfl ?_
 obtain ⟨n,k,rfl,rfl,hk,q⟩:=h
 wtm_at "wp"
 refine kz ?_
 wtm_at "wp"
 refine rL k (fun i => .int (n / 2 ^ (k - 1 - i) % 2)) (by omega) (by omega) (small (by omega)) (fun i H' R hi s1 hR => ?_) (fun D Hf s1 hD e=>q D Hf s1 hD ?_)
 ·show tOp _ _ _ [some (.int n),some (.int k),some (.int i)] _ _
  wtm_at "wp"
  have e1:((k:Int) - 1 - (i:Int)).toNat=k - 1 - i:=by omega
  rw [e1,PyProof.Rows.bitAnd_m1]
  exact hR H' (Same.refl _)
 ·rw [← jY,List.map_map]
  exact e
abbrev nM:Stmt:=(top 21)
abbrev mf (K:PySem.W.Frag) (c:Cs):Sp:=sp1 fun v H Q _=>∃ (a:Addr) (bs:List Int),v = .ref a∧SqL K H a (bs.map V.int)∧Q (.int (cv bs)) H
theorem sc_number_of:FnScope ["bits", "number", "bit"] ["bits"] (ai nM):=aQ
theorem d4 (T:Txt K mg c):fI P w K mg base CX0 1 "number_of" ["bits"] (mf K c):=by
 refine T.d_number_of.ok sc_number_of (fun _ _ _ _ _ _ us hl=>match us,hl with | [_],_=>rfl) iA (fun f cdv A outer s H vs Q E hr h => ?_)
 obtain ⟨v0,rfl,h⟩:=h
 refine ⟨_,(ae (az (i:=1) sc_number_of.nd rfl (.inl rfl) ag)
   (ae (cg PassesOwn.never rfl (aO (K:=K) (pv 0)) (bD (i:=2) sc_number_of.nd rfl (.inl rfl))
    (af (az (i:=1) sc_number_of.nd rfl (.inl rfl) (av bA (av gu (pv 1) ag) (pv 2)))))
   (af (ay (pv 1))))),?_⟩
 try dsimp only [bv,Cx.nox,Cx.wish]
 refine ak (s2:=[some v0,none,none]) rfl ?_
 obtain ⟨a,bs,rfl,hS,q⟩:=h
 wtm_at "wp"
 refine cW ?_
 wtm_at "wp"
 refine bU (fun i σ H2=>∃ v:Option V,σ=[some (.ref a),some (.int (cv (bs.take i))),v]∧H2=H) hS ⟨none,rfl,rfl⟩ (fun i σ H2 _ ⟨_,_,e⟩=>e ▸ hS) ?_ ?_
 ·rintro i y σ H2 hi ⟨v,rfl,rfl⟩
  obtain ⟨b,hb,rfl⟩:=cC hi
  have hn:cv (bs.take (i+1))=cv (bs.take i) * 2+b:=gD (f:=fun n b=>n * 2+b) (a:=(0:Int)) hb
  wtm_at "wp"
  refine ⟨some (.int b),?_,rfl⟩
  rw [hn]
 ·rintro σ H2 ⟨v,rfl,rfl⟩
  rw [List.take_of_length_le (by rw [List.length_map];exact Nat.le_refl _)]
  wtm_at "wp"
  exact q
abbrev qv:Stmt:=(top 22)
abbrev nO (K:PySem.W.Frag) (c:Cs):Sp:=sp1 fun v H Q _=>∃ (a:Addr) (bs:List Int),v = .ref a∧SqL K H a (bs.map V.int)∧Bits bs∧bs.length≤500∧MkL H Q (chk bs)
theorem sc_check_of:FnScope ["bits", "check", "bit", "fallen"] ["bits"] (ai qv):=aQ
theorem jb (T:Txt K mg c):fI P w K mg base CX0 2 "check_of" ["bits"] (nO K c):=by
 refine T.d_check_of.ok sc_check_of (fun _ _ _ _ _ _ us hl=>match us,hl with | [_],_=>rfl) iA (fun f cdv A outer s H vs Q E hr h => ?_)
 obtain ⟨v0,rfl,h⟩:=h
 refine ⟨_,(ae (az (i:=1) sc_check_of.nd rfl (.inl rfl) ag)
   (ae (cg PassesOwn.never rfl (aO (K:=K) (pv 0)) (bD (i:=2) sc_check_of.nd rfl (.inl rfl))
    (ae (az (i:=3) sc_check_of.nd rfl (.inl rfl) (av vo (pv 1) (av dH (pgi T.c_CHECK_BITS) ag)))
    (ae (az (i:=1) sc_check_of.nd rfl (.inl rfl) (av vp (av x9 (pv 1) ag) (pgi T.c_CHECK_HIGHEST)))
    (af (bc (aq mY (pv 3) (pv 2) (au _))
     (af (az (i:=1) sc_check_of.nd rfl (.inl rfl) (av ya (pv 1) (pgi T.c_CHECK_TURNS))))
     aG)))))
   (af (ay (cj (eX T) hr aw (aa (pv 1) (aa (pgi T.c_CHECK_BITS) ac))))))),?_⟩
 try dsimp only [bv,Cx.nox,Cx.wish]
 refine ak (s2:=[some v0,none,none,none]) rfl ?_
 obtain ⟨a,bs,rfl,hS,hb,hl,q⟩:=h
 wtm_at "wp"
 refine cW ?_
 wtm_at "wp"
 refine bU (fun i σ H2=>∃ (v u:Option V),σ=[some (.ref a),some (.int (((bs.take i).foldl fT 0:Nat):Int)),v,u]∧H2=H) hS
  ⟨none,none,rfl,rfl⟩ (fun i σ H2 _ ⟨_,_,_,e⟩=>e ▸ hS) ?_ ?_
 ·rintro i y σ H2 hi ⟨v,u,rfl,rfl⟩
  obtain ⟨b,hbi,rfl⟩:=cC hi
  have hc:(bs.take i).foldl fT 0 < 32768:=sH _ _ (by decide)
  have hn:=gD (f:=fT) (a:=0) hbi
  generalize (bs.take i).foldl fT 0=c at *
  have ef:(c:Int) / 2 ^ ((15:Int) - 1).toNat=((c / 16384:Nat):Int):=by
   show (c:Int) / 2 ^ 14=_
   omega
  have em:=zA c
  wtm_at "wp"
  rw [ef,em]
  refine dR (fun hne => ?_) (fun he => ?_)
  ·have e1:fT c b=(c * 2 % 32768) ^^^ 17817:=by unfold fT;rw [if_neg hne]
   wtm_at "wp"
   refine ⟨some (.int b),some (.int ((c / 16384:Nat):Int)),?_,rfl⟩
   rw [hn,e1,show Builtin.bitXor ((c * 2 % 32768:Nat):Int) 17817=_ from pQ (c * 2 % 32768) 17817]
  ·have e1:fT c b=c * 2 % 32768:=by unfold fT;rw [if_pos he]
   wtm_at "wp"
   refine ⟨some (.int b),some (.int ((c / 16384:Nat):Int)),?_,rfl⟩
   rw [hn,e1]
 ·rintro σ H2 ⟨v,u,rfl,rfl⟩
  wtm_at "wp"
  refine ⟨_,15,rfl,rfl,by decide,?_⟩
  rw [List.take_of_length_le (by rw [List.length_map];exact Nat.le_refl _),xu]
  exact q
abbrev gI:Stmt:=(top 23)
abbrev fU (K:PySem.W.Frag) (c:Cs):Sp:=sp2 fun u v H Q E=>∃ (a:Addr) (name:Int) (row:List Int),u = .int name∧v = .ref a∧SqL K H a (row.map V.int)∧name.natAbs.log2 < 1920∧(∀ b∈row,b.natAbs.log2 < 1920) ∧
 (cQ name row→Q .non H)∧(¬ cQ name row→E (.ref c.F) none H)
theorem sc_refuse_bad_frame:FnScope ["name", "row", "byte"] ["name", "row"] (ai gI):=aQ
theorem cK (T:Txt K mg c):fI P w K mg base (CXe P w) 1 "refuse_bad_frame" ["name", "row"] (fU K c):=by
 refine T.d_refuse_bad_frame.okE sc_refuse_bad_frame (fun _ _ _ _ _ _ us hl=>match us,hl with | [_,_],_=>rfl) gX (fun f cdv A outer s H vs Q E hr h => ?_)
 obtain ⟨v0,v1,rfl,h⟩:=h
 refine ⟨_,(ae (bc (PW.pt (mX (aq kd (pv 0) ag (au _)) (iP (aq mZ (pv 0) (pgi T.c_HIGHEST_NAME) (au _)))))
    (af (gA (E:=E) (fun pins σ H s h' e vs I hx hE=>gz I hx hE) PySem.F.excBase_ValueError T.x_BadFrame rfl rfl T.m_BadFrame (aa (iY (vA (yt (pv 0) lH))) ac)))
    aG)
   (ae (bc (aq mZ (ax (aB (K:=K)) rfl T.len PySem.boot_len (aa (pv 1) ac)) (pgi T.c_MOST_BYTES) (au _))
    (af (gA (E:=E) (fun pins σ H s h' e vs I hx hE=>gz I hx hE) PySem.F.excBase_ValueError T.x_BadFrame rfl rfl T.m_BadFrame (aa (iY (vA (yt (pgi T.c_MOST_BYTES) (vA lH)))) ac)))
    aG)
   (af (cg PassesOwn.leaving rfl (aO (K:=K) (pv 1)) (bD (i:=2) sc_refuse_bad_frame.nd rfl (.inl rfl))
    (af (bc (PW.pt (mX (aq kd (pv 2) ag (au _)) (iP (aq mZ (pv 2) (pgi T.c_HIGHEST_BYTE) (au _)))))
     (af (gA (E:=E) (fun pins σ H s h' e vs I hx hE=>gz I hx hE) PySem.F.excBase_ValueError T.x_BadFrame rfl rfl T.m_BadFrame (aa (iY (yt (pv 2) (vA lH))) ac)))
     aG)))))),?_⟩
 try dsimp only [bv,Cx.nox,Cx.wish]
 refine ak (s2:=[some v0,some v1,none]) rfl ?_
 obtain ⟨a,name,row,rfl,rfl,hS,hln,hlb,qg,qb⟩:=h
 have lr:(row.map V.int).length=row.length:=List.length_map _
 wtm_at "wp"
 refine aJ (fun c1 => ?_) (fun n1 => ?_)
 ·wtm_at "wp"
  refine ⟨_,rfl,_,rfl,hln,fun y=>⟨(show 1≤100 by decide),qb fun g => ?_⟩⟩
  have:=g.1.1
  omega
 wtm_at "wp"
 refine aJ (fun c2 => ?_) (fun n2 => ?_)
 ·refine ⟨_,rfl,_,rfl,hln,fun y=>⟨(show 1≤100 by decide),qb fun g => ?_⟩⟩
  have:=g.1.2
  omega
 wtm_at "wp"
 rw [lr]
 refine aJ (fun c3 => ?_) (fun n3 => ?_)
 ·refine ⟨_,rfl,(show (8:Int).natAbs.log2 < 1920 by decide),fun y=>⟨(show 1≤100 by decide),qb fun g => ?_⟩⟩
  have:=g.2.1
  omega
 wtm_at "wp"
 refine cW ?_
 wtm_at "wp"
 refine bU (fun i σ H2=>∃ v:Option V,σ=[some (.int name),some (.ref a),v]∧H2=H∧∀ b∈row.take i,0≤b∧b≤255) hS
  ⟨none,rfl,rfl,fun b hb=>by simp at hb⟩ (fun i σ H2 _ ⟨_,_,e,_⟩=>e ▸ hS) ?_ ?_
 ·rintro i y σ H2 hi ⟨v,rfl,rfl,hall⟩
  obtain ⟨b,hb,rfl⟩:=cC hi
  have hmem:b∈row:=List.mem_of_getElem? hb
  wtm_at "wp"
  refine aJ (fun c4 => ?_) (fun n4 => ?_)
  ·wtm_at "wp"
   refine ⟨_,rfl,_,rfl,hlb b hmem,fun y=>⟨(show 1≤100 by decide),qb fun g => ?_⟩⟩
   have:=(g.2.2 b hmem).1
   omega
  wtm_at "wp"
  refine aJ (fun c5 => ?_) (fun n5 => ?_)
  ·refine ⟨_,rfl,_,rfl,hlb b hmem,fun y=>⟨(show 1≤100 by decide),qb fun g => ?_⟩⟩
   have:=(g.2.2 b hmem).2
   omega
  wtm_at "wp"
  refine ⟨_,rfl,rfl,fun z hc => ?_⟩
  obtain ⟨hi',e⟩:=List.getElem?_eq_some_iff.mp hb
  rw [List.take_succ_eq_append_getElem hi'] at hc
  rcases List.mem_append.mp hc with hc | hc
  ·exact hall z hc
  ·rw [List.mem_singleton.mp hc,e]
   omega
 ·rintro σ H2 ⟨v,rfl,rfl,hall⟩
  rw [lr,List.take_of_length_le (Nat.le_refl _)] at hall
  exact qg ⟨by omega,by omega,hall⟩
abbrev tG:Stmt:=(top 24)
abbrev qw (K:PySem.W.Frag) (c:Cs):Sp:=sp2 fun u v H Q E=>∃ (a:Addr) (name:Int) (row:List Int),u = .int name∧v = .ref a∧SqL K H a (row.map V.int)∧name.natAbs.log2 < 1920∧(∀ b∈row,b.natAbs.log2 < 1920) ∧
 (cQ name row→MkL H Q (aE name row))∧(¬ cQ name row→E (.ref c.F) none H)
theorem sc_bits_of:FnScope ["name", "row", "bits", "byte"] ["name", "row"] (ai tG):=aQ
theorem qx (T:Txt K mg c):fI P w K mg base (CXe P w) 3 "bits_of" ["name", "row"] (qw K c):=by
 refine T.d_bits_of.okE sc_bits_of (fun _ _ _ _ _ _ us hl=>match us,hl with | [_,_],_=>rfl) gX (fun f cdv A outer s H vs Q E hr h => ?_)
 obtain ⟨v0,v1,rfl,h⟩:=h
 refine ⟨_,(ae (aC (cj (cK T) hr (nj (E:=E) (fun _ _ _ z=>z)) (aa (pv 0) (aa (pv 1) ac))))
   (ae (az (i:=2) sc_bits_of.nd rfl (.inl rfl) (av c6 (av c6 (bd (aa ag ac)) (cj (eX T) hr aw (aa (pv 0) (aa (pgi T.c_NAME_BITS) ac)))) (cj (eX T) hr aw (aa (ax (aB (K:=K)) rfl T.len PySem.boot_len (aa (pv 1) ac)) (aa (pgi T.c_COUNT_BITS) ac)))))
   (ae (cg PassesOwn.leaving rfl (aO (K:=K) (pv 1)) (bD (i:=3) sc_bits_of.nd rfl (.inl rfl))
    (af (aC (bZ (K:=K) PySem.F.plainAttrs_list PySem.F.slot_list_extend PySem.F.type_list_extend rf (pv 2) (aa (cj (eX T) hr aw (aa (pv 3) (aa (pgi T.c_BYTE_BITS) ac))) ac)))))
   (af (ay (av c6 (pv 2) (cj (jb T) hr aw (aa (pv 2) ac)))))))),?_⟩
 try dsimp only [bv,Cx.nox,Cx.wish]
 refine ak (s2:=[some v0,some v1,none,none]) rfl ?_
 obtain ⟨a,name,row,rfl,rfl,hS,hln,hlb,qg,qb⟩:=h
 have lr:(row.map V.int).length=row.length:=List.length_map _
 wtm_at "wp"
 refine ⟨a,name,row,rfl,rfl,hS,hln,hlb,fun g => ?_,qb⟩
 have qg':=qg g
 have r8:=g.2.1
 wtm_at "wp"
 refine ⟨small (show 1≤1000 by decide),fun p1 hp1 => ?_⟩
 have s1:Same H (upd H p1 (.lst [.int 0])):=ap hp1 _
 wtm_at "wp"
 refine ⟨name,11,rfl,rfl,by decide,fun p2 H2 s2 hp2 e2 => ?_⟩
 refine dJ (by wtm_at "hg") (by wtm_at "hg") (by wtm_at "sm") (fun p3 hp3 => ?_)
 have s3:Same H (upd H2 p3 (.lst ([V.int 0]++(am name 11).map V.int))):=Same.new (s1.trans s2) hp3
 wtm_at "wp"
 rw [lr]
 refine ⟨(row.length:Int),4,rfl,rfl,by decide,fun p4 H4 s4 hp4 e4 => ?_⟩
 refine dJ (by wtm_at "hg") (by wtm_at "hg") (by wtm_at "sm") (fun b hb => ?_)
 have s34:=s3.trans s4
 have hbH:H b=none:=s34.free hb
 have s5:=bT (o := .lst (([V.int 0]++(am name 11).map V.int)++(am (row.length:Int) 4).map V.int)) s34 hbH
 have e5:([V.int 0]++(am name 11).map V.int)++(am (row.length:Int) 4).map V.int=([0]++am name 11++am (row.length:Int) 4++bb (row.take 0)).map V.int:=by
  show _=([0]++am name 11++am (row.length:Int) 4++[]).map V.int
  rw [List.append_nil,List.map_append,List.map_append]
  rfl
 wtm_at "wp"
 refine cW ?_
 wtm_at "wp"
 refine bU (xs:=row.map V.int)
  (fun i σ H6=>∃ v:Option V,σ=[some (.int name),some (.ref a),some (.ref b),v]∧Same H H6∧At H6 b (.lst (([0]++am name 11++am (row.length:Int) 4++bb (row.take i)).map V.int))) (s5.seq hS)
  ⟨none,rfl,s5,by rw [← e5];exact ad⟩ (fun i σ H6 _ ⟨_,_,s6,_⟩=>s6.seq hS) ?_ ?_
 ·rintro i y σ H6 hi ⟨v,rfl,s6,eb⟩
  obtain ⟨z,hz,rfl⟩:=cC hi
  have hil:i < row.length:=(List.getElem?_eq_some_iff.mp hz).1
  wtm_at "wp"
  refine ⟨z,8,rfl,rfl,by decide,fun p7 H7 s7 hp7 e7 => ?_⟩
  refine ⟨b,p7,_,_,rfl,rfl,s7.get eb,e7,?_,?_⟩
  ·rw [List.length_map,List.length_map,ar]
   have:([0]++am name 11++am (row.length:Int) 4++bb (row.take i)).length≤16+8 * row.length:=by
    simp only [List.length_append,ar,dw,List.length_take,List.length_singleton]
    omega
   exact small (by omega)
  ·refine ⟨some (.int z),rfl,bT (s6.trans s7) hbH,?_⟩
   rw [← List.map_append,ix hz]
   simp only [List.append_assoc]
   exact ad
 ·rintro σ H6 ⟨v,rfl,s6,eb⟩
  rw [lr,List.take_of_length_le (Nat.le_refl _)] at eb
  have eb':At H6 b (.lst ((body name row).map V.int)):=eb
  have bl:=eU name row
  wtm_at "wp"
  refine ⟨b,body name row,rfl,At.sqL eb',i5 name row,by rw [bl];omega,fun p8 H8 s8 hp8 e8 => ?_⟩
  refine ⟨b,p8,_,_,rfl,rfl,s8.get eb',e8,?_,fun t ht => ?_⟩
  ·rw [List.length_map,List.length_map,bl,cY]
   exact small (by omega)
  ·have s68:=s6.trans s8
   have htH:H t=none:=s68.free ht
   refine qg' t _ (bT s68 htH) htH ?_
   rw [← List.map_append]
   exact ad
abbrev mh:Stmt:=(top 25)
abbrev kQ (K:PySem.W.Frag) (c:Cs):Sp:=sp1 fun v H Q _=>∃ (a:Addr) (bs:List Int),v = .ref a∧SqL K H a (bs.map V.int)∧bs.length≤900∧CG H Q (due bs)
theorem kR:FnScope ["wire"] ["wire"] (ai mh):=aQ
theorem cy (T:Txt K mg c):fI P w K mg base CX0 1 "is_one_due" ["wire"] (kQ K c):=by
 refine T.d_is_one_due.ok kR (fun _ _ _ _ _ _ us hl=>match us,hl with | [_],_=>rfl) iA (fun f cdv A outer s H vs Q E hr h => ?_)
 obtain ⟨v0,rfl,h⟩:=h
 refine ⟨_,(af (ay (cb (uP (K:=K) hr) (cq (cr (K:=K)) (pv 0) (cc (t6 oE (pgi T.c_MOST_LIKE_BITS))) gY) (ci (aa (av lC (bd (aa ag ac)) (pgi T.c_MOST_LIKE_BITS)) (aa (av lC (bd (aa ag ac)) (pgi T.c_MOST_LIKE_BITS)) ac))) rfl))),?_⟩
 try dsimp only [bv,Cx.nox,Cx.wish]
 refine ak (s2:=[some v0]) rfl ?_
 obtain ⟨a,bs,rfl,hS,hl,q⟩:=h
 wtm_at "wp"
 refine gB hS (Cd bs) (fun p hp => ?_)
 have s0:=ap hp (.lst ((bH bs).map V.int))
 wtm_at "wp"
 refine ⟨small (show 1≤1000 by decide),fun p1 hp1 => ?_⟩
 wtm_at "wp"
 refine lL ad (by decide) (by decide) (small (show 1 * 5≤1000 by decide)) (fun p2 hp2 => ?_)
 rw [zB] at *
 wtm_at "wp"
 refine ⟨small (show 1≤1000 by decide),fun p3 hp3 => ?_⟩
 wtm_at "wp"
 refine lL ad (by decide) (by decide) (small (show 1 * 5≤1000 by decide)) (fun p4 hp4 => ?_)
 rw [zC] at *
 wtm_at "wp"
 refine ⟨small (show 2≤1000 by decide),fun t ht => ?_⟩
 refine ⟨t,p2,p4,_,_,rfl,At.sqT ad,by wtm_at "hn",oS (xs:=[0,0,0,0,0]) (ys:=bH bs) (by wtm_at "hg") (by wtm_at "hg"),oS (xs:=[1,1,1,1,1]) (ys:=bH bs) (by wtm_at "hg") (by wtm_at "hg"),?_⟩
 have ed:(decide (([0,0,0,0,0]:List Int)=bH bs) || decide (([1,1,1,1,1]:List Int)=bH bs))=due bs:=by
  unfold due
  rw [Bool.eq_iff_iff]
  simp only [Bool.or_eq_true,decide_eq_true_eq,beq_iff_eq]
  constructor
  ·rintro (z | z)
   ·exact .inl z.symm
   ·exact .inr z.symm
  ·rintro (z | z)
   ·exact .inl z.symm
   ·exact .inr z.symm
 rw [ed]
 exact q _ (by wtm_at "hs")
abbrev tH:Stmt:=(top 26)
abbrev qy (K:PySem.W.Frag) (c:Cs):Sp:=sp1 fun v H Q _=>∃ (a:Addr) (bs:List Int),v = .ref a∧SqL K H a (bs.map V.int)∧Bits bs∧bs.length≤400∧MkL H Q (aS bs)
theorem sc_stuffed:FnScope ["bits", "wire", "bit"] ["bits"] (ai tH):=aQ
theorem qz (T:Txt K mg c):fI P w K mg base CX0 2 "stuffed" ["bits"] (qy K c):=by
 refine T.d_stuffed.ok sc_stuffed (fun _ _ _ _ _ _ us hl=>match us,hl with | [_],_=>rfl) iA (fun f cdv A outer s H vs Q E hr h => ?_)
 obtain ⟨v0,rfl,h⟩:=h
 refine ⟨_,(ae (az (i:=1) sc_stuffed.nd rfl (.inl rfl) (bd ac))
   (ae (cg PassesOwn.never rfl (aO (K:=K) (pv 0)) (bD (i:=2) sc_stuffed.nd rfl (.inl rfl))
    (ae (aC (bZ (K:=K) PySem.F.plainAttrs_list PySem.F.slot_list_append PySem.F.type_list_append bE (pv 1) (aa (pv 2) ac)))
    (af (bc (dG (cj (cy T) hr aw (aa (pv 1) ac)))
     (af (aC (bZ (K:=K) PySem.F.plainAttrs_list PySem.F.slot_list_append PySem.F.type_list_append bE (pv 1) (aa (av dH ag (pv 2)) ac))))
     aG))))
   (af (ay (pv 1))))),?_⟩
 try dsimp only [bv,Cx.nox,Cx.wish]
 refine ak (s2:=[some v0,none,none]) rfl ?_
 obtain ⟨a,bs,rfl,hS,hb,hl,q⟩:=h
 wtm_at "wp"
 refine ⟨small (show 0≤1000 by decide),fun r hr0 => ?_⟩
 have s1:=ap hr0 (.lst [])
 wtm_at "wp"
 refine cW ?_
 wtm_at "wp"
 refine bU (xs:=bs.map V.int) (fun i σ H2=>∃ v:Option V,σ=[some (.ref a),some (.ref r),v]∧Same H H2∧At H2 r (.lst ((aS (bs.take i)).map V.int))) (s1.seq hS)
  ⟨none,rfl,s1,ad⟩ (fun i σ H2 _ ⟨_,_,s2,_⟩=>s2.seq hS) ?_ ?_
 ·rintro i y σ H2 hi ⟨v,rfl,s2,er⟩
  obtain ⟨b,hbi,rfl⟩:=cC hi
  have hil:i < bs.length:=(List.getElem?_eq_some_iff.mp hbi).1
  have hlen:(aS (bs.take i)).length≤800:=by
   have:=gH (bs.take i)
   rw [List.length_take] at this
   omega
  have hst:aS (bs.take (i+1))=aR (aS (bs.take i)) b:=gD (f:=aR) (a:=([]:List Int)) hbi
  wtm_at "wp"
  refine bF er (bg (by rw [List.length_map];omega)) ?_
  have er2:At (upd H2 r (.lst ((aS (bs.take i)).map V.int++[.int b]))) r (.lst ((aS (bs.take i)++[b]).map V.int)):=by rw [List.map_append];exact ad
  have s3:=bT (o := .lst ((aS (bs.take i)).map V.int++[.int b])) s2 hr0
  wtm_at "wp"
  refine ⟨r,aS (bs.take i)++[b],rfl,At.sqL er2,by rw [List.length_append,List.length_singleton];omega,fun H4 s4 => ?_⟩
  have er4:=s4.get er2
  have s24:=s3.trans s4
  wtm_at "wp"
  refine BU (fun c => ?_) (fun c => ?_)
  ·wtm_at "wp"
   refine bF er4 (bg (by rw [List.length_map,List.length_append,List.length_singleton];omega)) ?_
   refine ⟨some (.int b),rfl,bT s24 hr0,?_⟩
   rw [hst]
   unfold aR
   rw [if_pos c,List.map_append (l₁:=aS (bs.take i)++[b])]
   exact ad
  ·refine ⟨some (.int b),rfl,s24,?_⟩
   rw [hst]
   unfold aR
   rw [if_neg c]
   exact er4
 ·rintro σ H2 ⟨v,rfl,s2,er⟩
  rw [List.length_map,List.take_of_length_le (Nat.le_refl _)] at er
  wtm_at "wp"
  exact q r H2 s2 hr0 er
theorem vL {p:List Int} (h:Bits p):cnt p≤15:=by
 unfold cnt
 rcases aT h 12 with a | a <;> rcases aT h 13 with b | b <;> rcases aT h 14 with c | c <;> rcases aT h 15 with d | d <;> omega
theorem qA (p:List Int) (a b:Nat):(p.take b).drop a=(p.drop a).take (b - a):=List.drop_take
theorem Bs (p:List Int) (a b:Nat):kg (p.map V.int) (some (a:Int)) (some (b:Int))=((p.drop a).take (b - a)).map V.int:=by
 rw [wW,← List.map_take,← List.map_drop,qA]
theorem zD (p:List Int) (b:Nat):kg (p.map V.int) none (some (b:Int))=(p.take b).map V.int:=by rw [vB,List.map_take]
theorem mi {l:List Int} (h:l≠[]):atI (l.map V.int) (-1)=some (.int (l.getLastD 0)):=by
 rcases c8 l with rfl | ⟨m,b,rfl⟩
 ·exact absurd rfl h
 ·rw [List.map_append,dA]
  exact uf _ _
theorem zE {w:List Int} (h:due w=true):w≠[]:=by
 rintro rfl
 exact absurd h (by decide)
abbrev jE:Stmt:=(top 27)
abbrev jc (K:PySem.W.Frag) (c:Cs):Sp:=sp1 fun v H Q _=>∃ (a:Addr) (p:List Int),v = .ref a∧SqL K H a (p.map V.int)∧p.length < 16∧MkT H Q (da p)
theorem jd:FnScope ["plain"] ["plain"] (ai jE):=aQ
theorem je (T:Txt K mg c):fI P w K mg base CX0 1 "head_choices" ["plain"] (jc K c):=by
 refine T.d_head_choices.ok jd (fun _ _ _ _ _ _ us hl=>match us,hl with | [_],_=>rfl) iA (fun f cdv A outer s H vs Q E hr h => ?_)
 obtain ⟨v0,rfl,h⟩:=h
 refine ⟨_,(ae (bc (aq b9 (ax (aB (K:=K)) rfl T.len PySem.boot_len (aa (pv 0) ac)) ag (au _))
    (af (ay (ci (aa ag ac))))
    aG)
   (ae (bc (PW.pt (fH (aq mZ (ax (aB (K:=K)) rfl T.len PySem.boot_len (aa (pv 0) ac)) (pgi T.c_COUNT_AT) (au _)) (dN (aq b9 (aW (aY (K:=K)) (pv 0) (pgi T.c_COUNT_AT) (fun _ _=>rfl)) ag (au _)))))
    (af (ay (ci (aa ag ac))))
    aG)
   (af (ay (ci (aa ag (aa ag ac))))))),?_⟩
 try dsimp only [bv,Cx.nox,Cx.wish]
 refine ak (s2:=[some v0]) rfl ?_
 obtain ⟨a,p,rfl,hS,hl,q⟩:=h
 wtm_at "wp"
 rw [List.length_map]
 refine aJ (fun c1 => ?_) (fun c1 => ?_)
 ·wtm_at "wp"
  refine ⟨small (show 1≤1000 by decide),fun t ht => ?_⟩
  wtm_at "wp"
  refine q t _ (by wtm_at "hs") ht ?_
  rw [show da p=[0] by unfold da;rw [if_pos (by omega)]]
  exact ad
 wtm_at "wp"
 rw [List.length_map]
 have n1:¬ p.length=0:=by omega
 refine aJ (fun c2 => ?_) (fun c2 => ?_)
 ·wtm_at "wp"
  refine bL hS (show atI (p.map V.int) ((12:Nat):Int)=_ from dn (by omega)) ?_
  wtm_at "wp"
  refine aJ (fun c3 => ?_) (fun c3 => ?_)
  ·wtm_at "wp"
   refine ⟨small (show 1≤1000 by decide),fun t ht => ?_⟩
   wtm_at "wp"
   refine q t _ (by wtm_at "hs") ht ?_
   rw [show da p=[0] by unfold da;rw [if_neg n1,if_pos ⟨by omega,c3⟩]]
   exact ad
  ·wtm_at "wp"
   refine ⟨small (show 2≤1000 by decide),fun t ht => ?_⟩
   wtm_at "wp"
   refine q t _ (by wtm_at "hs") ht ?_
   rw [show da p=[0,1] by unfold da;rw [if_neg n1,if_neg (fun z=>c3 z.2)]]
   exact ad
 ·wtm_at "wp"
  refine ⟨small (show 2≤1000 by decide),fun t ht => ?_⟩
  wtm_at "wp"
  refine q t _ (by wtm_at "hs") ht ?_
  rw [show da p=[0,1] by unfold da;rw [if_neg n1,if_neg (fun z=>c2 (by omega))]]
  exact ad
abbrev kS:Stmt:=(top 28)
abbrev jF (K:PySem.W.Frag) (c:Cs):Sp:=sp1 fun v H Q _=>∃ (a:Addr) (p:List Int),v = .ref a∧SqL K H a (p.map V.int)∧16≤p.length∧CF H Q (16+8 * cnt p)
theorem jG:FnScope ["plain"] ["plain"] (ai kS):=aQ
theorem fM (T:Txt K mg c):fI P w K mg base CX0 2 "check_place" ["plain"] (jF K c):=by
 refine T.d_check_place.ok jG (fun _ _ _ _ _ _ us hl=>match us,hl with | [_],_=>rfl) iA (fun f cdv A outer s H vs Q E hr h => ?_)
 obtain ⟨v0,rfl,h⟩:=h
 refine ⟨_,(af (ay (av bA (pgi T.c_ROW_AT) (av gu (pgi T.c_BYTE_BITS) (cj (d4 T) hr aw (aa (cq (cr (K:=K)) (pv 0) (cc (pgi T.c_COUNT_AT)) (cc (pgi T.c_ROW_AT))) ac)))))),?_⟩
 try dsimp only [bv,Cx.nox,Cx.wish]
 refine ak (s2:=[some v0]) rfl ?_
 obtain ⟨a,p,rfl,hS,hl,q⟩:=h
 wtm_at "wp"
 refine gB hS (Bs p 12 16) (fun t ht => ?_)
 wtm_at "wp"
 refine ⟨t,(p.drop 12).take 4,rfl,At.sqL ad,?_⟩
 rw [Ac hl]
 wtm_at "wp"
 exact q _ (by wtm_at "hs")
abbrev jf:Stmt:=(top 29)
abbrev iD (K:PySem.W.Frag) (c:Cs):Sp:=sp1 fun v H Q _=>∃ (a:Addr) (p:List Int),v = .ref a∧SqL K H a (p.map V.int)∧Bits p∧(16≤p.length→p.length≤bC p+15)∧p.length≤200∧MkT H Q (bI p)
theorem sc_plain_choices:FnScope ["plain", "check_at"] ["plain"] (ai jf):=aQ
theorem iE (T:Txt K mg c):fI P w K mg base CX0 3 "plain_choices" ["plain"] (iD K c):=by
 refine T.d_plain_choices.ok sc_plain_choices (fun _ _ _ _ _ _ us hl=>match us,hl with | [_],_=>rfl) iA (fun f cdv A outer s H vs Q E hr h => ?_)
 obtain ⟨v0,rfl,h⟩:=h
 refine ⟨_,(ae (bc (aq kd (ax (aB (K:=K)) rfl T.len PySem.boot_len (aa (pv 0) ac)) (pgi T.c_ROW_AT) (au _))
    (af (ay (cj (je T) hr aw (aa (pv 0) ac))))
    aG)
   (ae (az (i:=1) sc_plain_choices.nd rfl (.inl rfl) (cj (fM T) hr aw (aa (pv 0) ac)))
   (ae (bc (aq kd (ax (aB (K:=K)) rfl T.len PySem.boot_len (aa (pv 0) ac)) (pv 1) (au _))
    (af (ay (ci (aa ag (aa ag ac)))))
    aG)
   (ae (bc (aq b9 (ax (aB (K:=K)) rfl T.len PySem.boot_len (aa (pv 0) ac)) (av bA (pv 1) (pgi T.c_CHECK_BITS)) (au _))
    (af (ay (ci ac)))
    aG)
   (af (ay (ci (aa (aW (aY (K:=K)) (cj (jb T) hr aw (aa (cq (cr (K:=K)) (pv 0) gY (cc (pv 1))) ac)) (av dH (ax (aB (K:=K)) rfl T.len PySem.boot_len (aa (pv 0) ac)) (pv 1)) (fun _ _=>rfl)) ac)))))))),?_⟩
 try dsimp only [bv,Cx.nox,Cx.wish]
 refine ak (s2:=[some v0,none]) rfl ?_
 obtain ⟨a,p,rfl,hS,hb,hk,hl,q⟩:=h
 have c0:=sO hb
 have c15:=vL hb
 have ek:((bC p:Nat):Int)=16+8 * cnt p:=by unfold bC;omega
 wtm_at "wp"
 rw [List.length_map]
 refine aJ (fun c1 => ?_) (fun c1 => ?_)
 ·wtm_at "wp"
  refine ⟨a,p,rfl,hS,by omega,?_⟩
  rw [show bI p=da p by unfold bI;rw [if_pos (by omega)]] at q
  exact q
 have n1:¬ p.length < 16:=by omega
 have hk':=hk (by omega)
 wtm_at "wp"
 refine ⟨a,p,rfl,hS,by omega,fun H1 s1 => ?_⟩
 rw [← ek]
 wtm_at "wp"
 rw [List.length_map]
 refine aJ (fun c2 => ?_) (fun c2 => ?_)
 ·wtm_at "wp"
  refine ⟨small (show 2≤1000 by decide),fun t ht => ?_⟩
  wtm_at "wp"
  refine q t _ (by wtm_at "hs") (by wtm_at "hf") ?_
  rw [show bI p=[0,1] by unfold bI;rw [if_neg n1,if_pos (by omega)]]
  exact ad
 have n2:¬ p.length < bC p:=by omega
 wtm_at "wp"
 rw [List.length_map]
 refine aJ (fun c3 => ?_) (fun c3 => ?_)
 ·wtm_at "wp"
  refine ⟨small (show 0≤1000 by decide),fun t ht => ?_⟩
  wtm_at "wp"
  refine q t _ (by wtm_at "hs") (by wtm_at "hf") ?_
  rw [show bI p=[] by unfold bI;rw [if_neg n1,if_neg n2,if_pos (by omega)]]
  exact ad
 ·wtm_at "wp"
  refine gB (by wtm_at "hg") (zD p (bC p)) (fun t ht => ?_)
  wtm_at "wp"
  refine ⟨t,p.take (bC p),rfl,At.sqL ad,hb.take _,by rw [List.length_take];omega,fun r H2 s2 hr2 e2 => ?_⟩
  wtm_at "wp"
  rw [List.length_map]
  have hlt:p.length - bC p < (chk (p.take (bC p))).length:=by rw [cY];omega
  refine bL (by wtm_at "hg") (show atI _ ((p.length:Int) - (bC p:Int))=_ by rw [show (p.length:Int) - (bC p:Int)=((p.length - bC p:Nat):Int) by omega];exact dn hlt) ?_
  wtm_at "wp"
  refine ⟨small (show 1≤1000 by decide),fun u hu => ?_⟩
  wtm_at "wp"
  have s12:Same H H2:=s1.trans ((ap ht _).trans s2)
  refine q u _ (Same.new s12 hu) (s12.fr hu) ?_
  rw [show bI p=[(chk (p.take (bC p))).getD (p.length - bC p) 0] by unfold bI;rw [if_neg n1,if_neg n2,if_neg (by omega)]]
  exact ad
abbrev iF:Stmt:=(top 30)
abbrev hW (K:PySem.W.Frag) (c:Cs):Sp:=sp2 fun u v H Q _=>∃ (a b:Addr) (ws p:List Int),u = .ref a∧v = .ref b∧SqL K H a (ws.map V.int)∧SqL K H b (p.map V.int)∧Bits p∧(16≤p.length→p.length≤bC p+15)∧p.length≤200∧ws.length≤900∧MkT H Q (aF ws p)
theorem hZ:FnScope ["wire", "plain"] ["wire", "plain"] (ai iF):=aQ
theorem dj (T:Txt K mg c):fI P w K mg base CX0 4 "choices_behind" ["wire", "plain"] (hW K c):=by
 refine T.d_choices_behind.ok hZ (fun _ _ _ _ _ _ us hl=>match us,hl with | [_,_],_=>rfl) gX (fun f cdv A outer s H vs Q E hr h => ?_)
 obtain ⟨v0,v1,rfl,h⟩:=h
 refine ⟨_,(ae (bc (dG (cj (cy T) hr aw (aa (pv 0) ac)))
    (af (ay (ci (aa (av dH ag (aW (aY (K:=K)) (pv 0) (t6 oE ag) (fun _ _=>rfl))) ac))))
    aG)
   (af (ay (cj (iE T) hr aw (aa (pv 1) ac))))),?_⟩
 try dsimp only [bv,Cx.nox,Cx.wish]
 refine ak (s2:=[some v0,some v1]) rfl ?_
 obtain ⟨a,b,ws,p,rfl,rfl,hA,hB,hb,hk,hl,hw,q⟩:=h
 wtm_at "wp"
 refine ⟨a,ws,rfl,hA,hw,fun H1 s1 => ?_⟩
 wtm_at "wp"
 refine BU (fun c1 => ?_) (fun c1 => ?_)
 ·wtm_at "wp"
  refine bL (by wtm_at "hg") (mi (zE c1)) ?_
  wtm_at "wp"
  refine ⟨small (show 1≤1000 by decide),fun t ht => ?_⟩
  wtm_at "wp"
  refine q t _ (by wtm_at "hs") (by wtm_at "hf") ?_
  rw [show aF ws p=[1 - ws.getLastD 0] by unfold aF;rw [if_pos c1]]
  exact ad
 ·wtm_at "wp"
  refine ⟨b,p,rfl,by wtm_at "hg",hb,hk,hl,fun t H2 s2 ht e2 => ?_⟩
  refine q t _ (s1.trans s2) (by wtm_at "hf") ?_
  rw [show aF ws p=bI p by unfold aF;rw [if_neg c1]]
  exact e2
abbrev qB:Stmt:=(top 31)
abbrev nQ (K:PySem.W.Frag) (c:Cs):Sp:=sp1 fun v H Q _=>∃ (a:Addr) (p:List Int),v = .ref a∧SqL K H a (p.map V.int)∧16≤p.length∧Bits p∧(∀ t r o H',Same H H'→aI H t→aI H r→At H' t (.tup [.int (dL p),.ref r])→At H' r (.frz o (.lst ((jD p).map V.int)))→Q (.ref t) H')
theorem sc_parts_of:FnScope ["plain", "name", "row"] ["plain"] (ai qB):=aQ
theorem nR (T:Txt K mg c):fI P w K mg base CX0 3 "parts_of" ["plain"] (nQ K c):=by
 refine T.d_parts_of.ok sc_parts_of (fun _ _ _ _ _ _ us hl=>match us,hl with | [_],_=>rfl) iA (fun f cdv A outer s H vs Q E hr h => ?_)
 obtain ⟨v0,rfl,h⟩:=h
 refine ⟨_,(ae (az (i:=1) sc_parts_of.nd rfl (by first | exact Or.inl rfl | exact Or.inr rfl) (cj (d4 T) hr aw (aa (cq (cr (K:=K)) (pv 0) (cc (pgi T.c_NAME_AT)) (cc (pgi T.c_COUNT_AT))) ac)))
   (ae (rQ (i:=2) (fv:=["plain"]) (js:=[0]) sc_parts_of.nd rfl (by first | exact Or.inl rfl | exact Or.inr rfl) (rN rfl T.range (aa (pgi T.c_ROW_AT) (aa (cj (fM T) hr aw (aa (pv 0) ac)) (aa (pgi T.c_BYTE_BITS) ac))))  (fun fp s H=>(cj (d4 T) hr aw (aa (cq (cr (K:=K)) (pv 0) (cc (pv 1)) (cc (av bA (pv 1) (pgi T.c_BYTE_BITS)))) ac))))
   (af (ay (ci (aa (pv 1) (aa (oU (pv 2)) ac))))))),?_⟩
 try dsimp only [bv,Cx.nox,Cx.wish]
 refine ak (s2:=[some v0,none,none]) rfl ?_
 obtain ⟨a,p,rfl,hS,hl,hb,q⟩:=h
 have c0:=sO hb
 have c15:=vL hb
 wtm_at "wp"
 refine gB hS (Bs p 1 12) (fun t ht => ?_)
 wtm_at "wp"
 refine ⟨t,(p.drop 1).take 11,rfl,At.sqL ad,?_⟩
 wtm_at "wp"
 refine uO ?_
 wtm_at "wp"
 refine ⟨a,p,rfl,by wtm_at "hg",hl,fun H1 s1 => ?_⟩
 wtm_at "wp"
 have s01:Same H H1:=(ap ht _).trans s1
 refine rP (cnt p).toNat (fun j => .int (cv ((p.drop (16+8 * j)).take 8))) (by decide) (by omega) (by omega) (fun k H' R hk s2 hR => ?_) (fun D Hf s2 hD e => ?_)
 ·show qU _ _ _ _ [some (.ref a),some (.int (16+(k:Nat) * 8))] _ _
  wtm_at "wp"
  refine gB (s2.seq (s01.seq hS)) (show kg (p.map V.int) _ _=((p.drop (16+8 * k)).take 8).map V.int by
   rw [show (16:Int)+(k:Nat) * 8=((16+8 * k:Nat):Int) by omega,show ((16+8 * k:Nat):Int)+8=((16+8 * k+8:Nat):Int) by omega,Bs]
   congr 2
   omega) (fun u hu => ?_)
  wtm_at "wp"
  exact ⟨u,_,rfl,At.sqL ad,hR _ (ap hu _)⟩
 have eD:At Hf D (.lst ((jD p).map V.int)):=by
  unfold jD
  rw [List.map_map]
  exact e
 have s02:Same H Hf:=s01.trans s2
 have hDH:aI H D:=s01.fr hD
 wtm_at "wp"
 refine kB eD (fun o => ?_)
 wtm_at "wp"
 refine ⟨small (show 2≤1000 by decide),fun u hu => ?_⟩
 wtm_at "wp"
 have s3:Same H (upd Hf D (.frz o (.lst ((jD p).map V.int)))):=s02.upF hDH
 exact q u D o _ (s3.new hu) (s3.fr hu) hDH ad (aA hu ad)
structure RdAt (c:Cs) (H:Hp) (r w p:Addr) (ws ps:List Int):Prop where
 ob:∃ dx ch,At H r (.ins c.R dx (rdF (.ref w) (.ref p) (.ref ch)))∧At H ch (.tup ((aF ws ps).map V.int))
 wr:At H w (.lst (ws.map V.int))
 pl:At H p (.lst (ps.map V.int))
 ne:w≠p
theorem Chg.made {x dx:Addr} {H H':Hp} {o o':HO} (hx:aI H x) (hd:aI H dx) (h:Chg [x] (upd (upd H dx o) x o') H'):Same H H':=fun b u e=>by
 refine h b u (aK (aH e hx)) ?_
 exact aP (aH e hx) (aP (aH e hd) e)
theorem Rd.plen {w p:List Int} (r:Rd w p):p.length≤95:=by
 have h1:=r.fit.len
 have h2:=r.fit.h8
 unfold bC at h1
 omega
theorem Rd.wlen {w p:List Int} (r:Rd w p):w.length≤190:=by
 have h1:=r.plen
 have h2:=gH p
 rw [r.st] at h2
 split at h2
 ·rw [List.length_append] at h2
  omega
 ·omega
theorem tI {K:PySem.W.Frag} {H:Hp} {a b:Addr} {xs:List V} (ha:SqT K H a xs) (hb:SqT K H b []):RcK K H 8 (.ref a) (.ref b) (xs.isEmpty):=fun X e=>by
 subst e
 have:=rs (X:=X) (H:=H) (n:=7) (e:=fun _=>true) ha hb (fun j x y _ h=>by simp at h)
 have e:((List.range (min xs.length ([]:List V).length)).all (fun _=>true) && xs.length == ([]:List V).length)=xs.isEmpty:=by
  cases xs <;> simp
 rw [e] at this
 exact this
theorem tJ (l:List Int):(l.map V.int).isEmpty=decide (l=[]):=by cases l <;> simp
abbrev gJ:Stmt:=(aj (top 32) 0)
abbrev fV (K:PySem.W.Frag) (c:Cs):Sp:=sp1 fun v H Q _=>∃ x dx,v = .ref x∧At H x (.ins c.R dx [])∧(∀ H' w p,Chg [x] H H'→aI H w→aI H p→RdAt c H' x w p [] []→Q .non H')
theorem fX:FnScope ["self"] ["self"] (ai gJ):=aQ
theorem cL (T:Txt K mg c):xP P w K mg base CX0 5 c.R ["self"] (fV K c):=by
 refine T.d_Reading___init__.ok fX (fun _ _ _ _ _ _ us hl=>match us,hl with | [_],_=>rfl) iA (fun f cdv A outer s H vs Q E hr h => ?_)
 obtain ⟨v0,rfl,h⟩:=h
 refine ⟨_,(ae (bq (K:=K) (pv 0) (bd ac))
   (ae (bq (K:=K) (pv 0) (bd ac))
   (af (bq (K:=K) (pv 0) (cj (dj T) hr aw (aa (bd ac) (aa (bd ac) ac))))))),?_⟩
 try dsimp only [bv,Cx.nox,Cx.wish]
 refine ak (s2:=[some v0]) rfl ?_
 obtain ⟨x,dx,rfl,ex,q⟩:=h
 wtm_at "wp"
 refine ⟨small (show 0≤1000 by decide),fun w hw => ?_⟩
 have nxw:x≠w:=by wtm_at "hn"
 wtm_at "wp"
 refine ⟨small (show 0≤1000 by decide),fun p hp => ?_⟩
 have nxp:x≠p:=aD hp ad
 have nwp:w≠p:=aD hp (by wtm_at "hg")
 wtm_at "wp"
 refine ⟨small (show 0≤1000 by decide),fun y1 hy1 => ?_⟩
 have nx1:x≠y1:=aD hy1 ad
 have np1:p≠y1:=aD hy1 (by wtm_at "hg")
 have nw1:w≠y1:=aD hy1 (by wtm_at "hg")
 wtm_at "wp"
 refine ⟨small (show 0≤1000 by decide),fun y2 hy2 => ?_⟩
 have nx2:x≠y2:=aD hy2 (by wtm_at "hg")
 have np2:p≠y2:=aD hy2 (by wtm_at "hg")
 have nw2:w≠y2:=aD hy2 (by wtm_at "hg")
 wtm_at "wp"
 refine ⟨y1,y2,[],[],rfl,rfl,by show SqL K _ _ [];wtm_at "hg",by show SqL K _ _ [];wtm_at "hg",Bits.nil,fun z=>by simp at z,by decide,by decide,fun ch H1 s1 hc ec => ?_⟩
 have nxc:x≠ch:=aD hc (by wtm_at "hg")
 wtm_at "wp"
 have hpH:aI H p:=by wtm_at "hf"
 refine q _ w p ?_ hw hpH ⟨⟨dx,ch,ad,by wtm_at "hg"⟩,by show At _ w (.lst []);wtm_at "hg",by show At _ p (.lst []);wtm_at "hg",nwp⟩
 wtm_at "hc"
abbrev jH:Stmt:=(aj (top 32) 1)
abbrev jg (K:PySem.W.Frag) (c:Cs):Sp:=sp2 fun u v H Q _=>∃ (r w p:Addr) (ws ps:List Int) (b:Int),u = .ref r∧v = .int b∧RdAt c H r w p ws ps∧Rd ws ps∧Bit b∧b∈aF ws ps∧(∀ H',Chg [r,w,p] H H'→RdAt c H' r w p (ws++[b]) (cO ws ps b)→Q .non H')
theorem jh:FnScope ["self", "bit"] ["self", "bit"] (ai jH):=aQ
theorem ji (T:Txt K mg c):fR P w K mg base CX0 5 c.R "take" ["self", "bit"] (jg K c):=by
 refine T.d_Reading_take.ok jh (fun _ _ _ _ _ _ us hl=>match us,hl with | [_,_],_=>rfl) gX (fun f cdv A outer s H vs Q E hr h => ?_)
 obtain ⟨v0,v1,rfl,h⟩:=h
 refine ⟨_,(ae (bc (qL (dG (cj (cy T) hr aw (aa (ao (K:=K) (pv 0)) ac))))
    (af (aC (bZ (K:=K) PySem.F.plainAttrs_list PySem.F.slot_list_append PySem.F.type_list_append bE (ao (K:=K) (pv 0)) (aa (pv 1) ac))))
    aG)
   (ae (aC (bZ (K:=K) PySem.F.plainAttrs_list PySem.F.slot_list_append PySem.F.type_list_append bE (ao (K:=K) (pv 0)) (aa (pv 1) ac)))
   (af (bq (K:=K) (pv 0) (cj (dj T) hr aw (aa (ao (K:=K) (pv 0)) (aa (ao (K:=K) (pv 0)) ac))))))),?_⟩
 try dsimp only [bv,Cx.nox,Cx.wish]
 refine ak (s2:=[some v0,some v1]) rfl ?_
 obtain ⟨r,w,p,ws,ps,b,rfl,rfl,⟨⟨dx,ch,er,ec⟩,ew,ep,nwp⟩,rd,hb,hc,q⟩:=h
 have nrw:r≠w:=er.ne ew (by intro z;cases z)
 have nrp:r≠p:=er.ne ep (by intro z;cases z)
 have ncw:ch≠w:=ec.ne ew (by intro z;cases z)
 have ncp:ch≠p:=ec.ne ep (by intro z;cases z)
 have ncr:ch≠r:=ec.ne er (by intro z;cases z)
 have rn:=rd.next hb hc
 have l1:=rd.wlen
 have l2:=rd.plen
 have l3:=rn.wlen
 have l4:=rn.plen
 have l5:=rn.fit.len
 have fin:∀ H1 H2,Chg [r,w,p] H H1→At H1 r (.ins c.R dx (rdF (.ref w) (.ref p) (.ref ch)))→At H1 w (.lst (ws.map V.int++[.int b]))→At H1 p (.lst ((cO ws ps b).map V.int)) →
   ∀ c2,Same H1 H2→aI H1 c2→At H2 c2 (.tup ((aF (ws++[b]) (cO ws ps b)).map V.int))→Q .non (upd H2 r (.ins c.R dx (rdF (.ref w) (.ref p) (.ref c2)))):=fun H1 H2 k1 e1 e2 e3 c2 s2 f2 e4=>by
  have nc2:c2≠r:=Ne.symm (aD f2 e1)
  refine q _ ((k1.trans s2.chg).upd (by simp)) ⟨⟨dx,c2,ad,by wtm_at "hg"⟩,?_,by wtm_at "hg",nwp⟩
  rw [List.map_append]
  exact aP (Ne.symm nrw) (s2.get e2)
 wtm_at "wp"
 refine ⟨w,ws,rfl,by wtm_at "hg",by omega,fun H1 s1 => ?_⟩
 wtm_at "wp"
 cases hd:due ws with
 | true=>
  have en:cO ws ps b=ps:=by unfold cO;rw [if_pos hd]
  rw [en] at fin
  wtm_at "wp"
  refine bF (s1.get ew) (bg (by rw [List.length_map];omega)) ?_
  wtm_at "wp"
  refine ⟨w,p,ws++[b],ps,rfl,rfl,?_,by wtm_at "hg",rd.bp,fun _=>rd.fit.len,by omega,by omega,fun c2 H2 s2 f2 e2 => ?_⟩
  ·rw [List.map_append];exact At.sqL ad
  wtm_at "wp"
  exact fin _ _ ((Same.chg s1).upd (by simp)) (by wtm_at "hg") ad (by wtm_at "hg") c2 s2 f2 e2
 | false=>
  have en:cO ws ps b=ps++[b]:=by unfold cO;rw [if_neg (by rw [hd];decide)]
  rw [en] at fin l4 l5
  wtm_at "wp"
  refine bF (s1.get ep) (bg (by rw [List.length_map];omega)) ?_
  wtm_at "wp"
  refine bF (aP nwp (s1.get ew)) (bg (by rw [List.length_map];omega)) ?_
  wtm_at "wp"
  refine ⟨w,p,ws++[b],ps++[b],rfl,rfl,?_,?_,?_,?_,by omega,by rw [List.length_append,List.length_singleton];omega,fun c2 H2 s2 f2 e2 => ?_⟩
  ·rw [List.map_append];exact At.sqL ad
  ·rw [List.map_append];exact At.sqL (aP (Ne.symm nwp) ad)
  ·rw [← en];exact rn.bp
  ·intro _
   rw [← en]
   rw [← en] at l5
   exact rn.fit.len
  wtm_at "wp"
  refine fin _ _ (((Same.chg s1).upd (by simp)).upd (by simp)) (by wtm_at "hg") ad ?_ c2 s2 f2 e2
  rw [List.map_append];exact aP (Ne.symm nwp) ad
abbrev ia:Stmt:=(aj (top 32) 2)
abbrev gK (K:PySem.W.Frag) (c:Cs):Sp:=sp1 fun u H Q _=>∃ (r w p:Addr) (ws ps:List Int),u = .ref r∧RdAt c H r w p ws ps∧(∀ H',Same H H'→Q (.bl (decide (aF ws ps=[]))) H')
theorem gL:FnScope ["self"] ["self"] (ai ia):=aQ
theorem cS (T:Txt K mg c):fR P w K mg base CX0 1 c.R "is_over" ["self"] (gK K c):=by
 refine T.d_Reading_is_over.ok gL (fun _ _ _ _ _ _ us hl=>match us,hl with | [_],_=>rfl) iA (fun f cdv A outer s H vs Q E hr h => ?_)
 obtain ⟨v0,rfl,h⟩:=h
 refine ⟨_,(af (ay (cb (rS (K:=K) hr) (ao (K:=K) (pv 0)) (ci ac) (au _)))),?_⟩
 try dsimp only [bv,Cx.nox,Cx.wish]
 refine ak (s2:=[some v0]) rfl ?_
 obtain ⟨r,w,p,ws,ps,rfl,⟨⟨dx,ch,er,ec⟩,ew,ep,nwp⟩,q⟩:=h
 wtm_at "wp"
 refine ⟨small (show 0≤1000 by decide),fun t ht => ?_⟩
 refine ⟨_,tI (xs:=(aF ws ps).map V.int) (by wtm_at "hg") (by wtm_at "hg"),?_⟩
 rw [tJ]
 wtm_at "wp"
 exact q _ (ap ht _)
abbrev fe:Stmt:=(aj (top 32) 3)
abbrev d6 (K:PySem.W.Frag) (c:Cs):Sp:=sp1 fun u H Q _=>∃ (r w p:Addr) (ws ps:List Int),u = .ref r∧RdAt c H r w p ws ps∧Rd ws ps∧(∀ H',Same H H'→Q (.bl (!due ws && decide (1≤ps.length) && decide (ps.length < 12))) H')
theorem d7:FnScope ["self"] ["self"] (ai fe):=aQ
theorem d8 (T:Txt K mg c):fR P w K mg base CX0 2 c.R "is_at_name" ["self"] (d6 K c):=by
 refine T.d_Reading_is_at_name.ok d7 (fun _ _ _ _ _ _ us hl=>match us,hl with | [_],_=>rfl) iA (fun f cdv A outer s H vs Q E hr h => ?_)
 obtain ⟨v0,rfl,h⟩:=h
 refine ⟨_,(ae (bc (dG (cj (cy T) hr aw (aa (ao (K:=K) (pv 0)) ac)))
    (af (ay qK))
    aG)
   (af (ay (oA (cb t7 (ax (aB (K:=K)) rfl T.len PySem.boot_len (aa (ao (K:=K) (pv 0)) ac)) (pgi T.c_NAME_AT) (au _)) (oz (cb kd (ax (aB (K:=K)) rfl T.len PySem.boot_len (aa (ao (K:=K) (pv 0)) ac)) (pgi T.c_COUNT_AT) (au _))))))),?_⟩
 try dsimp only [bv,Cx.nox,Cx.wish]
 refine ak (s2:=[some v0]) rfl ?_
 obtain ⟨r,w,p,ws,ps,rfl,⟨⟨dx,ch,er,ec⟩,ew,ep,nwp⟩,rd,q⟩:=h
 have l1:=rd.wlen
 wtm_at "wp"
 refine ⟨w,ws,rfl,by wtm_at "hg",by omega,fun H1 s1 => ?_⟩
 wtm_at "wp"
 cases hd:due ws with
 | true=>
  rw [hd] at q
  wtm_at "wp"
  exact q _ s1
 | false=>
  rw [hd] at q
  wtm_at "wp"
  rw [List.length_map]
  refine aJ (fun c1 => ?_) (fun c1 => ?_)
  ·wtm_at "wp"
   rw [List.length_map]
   have:=q _ s1
   rw [show decide (1≤ps.length)=true from decide_eq_true (by omega)] at this
   rw [show decide ((ps.length:Int) < 12)=decide (ps.length < 12) from decide_eq_decide.mpr ⟨fun z=>by omega,fun z=>by omega⟩]
   exact this
  ·have:=q _ s1
   rw [show decide (1≤ps.length)=false from decide_eq_false (by omega)] at this
   exact this
def Md.str:Md→Str
 | .free => "free"
 | .frame => "frame"
 | .cry => "cry"
 | .dazed => "dazed"
 | .rest => "rest"
theorem md_inj {a b:Md}:(a.str=b.str)↔a=b:=by
 cases a <;> cases b <;> simp [Md.str] <;> decide
def Im:HO→Prop
 | .tup _=>True
 | .frz _ _=>True
 | _=>False
structure Kp (S:List Addr) (H H':Hp):Prop where
 ot:∀ b o,b∉S→H b=some o→H' b=some o
 im:∀ b o,Im o→H b=some o→H' b=some o
theorem Kp.refl (S:List Addr) (H:Hp):Kp S H H:=⟨fun _ _ _ h=>h,fun _ _ _ h=>h⟩
theorem Kp.trans {S:List Addr} {H H1 H2:Hp} (a:Kp S H H1) (b:Kp S H1 H2):Kp S H H2:=⟨fun x o n h=>b.ot x o n (a.ot x o n h),fun x o n h=>b.im x o n (a.im x o n h)⟩
theorem Kp.mono {S S':List Addr} {H H':Hp} (a:Kp S H H') (h:∀ x∈S,x∈S'):Kp S' H H':=⟨fun x o n e=>a.ot x o (fun z=>n (h x z)) e,a.im⟩
theorem Same.kp {S:List Addr} {H H':Hp} (s:Same H H'):Kp S H H':=⟨fun x o _ h=>s x o h,fun x o _ h=>s x o h⟩
theorem Kp.upd {S:List Addr} {H H':Hp} {p:Addr} {o x:HO} (s:Kp S H H') (hp:p∈S) (e:At H' p x) (hx:¬ Im x):Kp S H (upd H' p o):=by
 refine ⟨fun b u n h=>aP (fun z=>n (z ▸ hp)) (s.ot b u n h),fun b u i h => ?_⟩
 have h':=s.im b u i h
 refine aP (fun z => ?_) h'
 subst z
 rw [e] at h'
 cases h'
 exact hx i
theorem Kp.new {S:List Addr} {H H':Hp} {p:Addr} {o:HO} (s:Kp S H H') (hp:aI H' p):Kp S H (L2.upd H' p o):=⟨fun b u n h=>aA hp (s.ot b u n h),fun b u i h=>aA hp (s.im b u i h)⟩
theorem Kp.get {S:List Addr} {H H':Hp} {a:Addr} {o:HO} (s:Kp S H H') (n:a∉S) (h:At H a o):At H' a o:=s.ot a o n h
theorem Kp.tup {S:List Addr} {H H':Hp} {a:Addr} {xs:List V} (s:Kp S H H') (h:At H a (.tup xs)):At H' a (.tup xs):=s.im a _ trivial h
theorem Kp.frz {S:List Addr} {H H':Hp} {a:Addr} {o:Obj} {u:HO} (s:Kp S H H') (h:At H a (.frz o u)):At H' a (.frz o u):=s.im a _ trivial h
theorem Kp.fr {S:List Addr} {H H':Hp} {p:Addr} (s:Kp S H H') (n:p∉S) (h:aI H' p):aI H p:=by
 cases q:H p with
 | none=>exact q
 | some o=>
  have:=s.ot p o n q
  rw [h] at this
  cases this
theorem Chg.kp {n:Addr} {H H':Hp} {x:HO} {S:List Addr} (s:Chg [n] H H') (hn:n∈S) (e:At H n x) (hx:¬ Im x):Kp S H H':=
 ⟨fun b o h q=>s b o (aK fun z=>h (z ▸ hn)) q,fun b o i q=>s b o (aK fun z=>by subst z;rw [e] at q;cases q;exact hx i) q⟩
def FrAt (H:Hp) (v:V) (f:Fr):Prop:=∃ t r o,v = .ref t∧At H t (.tup [.int f.1,.ref r])∧At H r (.frz o (.lst (f.2.map V.int)))
def Frs (H:Hp):List V→List Fr→Prop:=Paired (FrAt H)
theorem FrAt.kp {S:List Addr} {H H':Hp} {v:V} {f:Fr} (h:FrAt H v f) (s:Kp S H H'):FrAt H' v f:=by
 obtain ⟨t,r,o,e,a,b⟩:=h
 exact ⟨t,r,o,e,s.tup a,s.frz b⟩
theorem Frs.kp {S:List Addr} {H H':Hp} {vs:List V} {fs:List Fr} (h:Frs H vs fs) (s:Kp S H H'):Frs H' vs fs:=Paired.mapP h fun _ _ z=>z.kp s
theorem Frs.len {H:Hp} {vs:List V} {fs:List Fr} (h:Frs H vs fs):vs.length=fs.length:=Paired.length h
theorem fO {α β:Type} {R:α→β→Prop}:∀ {a b:List α} {c d:List β},Paired R a c→Paired R b d→Paired R (a++b) (c++d)
 | _,_,_,_,.nil,h=>h
 | _,_,_,_,.cons r t,h => .cons r (fO t h)
theorem tK {α β:Type} {R:α→β→Prop}:∀ {a:List α} {c:List β} (k:Nat),Paired R a c→Paired R (a.take k) (c.take k)
 | _,_,0,_ => .nil
 | _,_,_+1,.nil => .nil
 | _,_,k+1,.cons r t => .cons r (tK k t)
theorem tL {α β:Type} {R:α→β→Prop}:∀ {a:List α} {c:List β} (k:Nat),Paired R a c→Paired R (a.drop k) (c.drop k)
 | _,_,0,h=>h
 | _,_,_+1,.nil => .nil
 | _,_,k+1,.cons _ t=>tL k t
theorem pC {α β:Type} {R:α→β→Prop}:∀ {a:List α} {c:List β} (k:Nat),Paired R a c→Paired R (a.eraseIdx k) (c.eraseIdx k)
 | _,_,_,.nil => .nil
 | _,_,0,.cons _ t=>t
 | _,_,k+1,.cons r t => .cons r (pC k t)
theorem cT {α β:Type} {R:α→β→Prop}:∀ {a:List α} {c:List β} {k:Nat} {x:α},Paired R a c→a[k]? = some x→∃ y,c[k]? = some y∧R x y
 | _,_,_,_,.nil,h=>by simp at h
 | _,_,0,_,.cons r _,h=>by
  simp at h
  subst h
  exact ⟨_,rfl,r⟩
 | _,_,k+1,_,.cons _ t,h=>by
  obtain ⟨y,h1,h2⟩:=cT (k:=k) t (by simpa using h)
  exact ⟨y,by simpa using h1,h2⟩
theorem tM {α β:Type} {R:α→β→Prop}:∀ {a:List α} {c:List β} {k:Nat} {y:β},Paired R a c→c[k]? = some y→∃ x,a[k]? = some x∧R x y
 | _,_,_,_,.nil,h=>by simp at h
 | _,_,0,_,.cons r _,h=>by
  simp at h
  subst h
  exact ⟨_,rfl,r⟩
 | _,_,k+1,_,.cons _ t,h=>by
  obtain ⟨y,h1,h2⟩:=tM (k:=k) t (by simpa using h)
  exact ⟨y,by simpa using h1,h2⟩
structure NA where
 r:Addr
 w:Addr
 p:Addr
 q:Addr
 t:Addr
def fpN (n:Addr) (A:NA):List Addr:=[n,A.r,A.w,A.p,A.q,A.t]
def SnAt (H:Hp) (v:V):Option (List Int)→Prop
 | none=>v = .non
 | some s=>∃ a o,v = .ref a∧At H a (.frz o (.lst (s.map V.int)))
theorem SnAt.kp {S:List Addr} {H H':Hp} {v:V} {sn:Option (List Int)} (h:SnAt H v sn) (s:Kp S H H'):SnAt H' v sn:=by
 cases sn with
 | none=>exact h
 | some l=>
  obtain ⟨a,o,e,b⟩:=h
  exact ⟨a,o,e,s.frz b⟩
structure NdAt (c:Cs) (H:Hp) (n:Addr) (A:NA) (d:Nd):Prop where
 ob:∃ dx sv,At H n (.ins c.D dx (ndF (.str d.st.str) (.int (d.ps:Nat)) (.ref A.r) sv (.ref A.q) (.ref A.t) (.int (d.fc:Nat))))∧SnAt H sv d.sn
 rd:RdAt c H A.r A.w A.p d.ws d.pl
 qu:∃ vs,At H A.q (.lst vs)∧Frs H vs d.qu
 tk:∃ vs,At H A.t (.lst vs)∧Frs H vs d.tk
 nd:(fpN n A).Nodup
theorem RdAt.kp {c:Cs} {S:List Addr} {H H':Hp} {r w p:Addr} {ws ps:List Int} (h:RdAt c H r w p ws ps) (s:Kp S H H') (hr:r∉S) (hw:w∉S) (hp:p∉S):RdAt c H' r w p ws ps:=by
 obtain ⟨⟨dx,ch,a,b⟩,d,e,f⟩:=h
 exact ⟨⟨dx,ch,s.get hr a,s.tup b⟩,s.get hw d,s.get hp e,f⟩
theorem NdAt.kp {c:Cs} {S:List Addr} {H H':Hp} {n:Addr} {A:NA} {d:Nd} (h:NdAt c H n A d) (s:Kp S H H') (hd:∀ x∈fpN n A,x∉S):NdAt c H' n A d:=by
 obtain ⟨⟨dx,sv,a,b⟩,r,⟨q,e,f⟩,⟨t,i,j⟩,k⟩:=h
 have m:∀ x∈fpN n A,x∉S:=hd
 simp only [fpN,List.mem_cons,List.not_mem_nil,or_false,forall_eq_or_imp,forall_eq] at m
 obtain ⟨m1,m2,m3,m4,m5,m6⟩:=m
 exact ⟨⟨dx,sv,s.get m1 a,b.kp s⟩,r.kp s m2 m3 m4,⟨q,s.get m5 e,f.kp s⟩,⟨t,s.get m6 i,j.kp s⟩,k⟩
theorem NdAt.same {c:Cs} {H H':Hp} {n:Addr} {A:NA} {d:Nd} (h:NdAt c H n A d) (s:Same H H'):NdAt c H' n A d:=h.kp (S:=[]) (Same.kp s) (fun _ _ z=>by cases z)
theorem NdAt.re {c:Cs} {H H':Hp} {n:Addr} {A:NA} {d:Nd} (h:NdAt c H n A d) (s:Chg [n] H H') {d':Nd} {dx:Addr} {sv:V} (e:At H' n (.ins c.D dx (ndF (.str d'.st.str) (.int (d'.ps:Nat)) (.ref A.r) sv (.ref A.q) (.ref A.t) (.int (d'.fc:Nat)))))
  (es:SnAt H' sv d'.sn) (e1:d'.ws=d.ws) (e2:d'.pl=d.pl) (e3:d'.qu=d.qu) (e4:d'.tk=d.tk):NdAt c H' n A d':=by
 obtain ⟨⟨dx0,sv0,a,b⟩,r,⟨q,f,g⟩,⟨t,i,j⟩,k⟩:=h
 have kk:Kp [n] H H':=Chg.kp s (by simp) a (fun z=>z)
 have nd:=k
 simp only [fpN,List.nodup_cons,List.mem_cons,List.not_mem_nil,or_false,not_or] at nd
 obtain ⟨⟨n1,n2,n3,n4,n5⟩,_⟩:=nd
 refine ⟨⟨dx,sv,e,es⟩,?_,⟨q,kk.get (aK (Ne.symm n4)) f,by rw [e3];exact g.kp kk⟩,⟨t,kk.get (aK (Ne.symm n5)) i,by rw [e4];exact j.kp kk⟩,k⟩
 rw [e1,e2]
 exact r.kp kk (aK (Ne.symm n1)) (aK (Ne.symm n2)) (aK (Ne.symm n3))
def Post (c:Cs) (H:Hp) (n:Addr) (A:NA) (d':Nd) (Q:VK):Prop:=∀ H' A',Kp (fpN n A) H H'→NdAt c H' n A' d'→(∀ x∈fpN n A',x∈fpN n A∨aI H x)→Q .non H'
theorem b6 {n:Int} (h0 : -1≤n) (h1:n≤1000000):n.natAbs.log2 < 1920:=by
 have h:n.natAbs < 2 ^ 20:=by
  have:(2:Nat) ^ 20=1048576:=by decide
  omega
 have:n.natAbs.log2 < 20:=by
  rcases Nat.eq_zero_or_pos n.natAbs with z | z
  ·rw [z];decide
  ·exact (Nat.log2_lt (by omega)).mpr h
 omega
theorem eY {n:Nat} (h:n≤5000):n < sizeLine:=Nat.lt_of_le_of_lt h (by decide +kernel)
def zF (H:Hp):V→V
 | .ref t=>match H t with
  | some (.tup (x :: _))=>x
  | _ => .non
 | _ => .non
theorem nT {H:Hp} {v:V} {f:Fr} (h:FrAt H v f):zF H v = .int f.1:=by
 obtain ⟨t,r,o,rfl,a,b⟩:=h
 have a':H t=some (.tup [.int f.1,.ref r]):=a
 simp only [zF,a']
theorem nU {H:Hp}:∀ {vs:List V} {fs:List Fr},Frs H vs fs→vs.map (zF H)=(fs.map (·.1)).map V.int
 | _,_,.nil=>rfl
 | _,_,.cons r t=>by
  rw [List.map_cons,List.map_cons,List.map_cons,nT r]
  exact congrArg _ (nU t)
theorem tN {n:Int}:∀ {q:List Fr} {k:Nat},k≤q.length→(∀ i f,i < k→q[i]? = some f→f.1≤n)→k≤Nd.spot n q
 | _,0,_,_=>Nat.zero_le _
 | [],k+1,h,_=>by simp at h
 | f :: q,k+1,h,a=>by
  unfold Nd.spot
  rw [if_pos (a 0 f (by omega) rfl)]
  have:=tN (q:=q) (k:=k) (by simpa using h) (fun i g hi hg=>a (i+1) g (by omega) (by simpa using hg))
  omega
theorem nV {n:Int}:∀ {q:List Fr} {k:Nat} {f:Fr},k < Nd.spot n q→q[k]? = some f→f.1≤n
 | [],_,_,h,_=>by simp [Nd.spot] at h
 | g :: q,k,f,h,e=>by
  unfold Nd.spot at h
  split at h
  ·rename_i hg
   cases k with
   | zero=>simp at e;subst e;exact hg
   | succ k=>exact nV (q:=q) (k:=k) (by omega) (by simpa using e)
  ·omega
abbrev jI:Stmt:=(aj (top 44) 19)
abbrev jj (K:PySem.W.Frag) (c:Cs):Sp:=sp2 fun u v H Q _=>∃ (n dx:Addr) (st ps rd sn qu tk fc:V) (s:Str),u = .ref n∧v = .str s∧At H n (.ins c.D dx (ndF st ps rd sn qu tk fc))∧(∀ H',Chg [n] H H'→At H' n (.ins c.D dx (ndF (.str s) (.int 0) rd sn qu tk fc))→Q .non H')
theorem jk:FnScope ["self", "state"] ["self", "state"] (ai jI):=aQ
theorem bO (T:Txt K mg c):fR P w K mg base CX0 1 c.D "turn_to" ["self", "state"] (jj K c):=by
 refine T.d_Node_turn_to.ok jk (fun _ _ _ _ _ _ us hl=>match us,hl with | [_,_],_=>rfl) gX (fun f cdv A outer s H vs Q E hr h => ?_)
 obtain ⟨v0,v1,rfl,h⟩:=h
 refine ⟨_,(ae (bq (K:=K) (pv 0) (pv 1))
   (af (bq (K:=K) (pv 0) ag))),?_⟩
 try dsimp only [bv,Cx.nox,Cx.wish]
 refine ak (s2:=[some v0,some v1]) rfl ?_
 obtain ⟨n,dx,st,ps,rd,sn,qu,tk,fc,s,rfl,rfl,e,q⟩:=h
 wtm_at "wp"
 exact q _ (by wtm_at "hc") ad
abbrev jm:Stmt:=(aj (top 44) 18)
abbrev iG (K:PySem.W.Frag) (c:Cs):Sp:=sp3 fun u v w H Q _=>∃ (n dx:Addr) (st rd sn qu tk fc:V) (p m:Nat) (s:Str),u = .ref n∧v = .int (m:Nat)∧w = .str s∧At H n (.ins c.D dx (ndF st (.int (p:Nat)) rd sn qu tk fc)) ∧
 (∀ H',Chg [n] H H'→(p+1=m→At H' n (.ins c.D dx (ndF (.str s) (.int 0) rd sn qu tk fc)))→(¬ p+1=m→At H' n (.ins c.D dx (ndF st (.int ((p+1:Nat):Int)) rd sn qu tk fc)))→Q .non H')
theorem iH:FnScope ["self", "many", "state"] ["self", "many", "state"] (ai jm):=aQ
theorem cf (T:Txt K mg c):fR P w K mg base CX0 2 c.D "pass_one" ["self", "many", "state"] (iG K c):=by
 refine T.d_Node_pass_one.ok iH (fun _ _ _ _ _ _ us hl=>match us,hl with | [_,_,_],_=>rfl) Aa (fun f cdv A outer s H vs Q E hr h => ?_)
 obtain ⟨v0,v1,v2,rfl,h⟩:=h
 refine ⟨_,(ae (eM (K:=K) (pv 0) ag oF)
   (af (bc (aq b9 (ao (K:=K) (pv 0)) (pv 1) (au _))
    (af (aC (gq T.k_Node (bO T) hr aw (pv 0) (aa (pv 2) ac))))
    aG))),?_⟩
 try dsimp only [bv,Cx.nox,Cx.wish]
 refine ak (s2:=[some v0,some v1,some v2]) rfl ?_
 obtain ⟨n,dx,st,rd,sn,qu,tk,fc,p,m,s,rfl,rfl,rfl,e,q⟩:=h
 wtm_at "wp"
 refine aJ (fun c1 => ?_) (fun c1 => ?_)
 ·wtm_at "wp"
  refine ⟨n,dx,_,_,_,_,_,_,_,s,rfl,rfl,ad,fun H1 k1 e1 => ?_⟩
  exact q _ (((Chg.refl [n] H).upd (by simp)).trans k1) (fun _=>e1) (fun z=>absurd (by omega) z)
 ·wtm_at "wp"
  refine q _ (by wtm_at "hc") (fun z=>absurd (by omega) c1) (fun _ => ?_)
  rw [show ((p+1:Nat):Int)=(p:Int)+1 by omega]
  exact ad
abbrev jJ:Stmt:=(aj (top 44) 17)
abbrev d9 (K:PySem.W.Frag) (c:Cs):Sp:=sp1 fun u H Q _=>∃ (n dx:Addr) (st ps rd sn qu tk:V) (f:Nat),u = .ref n∧At H n (.ins c.D dx (ndF st ps rd sn qu tk (.int (f:Nat))))∧(∀ H',Chg [n] H H'→At H' n (.ins c.D dx (ndF (.str Md.cry.str) (.int 0) rd sn qu tk (.int ((f+1:Nat):Int))))→Q .non H')
theorem jo:FnScope ["self"] ["self"] (ai jJ):=aQ
theorem eh (T:Txt K mg c):fR P w K mg base CX0 2 c.D "cry_out" ["self"] (d9 K c):=by
 refine T.d_Node_cry_out.ok jo (fun _ _ _ _ _ _ us hl=>match us,hl with | [_],_=>rfl) iA (fun f cdv A outer s H vs Q E hr h => ?_)
 obtain ⟨v0,rfl,h⟩:=h
 refine ⟨_,(ae (eM (K:=K) (pv 0) ag oF)
   (af (aC (gq T.k_Node (bO T) hr aw (pv 0) (aa (pgs T.c_CRY) ac))))),?_⟩
 try dsimp only [bv,Cx.nox,Cx.wish]
 refine ak (s2:=[some v0]) rfl ?_
 obtain ⟨n,dx,st,ps,rd,sn,qu,tk,f,rfl,e,q⟩:=h
 wtm_at "wp"
 refine ⟨n,dx,_,_,_,_,_,_,_,_,rfl,rfl,ad,fun H1 k1 e1 => ?_⟩
 refine q _ (((Chg.refl [n] H).upd (by simp)).trans k1) ?_
 rw [show ((f+1:Nat):Int)=(f:Int)+1 by omega]
 exact e1
abbrev gM:Stmt:=(aj (top 44) 1)
abbrev fY (K:PySem.W.Frag) (c:Cs):Sp:=sp2 fun u v H Q _=>∃ (n:Addr) (A:NA) (d:Nd) (name:Int),u = .ref n∧v = .int name∧NdAt c H n A d∧d.qu.length≤900∧(∀ H',Same H H'→Q (.bl (decide (name∈d.qu.map (·.1)))) H')
theorem fZ:FnScope ["self", "name"] ["self", "name"] (ai gM):=aQ
theorem gb (T:Txt K mg c):fR P w K mg base CX0 1 c.D "has_waiting" ["self", "name"] (fY K c):=by
 refine T.d_Node_has_waiting.ok fZ (fun _ _ _ _ _ _ us hl=>match us,hl with | [_,_],_=>rfl) gX (fun f cdv A outer s H vs Q E hr h => ?_)
 obtain ⟨v0,v1,rfl,h⟩:=h
 refine ⟨_,(af (ay (cb (pW (K:=K)) (pv 1) (ce [] [] (aO (K:=K) (ao (K:=K) (pv 0))) (fun fp s H=>(aW (aN (K:=K)) (pv 0) ag (fun _ _=>rfl)))) (by with_unfolding_all rfl)))),?_⟩
 try dsimp only [bv,Cx.nox,Cx.wish]
 refine ak (s2:=[some v0,some v1]) rfl ?_
 obtain ⟨n,A,d,name,rfl,rfl,⟨⟨dx,sv,eo,es⟩,ro,⟨qs,eq,fq⟩,⟨ts,et,ft⟩,nd⟩,hl,q⟩:=h
 have ql:=fq.len
 wtm_at "wp"
 refine bB ?_
 wtm_at "wp"
 refine gC (zF H) (At.sqL eq) (small (by omega)) (fun i x H' R hx s1 hR => ?_) (fun D Hf s1 fD eD => ?_)
 ·obtain ⟨f,hf,t,r,o,rfl,a,b⟩:=cT fq hx
  show tOp _ _ _ [some (.ref t)] _ _
  wtm_at "wp"
  have:=hR H' (Same.refl _)
  rw [nT ⟨t,r,o,rfl,a,b⟩] at this
  exact this
 rw [nU fq] at eD
 have eD':At Hf D (.lst ((d.qu.map (·.1)).map V.int)):=eD
 refine zh (l:=d.qu.map (·.1)) (.inl (At.sqL eD')) ?_
 wtm_at "wp"
 exact q _ s1
abbrev jp:Stmt:=(aj (top 44) 2)
abbrev iI (K:PySem.W.Frag) (c:Cs):Sp:=sp3 fun u v w H Q _=>∃ (n a:Addr) (A:NA) (d:Nd) (name:Int) (row:List Int),u = .ref n∧v = .int name∧w = .ref a∧NdAt c H n A d∧SqL K H a (row.map V.int)∧d.qu.length≤900∧Post c H n A (d.letWait (name,row)) Q
theorem sc_Node_let_wait:FnScope ["self", "name", "row", "at"] ["self", "name", "row"] (ai jp):=aQ
theorem iJ (T:Txt K mg c):fR P w K mg base CX0 1 c.D "let_wait" ["self", "name", "row"] (iI K c):=by
 refine T.d_Node_let_wait.ok sc_Node_let_wait (fun _ _ _ _ _ _ us hl=>match us,hl with | [_,_,_],_=>rfl) Aa (fun f cdv A outer s H vs Q E hr h => ?_)
 obtain ⟨v0,v1,v2,rfl,h⟩:=h
 refine ⟨_,(ae (az (i:=3) sc_Node_let_wait.nd rfl (.inl rfl) ag)
   (cX (ka PassesOwn.never (PW.pt (fH (aq kd (pv 3) (ax (aB (K:=K)) rfl T.len PySem.boot_len (aa (ao (K:=K) (pv 0)) ac)) (au _)) (dN (aq vX (aW (aN (K:=K)) (aW (aY (K:=K)) (ao (K:=K) (pv 0)) (pv 3) (fun _ _=>rfl)) ag (fun _ _=>rfl)) (pv 1) (au _)))))
    (af (x5 (i:=3) sc_Node_let_wait.nd rfl (.inl rfl) ag x6)))
   (af (aC (bZ (K:=K) PySem.F.plainAttrs_list PySem.F.slot_list_insert PySem.F.type_list_insert sg (ao (K:=K) (pv 0)) (aa (pv 3) (aa (ci (aa (pv 1) (aa (oU (cZ (cG (K:=K)) rfl T.list PyProof.Rows.boot_list (aa (pv 2) ac))) ac))) ac))))))),?_⟩
 try dsimp only [bv,Cx.nox,Cx.wish]
 refine ak (s2:=[some v0,some v1,some v2,none]) rfl ?_
 obtain ⟨n,a,A,d,name,row,rfl,rfl,rfl,⟨⟨dx,sv,eo,es⟩,ro,⟨qs,eq,fq⟩,⟨ts,et,ft⟩,nd⟩,hS,hl,q⟩:=h
 have ql:=fq.len
 have sl:=sS name d.qu
 wtm_at "wp"
 refine fJ (fun σ H2=>H2=H∧σ=[some (.ref n),some (.int name),some (.ref a),some (.int (Nd.spot name d.qu:Nat))]) ?_ ?_
 ·refine oC (fun σ H2=>H2=H∧∃ k:Nat,σ=[some (.ref n),some (.int name),some (.ref a),some (.int (k:Int))]∧k≤Nd.spot name d.qu) (fun σ _=>match σ with | [_,_,_,some (.int k)]=>d.qu.length - k.toNat | _=>0) ⟨rfl,0,rfl,Nat.zero_le _⟩ ?_ ?_
  ·rintro σ H2 ⟨rfl,k,rfl,hk⟩
   wtm_at "wp"
   rw [ql]
   refine aJ (fun c1 => ?_) (fun c1 => ?_)
   ·have hkl:k < d.qu.length:=by omega
    obtain ⟨x,hx,t,r,o,rfl,et1,er1⟩:=tM fq (List.getElem?_eq_getElem hkl)
    wtm_at "wp"
    refine bL (At.sqL eq) (kh hx) ?_
    wtm_at "wp"
    refine aJ (fun c2 => ?_) (fun c2 => ?_)
    ·wtm_at "wp"
     refine ⟨⟨rfl,k+1,by rw [show ((k+1:Nat):Int)=(k:Int)+1 by omega],tN (by omega) (fun i f hi hf => ?_)⟩,?_⟩
     ·rcases Nat.lt_or_ge i k with z | z
      ·exact nV (by omega) hf
      ·have:i=k:=by omega
       subst this
       rw [List.getElem?_eq_getElem hkl] at hf
       cases hf
       exact c2
     ·show d.qu.length - ((k:Int)+1).toNat < d.qu.length - (k:Int).toNat
      omega
    ·wtm_at "wp"
     have:Nd.spot name d.qu=k:=by
      rcases Nat.lt_or_ge k (Nd.spot name d.qu) with z | z
      ·exact absurd (nV z (List.getElem?_eq_getElem hkl)) c2
      ·omega
     rw [this]
     exact ⟨rfl,rfl⟩
   ·wtm_at "wp"
    have:Nd.spot name d.qu=k:=by omega
    rw [this]
    exact ⟨rfl,rfl⟩
  ·intro σ H2 R R' hRR h
   exact vF (kG (jB rW dS (xc rY (nw (vE dS) rV)))) (kG (jB rW (jB zi (jB rX (vE dS) dS) Bg) dS)) σ H2 R R' hRR h
 ·rintro σ H2 ⟨rfl,rfl⟩
  wtm_at "wp"
  intro b hb
  refine kB ad (fun ob => ?_)
  wtm_at "wp"
  refine ⟨small (show 2≤1000 by decide),fun t ht => ?_⟩
  wtm_at "wp"
  have e1:At (upd (upd (upd H2 b (.lst (row.map V.int))) b (.frz ob (.lst (row.map V.int)))) t (.tup [.int name,.ref b])) A.q (.lst qs):=aA ht (aP (aD hb eq) (aA hb eq))
  refine sh e1 (by omega) (by omega) ?_
  have nd':=nd
  simp only [fpN,List.nodup_cons,List.mem_cons,List.not_mem_nil,or_false,not_or] at nd'
  obtain ⟨⟨n1,n2,n3,n4,n5⟩,⟨m1,m2,m3,m4⟩,⟨o1,o2,o3⟩,⟨p1,p2⟩,q1,_⟩:=nd'
  have k1:Kp (fpN n A) H2 (upd (upd (upd H2 b (.lst (row.map V.int))) b (.frz ob (.lst (row.map V.int)))) t (.tup [.int name,.ref b])):=by
   refine Kp.new ?_ ht
   exact ⟨fun x u hx h=>aP (aH h hb) (aA hb h),fun x u hx h=>aP (aH h hb) (aA hb h)⟩
  have k2:=k1.upd (o := .lst (qs.take (Nd.spot name d.qu) ++ .ref t :: qs.drop (Nd.spot name d.qu))) (p:=A.q) (by simp [fpN]) e1 (fun z=>z)
  have k3:Kp [A.q] H2 (upd (upd (upd (upd H2 b (.lst (row.map V.int))) b (.frz ob (.lst (row.map V.int)))) t (.tup [.int name,.ref b])) A.q (.lst (qs.take (Nd.spot name d.qu) ++ .ref t :: qs.drop (Nd.spot name d.qu)))):=by
   refine Kp.upd (Kp.new ?_ ht) (by simp) e1 (fun z=>z)
   exact ⟨fun x u hx h=>aP (aH h hb) (aA hb h),fun x u hx h=>aP (aH h hb) (aA hb h)⟩
  refine q _ A k2 ⟨⟨dx,sv,k3.get (aK n4) eo,es.kp k3⟩,ro.kp k3 (aK m3) (aK o2) (aK p1),⟨_,ad,?_⟩,⟨ts,k3.get (aK (Ne.symm q1)) et,ft.kp k3⟩,nd⟩ (fun x hx => .inl hx)
  refine fO (tK _ (fq.kp k3)) (.cons ⟨t,b,ob,rfl,?_,?_⟩ (tL _ (fq.kp k3)))
  ·exact aP (Ne.symm (aD ht (aP (aD hb eq) (aA hb eq)))) ad
  ·exact aP (Ne.symm (aD hb eq)) (aA ht ad)
theorem vj {α:Type} (x:α) (l:List α):atI (x :: l) 0=some x:=kh (j:=0) rfl
theorem tO {n:Addr} {A:NA} (h:(fpN n A).Nodup):(n≠A.r∧n≠A.w∧n≠A.p∧n≠A.q∧n≠A.t)∧(A.r≠A.w∧A.r≠A.p∧A.r≠A.q∧A.r≠A.t)∧(A.w≠A.p∧A.w≠A.q∧A.w≠A.t)∧(A.p≠A.q∧A.p≠A.t)∧A.q≠A.t:=by
 simp only [fpN,List.nodup_cons,List.mem_cons,List.not_mem_nil,or_false,not_or] at h
 obtain ⟨a,b,d,e,f,_⟩:=h
 exact ⟨a,b,d,e,f⟩
theorem NdAt.own {c:Cs} {H H':Hp} {n:Addr} {A:NA} {d d':Nd} {Q:VK} (h:NdAt c H n A d) (q:Post c H n A d' Q) (s:Chg [n] H H') {dx:Addr} {sv:V} (e:At H' n (.ins c.D dx (ndF (.str d'.st.str) (.int (d'.ps:Nat)) (.ref A.r) sv (.ref A.q) (.ref A.t) (.int (d'.fc:Nat)))))
  (es:SnAt H sv d'.sn) (e1:d'.ws=d.ws) (e2:d'.pl=d.pl) (e3:d'.qu=d.qu) (e4:d'.tk=d.tk):Q .non H':=by
 obtain ⟨⟨dx0,sv0,eo,_⟩,_⟩:=id h
 have kk:Kp (fpN n A) H H':=Chg.kp s (by simp [fpN]) eo (fun z=>z)
 exact q H' A kk (h.re s e (es.kp kk) e1 e2 e3 e4) (fun x hx => .inl hx)
abbrev gN:Stmt:=(aj (top 44) 14)
abbrev gc (K:PySem.W.Frag) (c:Cs):Sp:=sp2 fun u v H Q _=>∃ (n:Addr) (A:NA) (d:Nd) (sn:Option (List Int)),u = .ref n∧NdAt c H n A d∧SnAt H v sn∧Post c H n A (d.enter sn) Q
theorem gf:FnScope ["self", "sending"] ["self", "sending"] (ai gN):=aQ
theorem cM (T:Txt K mg c):fR P w K mg base CX0 7 c.D "enter_frame" ["self", "sending"] (gc K c):=by
 refine T.d_Node_enter_frame.ok gf (fun _ _ _ _ _ _ us hl=>match us,hl with | [_,_],_=>rfl) gX (fun f cdv A outer s H vs Q E hr h => ?_)
 obtain ⟨v0,v1,rfl,h⟩:=h
 refine ⟨_,(ae (aC (gq T.k_Node (bO T) hr aw (pv 0) (aa (pgs T.c_FRAME) ac)))
   (ae (bq (K:=K) (pv 0) (rJ (cL T) hr T.m_Reading aw))
   (af (bq (K:=K) (pv 0) (pv 1))))),?_⟩
 try dsimp only [bv,Cx.nox,Cx.wish]
 refine ak (s2:=[some v0,some v1]) rfl ?_
 obtain ⟨n,A,d,sn,rfl,h,hsn,q⟩:=h
 obtain ⟨⟨dx,sv,eo,es⟩,ro,⟨qs,eq,fq⟩,⟨ts,et,ft⟩,nd⟩:=id h
 obtain ⟨⟨n1,n2,n3,n4,n5⟩,_⟩:=tO nd
 wtm_at "wp"
 refine ⟨n,dx,_,_,_,_,_,_,_,_,rfl,rfl,eo,fun H1 k1 e1 => ?_⟩
 have kp1:Kp (fpN n A) H H1:=Chg.kp k1 (by simp [fpN]) eo (fun z=>z)
 have km1:Kp [n] H H1:=Chg.kp k1 (by simp) eo (fun z=>z)
 wtm_at "wp"
 intro x dx2 hx hdx ndx
 wtm_at "wp"
 refine ⟨x,dx2,rfl,ad,fun H2 w p k2 fw fp ro2=>⟨rfl,?_⟩⟩
 have s2:Same H1 H2:=Chg.made hx hdx k2
 have e2:=s2.get e1
 have fw1:aI H1 w:=vD fw
 have fp1:aI H1 p:=vD fp
 have nxn:x≠n:=Ne.symm (aD hx e1)
 have nwn:w≠n:=Ne.symm (aD fw1 e1)
 have npn:p≠n:=Ne.symm (aD fp1 e1)
 wtm_at "wp"
 have e3:At (upd (upd H2 n (.ins c.D dx (ndF (.str Md.frame.str) (.int 0) (.ref x) sv (.ref A.q) (.ref A.t) (.int (d.fc:Nat))))) n (.ins c.D dx (ndF (.str Md.frame.str) (.int 0) (.ref x) v1 (.ref A.q) (.ref A.t) (.int (d.fc:Nat))))) n (.ins c.D dx (ndF (.str Md.frame.str) (.int 0) (.ref x) v1 (.ref A.q) (.ref A.t) (.int (d.fc:Nat)))):=ad
 have c3:Chg [n] H2 (upd (upd H2 n (.ins c.D dx (ndF (.str Md.frame.str) (.int 0) (.ref x) sv (.ref A.q) (.ref A.t) (.int (d.fc:Nat))))) n (.ins c.D dx (ndF (.str Md.frame.str) (.int 0) (.ref x) v1 (.ref A.q) (.ref A.t) (.int (d.fc:Nat))))):=((Chg.refl [n] H2).upd (by simp)).upd (by simp)
 have k3:=Chg.kp (S:=fpN n A) c3 (by simp [fpN]) e2 (fun z=>z)
 have m3:=Chg.kp (S:=[n]) c3 (by simp) e2 (fun z=>z)
 have kk:Kp (fpN n A) H _:=(kp1.trans (Same.kp s2)).trans k3
 have mm:Kp [n] H _:=(km1.trans (Same.kp s2)).trans m3
 have eqH:At H1 A.q (.lst qs):=km1.get (aK (Ne.symm n4)) eq
 have etH:At H1 A.t (.lst ts):=km1.get (aK (Ne.symm n5)) et
 have fxH:aI H x:=km1.fr (aK nxn) hx
 have fwH:aI H w:=km1.fr (aK nwn) fw1
 have fpH:aI H p:=km1.fr (aK npn) fp1
 have nxw:x≠w:=by
  obtain ⟨⟨_,_,er,_⟩,ew,_,_⟩:=ro2
  exact er.ne ew (by intro z;cases z)
 have nxp:x≠p:=by
  obtain ⟨⟨_,_,er,_⟩,_,ep,_⟩:=ro2
  exact er.ne ep (by intro z;cases z)
 refine q _ ⟨x,w,p,A.q,A.t⟩ kk ⟨⟨dx,v1,e3,hsn.kp kk⟩,ro2.kp m3 (aK nxn) (aK nwn) (aK npn),⟨qs,mm.get (aK (Ne.symm n4)) eq,fq.kp kk⟩,⟨ts,mm.get (aK (Ne.symm n5)) et,ft.kp kk⟩,?_⟩ ?_
 ·have a1:x≠A.q:=Ne.symm (aD hx eqH)
  have a2:x≠A.t:=Ne.symm (aD hx etH)
  have a3:w≠A.q:=Ne.symm (aD fw1 eqH)
  have a4:w≠A.t:=Ne.symm (aD fw1 etH)
  have a5:p≠A.q:=Ne.symm (aD fp1 eqH)
  have a6:p≠A.t:=Ne.symm (aD fp1 etH)
  have a7:=(tO nd).2.2.2.2
  have a8:=ro2.ne
  simp only [fpN,List.nodup_cons,List.mem_cons,List.not_mem_nil,or_false,not_or,List.nodup_nil,not_false_eq_true,and_true]
  exact ⟨⟨Ne.symm nxn,Ne.symm nwn,Ne.symm npn,n4,n5⟩,⟨nxw,nxp,a1,a2⟩,⟨a8,a3,a4⟩,⟨a5,a6⟩,a7⟩
 ·intro y hy
  simp only [fpN,List.mem_cons,List.not_mem_nil,or_false] at hy
  rcases hy with rfl | rfl | rfl | rfl | rfl | rfl
  ·exact .inl (by simp [fpN])
  ·exact .inr fxH
  ·exact .inr fwH
  ·exact .inr fpH
  ·exact .inl (by simp [fpN])
  ·exact .inl (by simp [fpN])
abbrev fg:Stmt:=(aj (top 44) 3)
abbrev eA (K:PySem.W.Frag) (c:Cs):Sp:=sp1 fun u H Q _=>∃ (n:Addr) (A:NA) (d:Nd),u = .ref n∧NdAt c H n A d∧NdOk d∧Post c H n A d.begin Q
theorem sc_Node_begin_if_free:FnScope ["self", "first"] ["self"] (ai fg):=aQ
theorem eB (T:Txt K mg c):fR P w K mg base CX0 8 c.D "begin_if_free" ["self"] (eA K c):=by
 refine T.d_Node_begin_if_free.ok sc_Node_begin_if_free (fun _ _ _ _ _ _ us hl=>match us,hl with | [_],_=>rfl) iA (fun f cdv A outer s H vs Q E hr h => ?_)
 obtain ⟨v0,rfl,h⟩:=h
 refine ⟨_,(af (bc (PW.pt (fH (aq b9 (ao (K:=K) (pv 0)) (pgs T.c_FREE) (au _)) (dN (aq mZ (ax (aB (K:=K)) rfl T.len PySem.boot_len (aa (ao (K:=K) (pv 0)) ac)) ag (au _)))))
    (ae (az (i:=1) sc_Node_begin_if_free.nd rfl (.inl rfl) (aW (aY (K:=K)) (ao (K:=K) (pv 0)) ag (fun _ _=>rfl)))
    (af (aC (gq T.k_Node (cM T) hr aw (pv 0) (aa (oU (cj (qz T) hr aw (aa (cj (qx T) hr oP (aa (aW (aN (K:=K)) (pv 1) ag (fun _ _=>rfl)) (aa (aW (aN (K:=K)) (pv 1) ag (fun _ _=>rfl)) ac))) ac))) ac)))))
    aG)),?_⟩
 try dsimp only [bv,Cx.nox,Cx.wish]
 refine ak (s2:=[some v0,none]) rfl ?_
 obtain ⟨n,A,d,rfl,h,ok,q⟩:=h
 obtain ⟨⟨dx,sv,eo,es⟩,ro,⟨qs,eq,fq⟩,⟨ts,et,ft⟩,nd⟩:=id h
 have ql:=fq.len
 have same:d.begin=d→Q .non H:=fun e=>by
  rw [e] at q
  exact q H A (Kp.refl _ _) h (fun x hx => .inl hx)
 wtm_at "wp"
 refine aJ (fun c1 => ?_) (fun c1 => ?_)
 ·have st:d.st = .free:=md_inj.mp c1
  wtm_at "wp"
  rw [ql]
  refine aJ (fun c2 => ?_) (fun c2 => ?_)
  ·cases hqu:d.qu with
   | nil=>rw [hqu] at c2;simp at c2
   | cons f fs=>
    rw [hqu] at fq
    cases fq with
    | cons r1 rest=>
     obtain ⟨t,r,o,rfl,et1,er1⟩:=r1
     have g:=ok.qu f (by rw [hqu];exact List.mem_cons_self)
     have gl:=cz f.1 f.2
     wtm_at "wp"
     refine bL (At.sqL eq) (vj _ _) ?_
     wtm_at "wp"
     refine ⟨r,f.1,f.2,rfl,rfl,At.sqF er1,b6 (by have:=g.1;omega) (by have:=g.1;omega),fun b hb=>b6 (by have:=g.2.2 b hb;omega) (by have:=g.2.2 b hb;omega),fun _ => ?_,fun z=>absurd g z⟩
     intro b1 H1 s1 fb1 eb1
     wtm_at "wp"
     refine ⟨b1,aE f.1 f.2,rfl,At.sqL eb1,dy _ _,by have:=g.2.1;omega,fun b2 H2 s2 fb2 eb2 => ?_⟩
     have s12:=s1.trans s2
     refine kB eb2 (fun ob => ?_)
     have fb2H:aI H b2:=s1.fr fb2
     have s3:Same H (upd H2 b2 (.frz ob (.lst ((aS (aE f.1 f.2)).map V.int)))):=s12.upF fb2H
     wtm_at "wp"
     refine ⟨n,A,d,some (ah f),rfl,h.same s3,⟨b2,ob,rfl,ad⟩,fun H4 A' k4 h4 f4 => ?_⟩
     have eb:d.begin=d.enter (some (ah f)):=by unfold Nd.begin;rw [if_pos st,hqu]
     rw [eb] at q
     refine q H4 A' ((Same.kp s3).trans k4) h4 (fun x hx => ?_)
     rcases f4 x hx with z | z
     ·exact .inl z
     ·exact .inr (s3.fr z)
  ·have hqu:d.qu=[]:=List.length_eq_zero_iff.mp (by omega)
   wtm_at "wp"
   exact same (by unfold Nd.begin;rw [if_pos st,hqu])
 ·wtm_at "wp"
  exact same (by unfold Nd.begin;rw [if_neg (fun z=>c1 (md_inj.mpr z))])
abbrev gh:Stmt:=(aj (top 44) 5)
abbrev fh (K:PySem.W.Frag) (c:Cs):Sp:=sp1 fun u H Q _=>∃ (n:Addr) (A:NA) (d:Nd),u = .ref n∧NdAt c H n A d∧NdOk d∧d.st = .frame∧(∀ H',Same H H'→Q (.int d.putFrame) H')
theorem fi:FnScope ["self"] ["self"] (ai gh):=aQ
theorem fj (T:Txt K mg c):fR P w K mg base CX0 2 c.D "put_in_frame" ["self"] (fh K c):=by
 refine T.d_Node_put_in_frame.ok fi (fun _ _ _ _ _ _ us hl=>match us,hl with | [_],_=>rfl) iA (fun f cdv A outer s H vs Q E hr h => ?_)
 obtain ⟨v0,rfl,h⟩:=h
 refine ⟨_,(ae (bc (dG (g4 T.k_Reading (cS T) hr aw (ao (K:=K) (pv 0))))
    (af (ay (oB (PW.pt (fH (aq b9 (ao (K:=K) (pv 0)) (pgi T.c_ANSWER_AT) (au _)) (dN (aq ku (ao (K:=K) (pv 0)) fG (au _))))) ag ag)))
    aG)
   (af (ay (oB (aq ku (ao (K:=K) (pv 0)) fG (au _)) ag (aW (aY (K:=K)) (ao (K:=K) (pv 0)) (ax (aB (K:=K)) rfl T.len PySem.boot_len (aa (ao (K:=K) (ao (K:=K) (pv 0))) ac)) (fun _ _=>rfl)))))),?_⟩
 try dsimp only [bv,Cx.nox,Cx.wish]
 refine ak (s2:=[some v0]) rfl ?_
 obtain ⟨n,A,d,rfl,h,ok,st,q⟩:=h
 obtain ⟨⟨dx,sv,eo,es⟩,⟨⟨rx,ch,er,ec⟩,ew,ep,nwp⟩,⟨qs,eq,fq⟩,⟨ts,et,ft⟩,nd⟩:=id h
 wtm_at "wp"
 refine ⟨A.r,A.w,A.p,d.ws,d.pl,rfl,⟨⟨rx,ch,er,ec⟩,ew,ep,nwp⟩,fun H1 s1 => ?_⟩
 wtm_at "wp"
 cases hov:d.over with
 | true=>
  rw [show decide (aF d.ws d.pl=[])=true from hov]
  have ep1:∀ P:Prop,d.putFrame=(if d.ps=1∧d.sn=none then 0 else 1):=fun _=>by unfold Nd.putFrame;rw [hov,if_pos rfl]
  have ep1:=ep1 True
  wtm_at "wp"
  refine aJ (fun c1 => ?_) (fun c1 => ?_)
  ·wtm_at "wp"
   cases hsn:d.sn with
   | none=>
    rw [hsn] at es
    cases es
    wtm_at "wp"
    have:=q _ s1
    rw [ep1,if_pos ⟨by omega,hsn⟩] at this
    exact this
   | some l=>
    rw [hsn] at es
    obtain ⟨a,o,rfl,ea⟩:=es
    wtm_at "wp"
    have:=q _ s1
    rw [ep1,if_neg (fun z=>by rw [hsn] at z;cases z.2)] at this
    exact this
  ·wtm_at "wp"
   have:=q _ s1
   rw [ep1,if_neg (fun z=>c1 (by omega))] at this
   exact this
 | false=>
  rw [show decide (aF d.ws d.pl=[])=false from hov]
  wtm_at "wp"
  cases hsn:d.sn with
  | none=>
   rw [hsn] at es
   cases es
   wtm_at "wp"
   have:=q _ s1
   unfold Nd.putFrame at this
   rw [hov,if_neg (by decide),hsn] at this
   exact this
  | some l=>
   have more:=ok.more st hsn hov
   rw [hsn] at es
   obtain ⟨a,o,rfl,ea⟩:=es
   wtm_at "wp"
   rw [List.length_map]
   refine bL (by wtm_at "hg") (dn more) ?_
   wtm_at "wp"
   have:=q _ s1
   unfold Nd.putFrame at this
   rw [hov,if_neg (by decide),hsn] at this
   exact this
abbrev qC:Stmt:=(aj (top 44) 4)
abbrev nX (K:PySem.W.Frag) (c:Cs):Sp:=sp1 fun u H Q _=>∃ (n:Addr) (A:NA) (d:Nd),u = .ref n∧NdAt c H n A d∧NdOk d∧(∀ H',Same H H'→Q (.int d.put) H')
theorem nY:FnScope ["self"] ["self"] (ai qC):=aQ
theorem nZ (T:Txt K mg c):fR P w K mg base CX0 3 c.D "put" ["self"] (nX K c):=by
 refine T.d_Node_put.ok nY (fun _ _ _ _ _ _ us hl=>match us,hl with | [_],_=>rfl) iA (fun f cdv A outer s H vs Q E hr h => ?_)
 obtain ⟨v0,rfl,h⟩:=h
 refine ⟨_,(ae (bc (aq b9 (ao (K:=K) (pv 0)) (pgs T.c_CRY) (au _))
    (af (ay ag))
    aG)
   (ae (bc (aq b9 (ao (K:=K) (pv 0)) (pgs T.c_FRAME) (au _))
    (af (ay (g4 T.k_Node (fj T) hr aw (pv 0))))
    aG)
   (af (ay ag)))),?_⟩
 try dsimp only [bv,Cx.nox,Cx.wish]
 refine ak (s2:=[some v0]) rfl ?_
 obtain ⟨n,A,d,rfl,h,ok,q⟩:=h
 obtain ⟨⟨dx,sv,eo,es⟩,ro,⟨qs,eq,fq⟩,⟨ts,et,ft⟩,nd⟩:=id h
 wtm_at "wp"
 refine aJ (fun c1 => ?_) (fun c1 => ?_)
 ·have st:d.st = .cry:=md_inj.mp c1
  wtm_at "wp"
  have:=q H (Same.refl _)
  unfold Nd.put at this
  rw [st] at this
  exact this
 wtm_at "wp"
 refine aJ (fun c2 => ?_) (fun c2 => ?_)
 ·have st:d.st = .frame:=md_inj.mp c2
  wtm_at "wp"
  refine ⟨n,A,d,rfl,h,ok,st,fun H1 s1 => ?_⟩
  have:=q H1 s1
  unfold Nd.put at this
  rw [st] at this
  exact this
 ·wtm_at "wp"
  have:=q H (Same.refl _)
  have e:d.put=1:=by
   unfold Nd.put
   cases hst:d.st with
   | cry=>exact absurd (md_inj.mpr hst) c1
   | frame=>exact absurd (md_inj.mpr hst) c2
   | _=>rfl
  rw [e] at this
  exact this
theorem Post.kp {c:Cs} {H H1:Hp} {n:Addr} {A:NA} {d:Nd} {Q:VK} (q:Post c H n A d Q) (k:Kp (fpN n A) H H1):Post c H1 n A d Q:=fun H' A' k' h' f'=>by
 refine q H' A' (k.trans k') h' (fun x hx => ?_)
 by_cases z:x∈fpN n A
 ·exact .inl z
 ·rcases f' x hx with y | y
  ·exact .inl y
  ·exact .inr (k.fr z y)
theorem NdAt.took {c:Cs} {H H':Hp} {n:Addr} {A:NA} {d:Nd} (h:NdAt c H n A d) (s:Chg [A.r,A.w,A.p] H H') {ws pl:List Int} (r':RdAt c H' A.r A.w A.p ws pl):NdAt c H' n A {d with ws:=ws,pl:=pl}∧Kp (fpN n A) H H':=by
 obtain ⟨⟨dx,sv,eo,es⟩,⟨⟨rx,ch,er,ec⟩,ew,ep,nwp⟩,⟨qs,eq,fq⟩,⟨ts,et,ft⟩,nd⟩:=h
 obtain ⟨⟨n1,n2,n3,n4,n5⟩,⟨m1,m2,m3,m4⟩,⟨o1,o2,o3⟩,⟨p1,p2⟩,q1⟩:=tO nd
 have im:∀ b o,Im o→H b=some o→b∉[A.r,A.w,A.p]:=fun b o i e=>by
  refine lJ (fun z => ?_) (fun z => ?_) (fun z => ?_) <;> subst z
  ·rw [er] at e;cases e;exact i
  ·rw [ew] at e;cases e;exact i
  ·rw [ep] at e;cases e;exact i
 have kk:Kp (fpN n A) H H':=⟨fun b o hb e=>s b o (fun z=>hb (by simp [fpN] at z ⊢;rcases z with z | z | z <;> simp [z])) e,fun b o i e=>s b o (im b o i e) e⟩
 have ks:Kp [A.r,A.w,A.p] H H':=⟨fun b o hb e=>s b o hb e,fun b o i e=>s b o (im b o i e) e⟩
 exact ⟨⟨⟨dx,sv,ks.get (lJ n1 n2 n3) eo,es.kp ks⟩,r',⟨qs,ks.get (lJ (Ne.symm m3) (Ne.symm o2) (Ne.symm p1)) eq,fq.kp ks⟩,⟨ts,ks.get (lJ (Ne.symm m4) (Ne.symm o3) (Ne.symm p2)) et,ft.kp ks⟩,nd⟩,kk⟩
abbrev fk:Stmt:=(aj (top 44) 9)
abbrev eC (K:PySem.W.Frag) (c:Cs):Sp:=sp2 fun u v H Q _=>∃ (n:Addr) (A:NA) (d:Nd) (b:Int),u = .ref n∧v = .int b∧NdAt c H n A d∧(∀ s,d.sn=some s→d.ws.length < s.length)∧Q (.bl (d.hears b)) H
theorem eE:FnScope ["self", "bit"] ["self", "bit"] (ai fk):=aQ
theorem b7 (T:Txt K mg c):fR P w K mg base CX0 1 c.D "hears_another" ["self", "bit"] (eC K c):=by
 refine T.d_Node_hears_another.ok eE (fun _ _ _ _ _ _ us hl=>match us,hl with | [_,_],_=>rfl) gX (fun f cdv A outer s H vs Q E hr h => ?_)
 obtain ⟨v0,v1,rfl,h⟩:=h
 refine ⟨_,(af (ay (oA (cb oO (ao (K:=K) (pv 0)) fG (au _)) (oz (cb mY (pv 1) (aW (aY (K:=K)) (ao (K:=K) (pv 0)) (ax (aB (K:=K)) rfl T.len PySem.boot_len (aa (ao (K:=K) (ao (K:=K) (pv 0))) ac)) (fun _ _=>rfl)) (au _)))))),?_⟩
 try dsimp only [bv,Cx.nox,Cx.wish]
 refine ak (s2:=[some v0,some v1]) rfl ?_
 obtain ⟨n,A,d,b,rfl,rfl,h,hm,q⟩:=h
 obtain ⟨⟨dx,sv,eo,es⟩,⟨⟨rx,ch,er,ec⟩,ew,ep,nwp⟩,⟨qs,eq,fq⟩,⟨ts,et,ft⟩,nd⟩:=id h
 wtm_at "wp"
 unfold Nd.hears at q
 cases hsn:d.sn with
 | none=>
  rw [hsn] at es q
  cases es
  wtm_at "wp"
  exact q
 | some l=>
  have more:=hm l hsn
  rw [hsn] at es q
  obtain ⟨a,o,rfl,ea⟩:=es
  wtm_at "wp"
  rw [List.length_map]
  refine bL (by wtm_at "hg") (dn more) ?_
  wtm_at "wp"
  exact q
abbrev gi:Stmt:=(aj (top 44) 8)
abbrev fm (K:PySem.W.Frag) (c:Cs):Sp:=sp2 fun u v H Q _=>∃ (n:Addr) (A:NA) (d:Nd) (b:Int),u = .ref n∧v = .int b∧NdAt c H n A d∧NdOk d∧d.st = .frame∧d.over=false∧Bit b∧Post c H n A (d.hearStuffed b) Q
theorem fo:FnScope ["self", "bit"] ["self", "bit"] (ai gi):=aQ
theorem fu (T:Txt K mg c):fR P w K mg base CX0 6 c.D "hear_stuffed" ["self", "bit"] (fm K c):=by
 refine T.d_Node_hear_stuffed.ok fo (fun _ _ _ _ _ _ us hl=>match us,hl with | [_,_],_=>rfl) gX (fun f cdv A outer s H vs Q E hr h => ?_)
 obtain ⟨v0,v1,rfl,h⟩:=h
 refine ⟨_,(cX (bc (PW.pt (fH (dG (gq T.k_Node (b7 T) hr aw (pv 0) (aa (pv 1) ac))) (fH (aq b9 (pv 1) ag (au _)) (dN (dG (g4 T.k_Reading (d8 T) hr aw (ao (K:=K) (pv 0))))))))
    (af (bq (K:=K) (pv 0) fG))
    aG)
   (af (bc (PW.pt (mX (dG (gq T.k_Node (b7 T) hr aw (pv 0) (aa (pv 1) ac))) (iP (aq (kC (K:=K)) (pv 1) (ao (K:=K) (ao (K:=K) (pv 0))) (by with_unfolding_all rfl)))))
    (af (aC (g4 T.k_Node (eh T) hr aw (pv 0))))
    (af (aC (gq T.k_Reading (ji T) hr aw (ao (K:=K) (pv 0)) (aa (pv 1) ac))))))),?_⟩
 try dsimp only [bv,Cx.nox,Cx.wish]
 refine ak (s2:=[some v0,some v1]) rfl ?_
 obtain ⟨n,A,d,b,rfl,rfl,h,ok,st,ov,hb,q⟩:=h
 refine fJ (fun σ H1=>σ=[some (.ref n),some (.int b)]∧Kp (fpN n A) H H1∧NdAt c H1 n A (d.giveWay b)) ?_ ?_
 ·obtain ⟨⟨dx,sv,eo,es⟩,⟨⟨rx,ch,er,ec⟩,ew,ep,nwp⟩,⟨qs,eq,fq⟩,⟨ts,et,ft⟩,nd⟩:=id h
  have no:∀ H1,Same H H1→d.giveWay b=d→[some (V.ref n),some (.int b)]=[some (V.ref n),some (.int b)]∧Kp (fpN n A) H H1∧NdAt c H1 n A (d.giveWay b):=fun H1 s1 e=>⟨rfl,Same.kp s1,by rw [e];exact h.same s1⟩
  wtm_at "wp"
  refine ⟨n,A,d,b,rfl,rfl,h,fun s hs=>ok.more st hs ov,?_⟩
  wtm_at "wp"
  cases hh:d.hears b with
  | false=>
   wtm_at "wp"
   exact no H (Same.refl _) (by unfold Nd.giveWay;rw [hh];rfl)
  | true=>
   wtm_at "wp"
   refine aJ (fun c1 => ?_) (fun c1 => ?_)
   ·wtm_at "wp"
    refine ⟨A.r,A.w,A.p,d.ws,d.pl,rfl,⟨⟨rx,ch,er,ec⟩,ew,ep,nwp⟩,ok.rd,fun H1 s1 => ?_⟩
    wtm_at "wp"
    cases ha:d.atName with
    | true=>
     rw [show (!BB.due d.ws && decide (1≤d.pl.length) && decide (d.pl.length < 12))=true from ha]
     have eg:d.giveWay b={d with sn:=none}:=by unfold Nd.giveWay;rw [hh,ha,decide_eq_true c1];rfl
     wtm_at "wp"
     refine ⟨rfl,?_,?_⟩
     ·exact (Same.kp s1).upd (by simp [fpN]) (s1.get eo) (fun z=>z)
     ·rw [eg]
      exact (h.same s1).re ((Chg.refl [n] H1).upd (by simp)) ad rfl rfl rfl rfl rfl
    | false=>
     rw [show (!BB.due d.ws && decide (1≤d.pl.length) && decide (d.pl.length < 12))=false from ha]
     wtm_at "wp"
     exact no H1 s1 (by unfold Nd.giveWay;rw [ha,Bool.and_false];rfl)
   ·wtm_at "wp"
    exact no H (Same.refl _) (by unfold Nd.giveWay;rw [decide_eq_false c1,Bool.and_false,Bool.false_and];rfl)
 rintro σ H1 ⟨rfl,k1,h1⟩
 obtain ⟨e1,e2,e3,e4,e5,e6,e7⟩:=g9 d b
 have ok1:=ok.giveWay b
 have ov1:(d.giveWay b).over=false:=by unfold Nd.over;rw [e1,e2];exact ov
 have st1:(d.giveWay b).st = .frame:=by rw [e4];exact st
 have q1:=q.kp k1
 unfold Nd.hearStuffed at q1
 rw [← e1,← e2] at q1
 have hch:(d.giveWay b).ws=d.ws:=e1
 generalize d.giveWay b=d1 at *
 obtain ⟨⟨dx,sv,eo,es⟩,⟨⟨rx,ch,er,ec⟩,ew,ep,nwp⟩,⟨qs,eq,fq⟩,⟨ts,et,ft⟩,nd⟩:=id h1
 have cry:Post c H1 n A d1.cryOut Q→∀ N:St→Hp→Prop,(∀ H',Q .non H'→N [some (.ref n),some (.int b)] H')→vS (li c.D "cry_out" (d9 K c) [] E0 (jP 0) vr) {nx:=N,rt:=Q} [some (.ref n),some (.int b)] H1:=fun qc N hN=>by
  wtm_at "wp"
  refine ⟨n,dx,_,_,_,_,_,_,_,rfl,eo,fun H2 k2 e2 => ?_⟩
  wtm_at "wp"
  exact hN _ (h1.own qc k2 e2 es rfl rfl rfl rfl)
 wtm_at "wp"
 refine ⟨n,A,d1,b,rfl,rfl,h1,fun s hs=>ok1.more st1 hs ov1,?_⟩
 wtm_at "wp"
 cases hh:d1.hears b with
 | true=>
  rw [hh] at q1
  refine rj (rj ?_)
  exact cry q1 _ (fun H' z=>z)
 | false=>
  rw [hh] at q1
  refine vv ?_
  wtm_at "wp"
  refine rT (l:=aF d1.ws d1.pl) (.inr (by wtm_at "hg")) ?_
  wtm_at "wp"
  refine dR (fun c1 => ?_) (fun c1 => ?_)
  ·rw [decide_eq_false c1] at q1
   exact cry q1 _ (fun H' z=>z)
  ·rw [decide_eq_true c1] at q1
   wtm_at "wp"
   refine ⟨A.r,A.w,A.p,d1.ws,d1.pl,b,rfl,rfl,⟨⟨rx,ch,er,ec⟩,ew,ep,nwp⟩,ok1.rd,hb,c1,fun H2 k2 r2 => ?_⟩
   obtain ⟨a1,a2⟩:=h1.took k2 r2
   exact q1 H2 A a2 a1 (fun x hx => .inl hx)
abbrev dM:Stmt:=(aj (top 44) 11)
abbrev dC (K:PySem.W.Frag) (c:Cs):Sp:=sp2 fun u v H Q _=>∃ (n:Addr) (A:NA) (d:Nd) (b:Int),u = .ref n∧v = .int b∧NdAt c H n A d∧Q (.bl (d.wrong b)) H
theorem dD:FnScope ["self", "bit"] ["self", "bit"] (ai dM):=aQ
theorem dE (T:Txt K mg c):fR P w K mg base CX0 1 c.D "is_wrong_behind" ["self", "bit"] (dC K c):=by
 refine T.d_Node_is_wrong_behind.ok dD (fun _ _ _ _ _ _ us hl=>match us,hl with | [_,_],_=>rfl) gX (fun f cdv A outer s H vs Q E hr h => ?_)
 obtain ⟨v0,v1,rfl,h⟩:=h
 refine ⟨_,(ae (bc (aq b9 (ao (K:=K) (pv 0)) (pgi T.c_ANSWER_AT) (au _))
    (af (ay (oA (cb b9 (pv 1) ag (au _)) (oz (cb oO (ao (K:=K) (pv 0)) fG (au _))))))
    aG)
   (af (ay (cb b9 (pv 1) ag (au _))))),?_⟩
 try dsimp only [bv,Cx.nox,Cx.wish]
 refine ak (s2:=[some v0,some v1]) rfl ?_
 obtain ⟨n,A,d,b,rfl,rfl,h,q⟩:=h
 obtain ⟨⟨dx,sv,eo,es⟩,ro,⟨qs,eq,fq⟩,⟨ts,et,ft⟩,nd⟩:=id h
 wtm_at "wp"
 unfold Nd.wrong at q
 refine aJ (fun c1 => ?_) (fun c1 => ?_)
 ·rw [if_pos (by omega)] at q
  wtm_at "wp"
  refine aJ (fun c2 => ?_) (fun c2 => ?_)
  ·rw [decide_eq_true c2,Bool.true_and] at q
   wtm_at "wp"
   cases hsn:d.sn with
   | none=>
    rw [hsn] at es q
    cases es
    wtm_at "wp"
    exact q
   | some l=>
    rw [hsn] at es q
    obtain ⟨a,o,rfl,ea⟩:=es
    wtm_at "wp"
    exact q
  ·rw [decide_eq_false c2,Bool.false_and] at q
   exact q
 ·rw [if_neg (by omega)] at q
  wtm_at "wp"
  exact q
abbrev ib:Stmt:=(aj (top 44) 16)
abbrev gO (K:PySem.W.Frag) (c:Cs):Sp:=sp2 fun u v H Q _=>∃ (n:Addr) (A:NA) (d:Nd) (name:Int),u = .ref n∧v = .int name∧NdAt c H n A d∧name∈d.qu.map (·.1)∧d.qu.length≤900∧Post c H n A {d with qu:=Nd.dropName name d.qu} Q
theorem sc_Node_drop_first:FnScope ["self", "name", "names"] ["self", "name"] (ai ib):=aQ
theorem gP (T:Txt K mg c):fR P w K mg base CX0 1 c.D "drop_first" ["self", "name"] (gO K c):=by
 refine T.d_Node_drop_first.ok sc_Node_drop_first (fun _ _ _ _ _ _ us hl=>match us,hl with | [_,_],_=>rfl) gX (fun f cdv A outer s H vs Q E hr h => ?_)
 obtain ⟨v0,v1,rfl,h⟩:=h
 refine ⟨_,(ae (rQ (i:=2) (fv:=[]) (js:=[]) sc_Node_drop_first.nd rfl (.inl rfl) (aO (K:=K) (ao (K:=K) (pv 0)))  (fun fp s H=>(aW (aN (K:=K)) (pv 0) ag (fun _ _=>rfl))))
   (af (aC (bZ (K:=K) PySem.F.plainAttrs_list PySem.F.slot_list_pop PySem.F.type_list_pop uh (ao (K:=K) (pv 0)) (aa (bZ (K:=K) PySem.F.plainAttrs_list PySem.F.slot_list_index PySem.F.type_list_index (sj (K:=K)) (pv 2) (aa (pv 1) ac)) ac))))),?_⟩
 try dsimp only [bv,Cx.nox,Cx.wish]
 refine ak (s2:=[some v0,some v1,none]) rfl ?_
 obtain ⟨n,A,d,name,rfl,rfl,h,hn,hl,q⟩:=h
 obtain ⟨⟨dx,sv,eo,es⟩,ro,⟨qs,eq,fq⟩,⟨ts,et,ft⟩,nd⟩:=id h
 obtain ⟨⟨n1,n2,n3,n4,n5⟩,⟨m1,m2,m3,m4⟩,⟨o1,o2,o3⟩,⟨p1,p2⟩,q1⟩:=tO nd
 have ql:=fq.len
 wtm_at "wp"
 refine bB ?_
 wtm_at "wp"
 refine gC (zF H) (At.sqL eq) (small (by omega)) (fun i x H' R hx s1 hR => ?_) (fun D Hf s1 fD eD => ?_)
 ·obtain ⟨f,hf,t,r,o,rfl,a,b⟩:=cT fq hx
  show tOp _ _ _ [some (.ref t)] _ _
  wtm_at "wp"
  have:=hR H' (Same.refl _)
  rw [nT ⟨t,r,o,rfl,a,b⟩] at this
  exact this
 rw [nU fq] at eD
 have eD':At Hf D (.lst ((d.qu.map (·.1)).map V.int)):=eD
 wtm_at "wp"
 refine uR (ns:=d.qu.map (·.1)) (At.sqL eD') hn ?_
 have hj:(d.qu.map (·.1)).idxOf name < qs.length:=by
  have:=List.idxOf_lt_length_iff.mpr hn
  rw [List.length_map] at this
  omega
 have eq1:=s1.get eq
 refine ⟨A.q,qs,_,(d.qu.map (·.1)).idxOf name,qs[(d.qu.map (·.1)).idxOf name],rfl,rfl,eq1,by omega,by omega,?_,List.getElem?_eq_getElem hj,?_⟩
 ·unfold seqIndex?
  simp
  omega
 wtm_at "wp"
 have k2:Kp (fpN n A) H (upd Hf A.q (.lst (qs.eraseIdx ((d.qu.map (·.1)).idxOf name)))):=(Same.kp s1).upd (by simp [fpN]) eq1 (fun z=>z)
 have k3:Kp [A.q] H (upd Hf A.q (.lst (qs.eraseIdx ((d.qu.map (·.1)).idxOf name)))):=(Same.kp s1).upd (by simp) eq1 (fun z=>z)
 exact q _ A k2 ⟨⟨dx,sv,k3.get (aK n4) eo,es.kp k3⟩,ro.kp k3 (aK m3) (aK o2) (aK p1),⟨_,ad,pC _ (fq.kp k3)⟩,⟨ts,k3.get (aK (Ne.symm q1)) et,ft.kp k3⟩,nd⟩ (fun x hx => .inl hx)
abbrev iK:Stmt:=(aj (top 44) 15)
abbrev ic (K:PySem.W.Frag) (c:Cs):Sp:=sp1 fun u H Q _=>∃ (n:Addr) (A:NA) (d:Nd),u = .ref n∧NdAt c H n A d∧Rd d.ws d.pl∧aF d.ws d.pl=[]∧d.tk.length≤5000∧d.qu.length≤900∧(d.sn.isSome=true→dL d.pl∈d.qu.map (·.1))∧Post c H n A d.endFrame Q
theorem sc_Node_end_frame:FnScope ["self", "frame"] ["self"] (ai iK):=aQ
theorem ig (T:Txt K mg c):fR P w K mg base CX0 4 c.D "end_frame" ["self"] (ic K c):=by
 refine T.d_Node_end_frame.ok sc_Node_end_frame (fun _ _ _ _ _ _ us hl=>match us,hl with | [_],_=>rfl) iA (fun f cdv A outer s H vs Q E hr h => ?_)
 obtain ⟨v0,rfl,h⟩:=h
 refine ⟨_,(ae (az (i:=1) sc_Node_end_frame.nd rfl (.inl rfl) (cj (nR T) hr aw (aa (ao (K:=K) (ao (K:=K) (pv 0))) ac)))
   (cX (bc (aq ku (ao (K:=K) (pv 0)) fG (au _))
    (af (aC (bZ (K:=K) PySem.F.plainAttrs_list PySem.F.slot_list_append PySem.F.type_list_append bE (ao (K:=K) (pv 0)) (aa (pv 1) ac))))
    (af (aC (gq T.k_Node (gP T) hr aw (pv 0) (aa (aW (aN (K:=K)) (pv 1) ag (fun _ _=>rfl)) ac)))))
   (af (aC (gq T.k_Node (bO T) hr aw (pv 0) (aa (pgs T.c_REST) ac)))))),?_⟩
 try dsimp only [bv,Cx.nox,Cx.wish]
 refine ak (s2:=[some v0,none]) rfl ?_
 obtain ⟨n,A,d,rfl,h,rd,hov,hl,hql,hname,q⟩:=h
 obtain ⟨⟨dx,sv,eo,es⟩,⟨⟨rx,ch,er,ec⟩,ew,ep,nwp⟩,⟨qs,eq,fq⟩,⟨ts,et,ft⟩,nd⟩:=id h
 have tl:=ft.len
 wtm_at "wp"
 refine ⟨A.p,d.pl,rfl,At.sqL ep,(rd.fin.mp hov).2.1,rd.bp,fun t r o H1 s1 ftt ftr e1 e2 => ?_⟩
 have h1:=h.same s1
 have eo1:=s1.get eo
 have et1:=s1.get et
 wtm_at "wp"
 refine fJ (fun σ H2=>σ=[some (.ref n),some (.ref t)]∧∃ d1 A2,Kp (fpN n A) H H2∧NdAt c H2 n A2 d1∧(∀ x∈fpN n A2,x∈fpN n A∨aI H x)∧{d1 with st := .rest,ps:=0}=d.endFrame) ?_ ?_
 ·wtm_at "wp"
  cases hsn:d.sn with
  | none=>
   rw [hsn] at es
   cases es
   wtm_at "wp"
   obtain ⟨⟨n1,n2,n3,n4,n5⟩,⟨m1,m2,m3,m4⟩,⟨o1,o2,o3⟩,⟨p1,p2⟩,q1⟩:=tO nd
   refine bF et1 (eY (by omega)) ?_
   have k2:Kp (fpN n A) H (upd H1 A.t (.lst (ts++[.ref t]))):=(Same.kp s1).upd (by simp [fpN]) et1 (fun z=>z)
   have k3:Kp [A.t] H (upd H1 A.t (.lst (ts++[.ref t]))):=(Same.kp s1).upd (by simp) et1 (fun z=>z)
   have e1':At (upd H1 A.t (.lst (ts++[.ref t]))) t (.tup [.int (dL d.pl),.ref r]):=aP (e1.ne et1 (by intro z;cases z)) e1
   have e2':At (upd H1 A.t (.lst (ts++[.ref t]))) r (.frz o (.lst ((jD d.pl).map V.int))):=aP (e2.ne et1 (by intro z;cases z)) e2
   refine ⟨rfl,{d with tk:=d.tk++[(dL d.pl,jD d.pl)]},A,k2,⟨⟨dx,_,k3.get (aK n5) eo,by rw [hsn];rfl⟩,RdAt.kp ⟨⟨rx,ch,er,ec⟩,ew,ep,nwp⟩ k3 (aK m4) (aK o3) (aK p2),⟨qs,k3.get (aK q1) eq,fq.kp k3⟩,⟨_,ad,fO (ft.kp k3) (.cons ⟨t,r,o,rfl,e1',e2'⟩ .nil)⟩,nd⟩,fun x hx => .inl hx,?_⟩
   unfold Nd.endFrame
   rw [hsn]
  | some l=>
   rw [hsn] at es
   obtain ⟨a,ob,rfl,ea⟩:=es
   wtm_at "wp"
   refine ⟨n,A,d,dL d.pl,rfl,rfl,h1,hname (by rw [hsn];rfl),hql,fun H2 A2 k2 h2 f2 => ?_⟩
   refine ⟨rfl,_,A2,(Same.kp s1).trans k2,h2,fun x hx => ?_,?_⟩
   ·rcases f2 x hx with z | z
    ·exact .inl z
    ·exact .inr (s1.fr z)
   ·unfold Nd.endFrame
    rw [hsn]
 rintro σ H2 ⟨rfl,d1,A2,k2,h2,f2,ed⟩
 obtain ⟨⟨dx2,sv2,eo2,es2⟩,_⟩:=id h2
 wtm_at "wp"
 refine ⟨n,dx2,_,_,_,_,_,_,_,_,rfl,rfl,eo2,fun H3 k3 e3 => ?_⟩
 have kk:Kp (fpN n A) H2 H3:=Chg.kp k3 (by simp [fpN]) eo2 (fun z=>z)
 have kn:Kp [n] H2 H3:=Chg.kp k3 (by simp) eo2 (fun z=>z)
 refine q H3 A2 (k2.trans kk) ?_ f2
 rw [← ed]
 exact h2.re (d':={d1 with st := .rest,ps:=0}) k3 e3 (es2.kp kn) rfl rfl rfl rfl
abbrev gQ:Stmt:=(aj (top 44) 10)
abbrev gj (K:PySem.W.Frag) (c:Cs):Sp:=sp2 fun u v H Q _=>∃ (n:Addr) (A:NA) (d:Nd) (b:Int),u = .ref n∧v = .int b∧NdAt c H n A d∧NdOk d∧d.st = .frame∧d.over=true∧d.tk.length≤5000∧d.qu.length≤900∧Post c H n A (d.hearBehind b) Q
theorem gm:FnScope ["self", "bit"] ["self", "bit"] (ai gQ):=aQ
theorem gn (T:Txt K mg c):fR P w K mg base CX0 5 c.D "hear_behind" ["self", "bit"] (gj K c):=by
 refine T.d_Node_hear_behind.ok gm (fun _ _ _ _ _ _ us hl=>match us,hl with | [_,_],_=>rfl) gX (fun f cdv A outer s H vs Q E hr h => ?_)
 obtain ⟨v0,v1,rfl,h⟩:=h
 refine ⟨_,(ae (bc (dG (gq T.k_Node (dE T) hr aw (pv 0) (aa (pv 1) ac)))
    (ae (aC (g4 T.k_Node (eh T) hr aw (pv 0)))
    (af vT))
    aG)
   (ae (eM (K:=K) (pv 0) ag oF)
   (af (bc (aq b9 (ao (K:=K) (pv 0)) (pgi T.c_BITS_BEHIND) (au _))
    (af (aC (g4 T.k_Node (ig T) hr aw (pv 0))))
    aG)))),?_⟩
 try dsimp only [bv,Cx.nox,Cx.wish]
 refine ak (s2:=[some v0,some v1]) rfl ?_
 obtain ⟨n,A,d,b,rfl,rfl,h,ok,st,ov,hl,hql,q⟩:=h
 obtain ⟨⟨dx,sv,eo,es⟩,ro,⟨qs,eq,fq⟩,⟨ts,et,ft⟩,nd⟩:=id h
 wtm_at "wp"
 refine ⟨n,A,d,b,rfl,rfl,h,?_⟩
 unfold Nd.hearBehind at q
 wtm_at "wp"
 cases hw:d.wrong b with
 | true=>
  rw [hw] at q
  wtm_at "wp"
  refine ⟨n,dx,_,_,_,_,_,_,_,rfl,eo,fun H2 k2 e2 => ?_⟩
  wtm_at "wp"
  exact h.own (d':=d.cryOut) q k2 e2 es rfl rfl rfl rfl
 | false=>
  rw [hw] at q
  wtm_at "wp"
  have h1:NdAt c (upd H n (.ins c.D dx (ndF (.str d.st.str) (.int ((d.ps:Int)+1)) (.ref A.r) sv (.ref A.q) (.ref A.t) (.int (d.fc:Nat))))) n A {d with ps:=d.ps+1}:=
   h.re ((Chg.refl [n] H).upd (by simp)) (by rw [show (({d with ps:=d.ps+1}:Nd).ps:Int)=(d.ps:Int)+1 by show ((d.ps+1:Nat):Int)=_;omega];exact ad) (es.kp ((Kp.refl [n] H).upd (by simp) eo (fun z=>z))) rfl rfl rfl rfl
  have k1:Kp (fpN n A) H (upd H n (.ins c.D dx (ndF (.str d.st.str) (.int ((d.ps:Int)+1)) (.ref A.r) sv (.ref A.q) (.ref A.t) (.int (d.fc:Nat))))):=(Kp.refl _ H).upd (by simp [fpN]) eo (fun z=>z)
  have q1:=Post.kp q k1
  rw [if_neg (show ¬ (false=true) by decide)] at q1
  refine aJ (fun c1 => ?_) (fun c1 => ?_)
  ·rw [if_pos (by omega)] at q1
   wtm_at "wp"
   refine ⟨n,A,{d with ps:=d.ps+1},rfl,h1,ok.rd,of_decide_eq_true ov,hl,hql,fun z => ?_,?_⟩
   ·cases hsn:d.sn with
    | none=>rw [show ({d with ps:=d.ps+1}:Nd).sn=d.sn from rfl,hsn] at z;cases z
    | some s=>
     obtain ⟨f,hf,rfl,hp⟩:=ok.sn s st hsn
     obtain ⟨_,e2⟩:=ok.over_eq hf hp ov
     show dL d.pl∈d.qu.map (·.1)
     rw [e2,(j5 (ok.qu f hf)).1]
     exact List.mem_map.mpr ⟨f,hf,rfl⟩
   ·exact q1
  ·rw [if_neg (by omega)] at q1
   wtm_at "wp"
   exact q1 _ A (Kp.refl _ _) h1 (fun x hx => .inl hx)
abbrev fz:Stmt:=(aj (top 44) 7)
abbrev eF (K:PySem.W.Frag) (c:Cs):Sp:=sp2 fun u v H Q _=>∃ (n:Addr) (A:NA) (d:Nd) (b:Int),u = .ref n∧v = .int b∧NdAt c H n A d∧NdOk d∧d.st = .frame∧Bit b∧d.tk.length≤5000∧d.qu.length≤900∧Post c H n A (d.hearFrame b) Q
theorem eG:FnScope ["self", "bit"] ["self", "bit"] (ai fz):=aQ
theorem b8 (T:Txt K mg c):fR P w K mg base CX0 7 c.D "hear_in_frame" ["self", "bit"] (eF K c):=by
 refine T.d_Node_hear_in_frame.ok eG (fun _ _ _ _ _ _ us hl=>match us,hl with | [_,_],_=>rfl) gX (fun f cdv A outer s H vs Q E hr h => ?_)
 obtain ⟨v0,v1,rfl,h⟩:=h
 refine ⟨_,(af (bc (dG (g4 T.k_Reading (cS T) hr aw (ao (K:=K) (pv 0))))
    (af (aC (gq T.k_Node (gn T) hr aw (pv 0) (aa (pv 1) ac))))
    (af (aC (gq T.k_Node (fu T) hr aw (pv 0) (aa (pv 1) ac)))))),?_⟩
 try dsimp only [bv,Cx.nox,Cx.wish]
 refine ak (s2:=[some v0,some v1]) rfl ?_
 obtain ⟨n,A,d,b,rfl,rfl,h,ok,st,hb,hl,hql,q⟩:=h
 obtain ⟨⟨dx,sv,eo,es⟩,⟨⟨rx,ch,er,ec⟩,ew,ep,nwp⟩,⟨qs,eq,fq⟩,⟨ts,et,ft⟩,nd⟩:=id h
 wtm_at "wp"
 refine ⟨A.r,A.w,A.p,d.ws,d.pl,rfl,⟨⟨rx,ch,er,ec⟩,ew,ep,nwp⟩,fun H1 s1 => ?_⟩
 have h1:=h.same s1
 have eo1:=s1.get eo
 have q1:=Post.kp q (Same.kp s1)
 unfold Nd.hearFrame at q1
 wtm_at "wp"
 cases hov:d.over with
 | true=>
  rw [show decide (aF d.ws d.pl=[])=true from hov]
  rw [hov] at q1
  wtm_at "wp"
  exact ⟨n,A,d,b,rfl,rfl,h1,ok,st,hov,hl,hql,q1⟩
 | false=>
  rw [show decide (aF d.ws d.pl=[])=false from hov]
  rw [hov] at q1
  wtm_at "wp"
  exact ⟨n,A,d,b,rfl,rfl,h1,ok,st,hov,hb,q1⟩
theorem NdAt.passed {c:Cs} {H H':Hp} {n:Addr} {A:NA} {d:Nd} {Q:VK} {k:Nat} {s:Md} (h:NdAt c H n A d) (q:Post c H n A (d.passOne k s) Q) (ch:Chg [n] H H') {dx:Addr} {sv:V} (es:SnAt H sv d.sn)
  (e1:d.ps+1=k→At H' n (.ins c.D dx (ndF (.str s.str) (.int 0) (.ref A.r) sv (.ref A.q) (.ref A.t) (.int (d.fc:Nat)))))
  (e2:¬ d.ps+1=k→At H' n (.ins c.D dx (ndF (.str d.st.str) (.int ((d.ps+1:Nat):Int)) (.ref A.r) sv (.ref A.q) (.ref A.t) (.int (d.fc:Nat))))):Q .non H':=by
 unfold Nd.passOne at q
 by_cases z:d.ps+1=k
 ·rw [if_pos z] at q
  exact h.own q ch (e1 z) es rfl rfl rfl rfl
 ·rw [if_neg z] at q
  exact h.own q ch (e2 z) es rfl rfl rfl rfl
abbrev ii:Stmt:=(aj (top 44) 12)
abbrev gR (K:PySem.W.Frag) (c:Cs):Sp:=sp2 fun u v H Q _=>∃ (n:Addr) (A:NA) (d:Nd) (b:Int),u = .ref n∧v = .int b∧NdAt c H n A d∧Post c H n A (d.hearDazed b) Q
theorem gS:FnScope ["self", "bit"] ["self", "bit"] (ai ii):=aQ
theorem gT (T:Txt K mg c):fR P w K mg base CX0 3 c.D "hear_dazed" ["self", "bit"] (gR K c):=by
 refine T.d_Node_hear_dazed.ok gS (fun _ _ _ _ _ _ us hl=>match us,hl with | [_,_],_=>rfl) gX (fun f cdv A outer s H vs Q E hr h => ?_)
 obtain ⟨v0,v1,rfl,h⟩:=h
 refine ⟨_,(af (bc (aq b9 (pv 1) ag (au _))
    (af (bq (K:=K) (pv 0) ag))
    (af (aC (gq T.k_Node (cf T) hr aw (pv 0) (aa (pgi T.c_DAZED_ONES) (aa (pgs T.c_REST) ac))))))),?_⟩
 try dsimp only [bv,Cx.nox,Cx.wish]
 refine ak (s2:=[some v0,some v1]) rfl ?_
 obtain ⟨n,A,d,b,rfl,rfl,h,q⟩:=h
 obtain ⟨⟨dx,sv,eo,es⟩,ro,⟨qs,eq,fq⟩,⟨ts,et,ft⟩,nd⟩:=id h
 unfold Nd.hearDazed at q
 wtm_at "wp"
 refine aJ (fun c1 => ?_) (fun c1 => ?_)
 ·rw [if_pos c1] at q
  wtm_at "wp"
  exact h.own q ((Chg.refl [n] H).upd (by simp)) ad es rfl rfl rfl rfl
 ·rw [if_neg c1] at q
  wtm_at "wp"
  exact ⟨n,dx,_,_,_,_,_,_,d.ps,8,Md.rest.str,rfl,rfl,rfl,eo,fun H1 k1 a1 a2=>h.passed q k1 es a1 a2⟩
abbrev gp:Stmt:=(aj (top 44) 13)
abbrev fA (K:PySem.W.Frag) (c:Cs):Sp:=sp2 fun u v H Q _=>∃ (n:Addr) (A:NA) (d:Nd) (b:Int),u = .ref n∧v = .int b∧NdAt c H n A d∧NdOk d∧Bit b∧d.tk.length≤5000∧d.qu.length≤900∧Post c H n A (d.hearBetween b) Q
theorem fB:FnScope ["self", "bit"] ["self", "bit"] (ai gp):=aQ
theorem fC (T:Txt K mg c):fR P w K mg base CX0 8 c.D "hear_between" ["self", "bit"] (fA K c):=by
 refine T.d_Node_hear_between.ok fB (fun _ _ _ _ _ _ us hl=>match us,hl with | [_,_],_=>rfl) gX (fun f cdv A outer s H vs Q E hr h => ?_)
 obtain ⟨v0,v1,rfl,h⟩:=h
 refine ⟨_,(af (bc (aq b9 (pv 1) ag (au _))
    (ae (aC (gq T.k_Node (cM T) hr aw (pv 0) (aa fG ac)))
    (af (aC (gq T.k_Node (b8 T) hr aw (pv 0) (aa (pv 1) ac)))))
    (af (bc (aq b9 (ao (K:=K) (pv 0)) (pgs T.c_REST) (au _))
     (af (aC (gq T.k_Node (cf T) hr aw (pv 0) (aa (pgi T.c_REST_ONES) (aa (pgs T.c_FREE) ac)))))
     aG)))),?_⟩
 try dsimp only [bv,Cx.nox,Cx.wish]
 refine ak (s2:=[some v0,some v1]) rfl ?_
 obtain ⟨n,A,d,b,rfl,rfl,h,ok,hb,hl,hql,q⟩:=h
 obtain ⟨⟨dx,sv,eo,es⟩,ro,⟨qs,eq,fq⟩,⟨ts,et,ft⟩,nd⟩:=id h
 unfold Nd.hearBetween at q
 wtm_at "wp"
 refine aJ (fun c1 => ?_) (fun c1 => ?_)
 ·rw [if_pos c1] at q
  wtm_at "wp"
  refine ⟨n,A,d,none,rfl,h,rfl,fun H1 A1 k1 h1 f1 => ?_⟩
  obtain ⟨⟨dx1,sv1,eo1,es1⟩,_⟩:=id h1
  wtm_at "wp"
  refine ⟨n,A1,d.enter none,b,rfl,rfl,h1,ok.enter0,rfl,hb,hl,hql,fun H2 A2 k2 h2 f2 => ?_⟩
  have hin:∀ x∈fpN n A1,x∈fpN n A∨aI H x:=f1
  refine q H2 A2 ⟨fun x o hx e => ?_,fun x o i e=>k2.im x o i (k1.im x o i e)⟩ h2 (fun x hx => ?_)
  ·refine k2.ot x o (fun z => ?_) (k1.ot x o hx e)
   rcases hin x z with y | y
   ·exact hx y
   ·rw [y] at e;cases e
  ·rcases f2 x hx with z | z
   ·exact hin x z
   ·by_cases y:x∈fpN n A
    ·exact .inl y
    ·exact .inr (k1.fr y z)
 ·rw [if_neg c1] at q
  wtm_at "wp"
  refine aJ (fun c2 => ?_) (fun c2 => ?_)
  ·rw [if_pos (md_inj.mp c2)] at q
   wtm_at "wp"
   exact ⟨n,dx,_,_,_,_,_,_,d.ps,3,Md.free.str,rfl,rfl,rfl,eo,fun H1 k1 a1 a2=>h.passed q k1 es a1 a2⟩
  ·rw [if_neg (fun z=>c2 (md_inj.mpr z))] at q
   wtm_at "wp"
   exact q H A (Kp.refl _ _) h (fun x hx => .inl hx)
abbrev n6:Stmt:=(aj (top 44) 6)
abbrev mj (K:PySem.W.Frag) (c:Cs):Sp:=sp2 fun u v H Q _=>∃ (n:Addr) (A:NA) (d:Nd) (b:Int),u = .ref n∧v = .int b∧NdAt c H n A d∧NdOk d∧Bit b∧d.tk.length≤5000∧d.qu.length≤900∧Post c H n A (d.hear b) Q
theorem ml:FnScope ["self", "bit"] ["self", "bit"] (ai n6):=aQ
theorem mn (T:Txt K mg c):fR P w K mg base CX0 9 c.D "hear" ["self", "bit"] (mj K c):=by
 refine T.d_Node_hear.ok ml (fun _ _ _ _ _ _ us hl=>match us,hl with | [_,_],_=>rfl) gX (fun f cdv A outer s H vs Q E hr h => ?_)
 obtain ⟨v0,v1,rfl,h⟩:=h
 refine ⟨_,(af (bc (aq b9 (ao (K:=K) (pv 0)) (pgs T.c_FRAME) (au _))
    (af (aC (gq T.k_Node (b8 T) hr aw (pv 0) (aa (pv 1) ac))))
    (af (bc (aq b9 (ao (K:=K) (pv 0)) (pgs T.c_CRY) (au _))
     (af (aC (gq T.k_Node (cf T) hr aw (pv 0) (aa (pgi T.c_CRIED_BITS) (aa (pgs T.c_DAZED) ac)))))
     (af (bc (aq b9 (ao (K:=K) (pv 0)) (pgs T.c_DAZED) (au _))
      (af (aC (gq T.k_Node (gT T) hr aw (pv 0) (aa (pv 1) ac))))
      (af (aC (gq T.k_Node (fC T) hr aw (pv 0) (aa (pv 1) ac)))))))))),?_⟩
 try dsimp only [bv,Cx.nox,Cx.wish]
 refine ak (s2:=[some v0,some v1]) rfl ?_
 obtain ⟨n,A,d,b,rfl,rfl,h,ok,hb,hl,hql,q⟩:=h
 obtain ⟨⟨dx,sv,eo,es⟩,ro,⟨qs,eq,fq⟩,⟨ts,et,ft⟩,nd⟩:=id h
 unfold Nd.hear at q
 wtm_at "wp"
 refine aJ (fun c1 => ?_) (fun c1 => ?_)
 ·have st:d.st = .frame:=md_inj.mp c1
  rw [st] at q
  wtm_at "wp"
  exact ⟨n,A,d,b,rfl,rfl,h,ok,st,hb,hl,hql,q⟩
 wtm_at "wp"
 refine aJ (fun c2 => ?_) (fun c2 => ?_)
 ·have st:d.st = .cry:=md_inj.mp c2
  rw [st] at q
  wtm_at "wp"
  exact ⟨n,dx,_,_,_,_,_,_,d.ps,6,Md.dazed.str,rfl,rfl,rfl,eo,fun H1 k1 a1 a2=>h.passed q k1 es a1 a2⟩
 wtm_at "wp"
 refine aJ (fun c3 => ?_) (fun c3 => ?_)
 ·have st:d.st = .dazed:=md_inj.mp c3
  rw [st] at q
  wtm_at "wp"
  exact ⟨n,A,d,b,rfl,rfl,h,q⟩
 ·have q':Post c H n A (d.hearBetween b) Q:=by
   cases hst:d.st with
   | frame=>exact absurd (md_inj.mpr hst) c1
   | cry=>exact absurd (md_inj.mpr hst) c2
   | dazed=>exact absurd (md_inj.mpr hst) c3
   | free=>rw [hst] at q;exact q
   | rest=>rw [hst] at q;exact q
  wtm_at "wp"
  exact ⟨n,A,d,b,rfl,rfl,h,ok,hb,hl,hql,q'⟩
abbrev jq:Stmt:=(aj (top 44) 0)
abbrev iL (K:PySem.W.Frag) (c:Cs):Sp:=sp1 fun u H Q _=>∃ x dx,u = .ref x∧At H x (.ins c.D dx [])∧(∀ H' A,Chg [x] H H'→(∀ y∈[A.r,A.w,A.p,A.q,A.t],aI H y)→NdAt c H' x A Nd.new→Q .non H')
theorem iM:FnScope ["self"] ["self"] (ai jq):=aQ
theorem iN (T:Txt K mg c):xP P w K mg base CX0 7 c.D ["self"] (iL K c):=by
 refine T.d_Node___init__.ok iM (fun _ _ _ _ _ _ us hl=>match us,hl with | [_],_=>rfl) iA (fun f cdv A outer s H vs Q E hr h => ?_)
 obtain ⟨v0,rfl,h⟩:=h
 refine ⟨_,(ae (bq (K:=K) (pv 0) (pgs T.c_FREE))
   (ae (bq (K:=K) (pv 0) ag)
   (ae (bq (K:=K) (pv 0) (rJ (cL T) hr T.m_Reading aw))
   (ae (bq (K:=K) (pv 0) fG)
   (ae (bq (K:=K) (pv 0) (bd ac))
   (ae (bq (K:=K) (pv 0) (bd ac))
   (af (bq (K:=K) (pv 0) ag)))))))),?_⟩
 try dsimp only [bv,Cx.nox,Cx.wish]
 refine ak (s2:=[some v0]) rfl ?_
 obtain ⟨x,dx,rfl,ex,q⟩:=h
 wtm_at "wp"
 intro r rx hr1 hrx nrx
 have hrH:aI H r:=by wtm_at "hf"
 have nxr:x≠r:=aD hr1 ad
 wtm_at "wp"
 refine ⟨r,rx,rfl,ad,fun H1 w p k1 fw fp ro=>⟨rfl,?_⟩⟩
 have s1:=Chg.made hr1 hrx k1
 have fw1:=vD fw
 have fp1:=vD fp
 have nxw:x≠w:=aD fw1 ad
 have nxp:x≠p:=aD fp1 ad
 have fwH:aI H w:=by wtm_at "hf"
 have fpH:aI H p:=by wtm_at "hf"
 have e1:=s1.get (ad (H:=upd H x (.ins c.D dx (eI "state" (.str Md.free.str) []))) (a:=x) (o := .ins c.D dx (eI "passed" (.int 0) (eI "state" (.str Md.free.str) []))))
 have c1:Chg [x] H H1:=(((Chg.refl [x] H).upd (by simp)).upd (by simp)).trans (Same.chg s1)
 obtain ⟨⟨rx2,ch,er,ec⟩,ew,ep,nwp⟩:=ro
 have nrw:r≠w:=er.ne ew (by intro z;cases z)
 have nrp:r≠p:=er.ne ep (by intro z;cases z)
 have ncx:ch≠x:=ec.ne e1 (by intro z;cases z)
 clear k1 hr1 hrx fw fp fw1 fp1
 generalize hG:H1=G at *
 clear s1 hG
 wtm_at "wp"
 refine ⟨small (show 0≤1000 by decide),fun qa hqa => ?_⟩
 have nxq:x≠qa:=aD hqa ad
 have nrq:r≠qa:=aD hqa (by wtm_at "hg")
 have nwq:w≠qa:=aD hqa (by wtm_at "hg")
 have npq:p≠qa:=aD hqa (by wtm_at "hg")
 have fqG:aI G qa:=by wtm_at "hf"
 wtm_at "wp"
 refine ⟨small (show 0≤1000 by decide),fun ta hta => ?_⟩
 have nxt:x≠ta:=aD hta ad
 have nrt:r≠ta:=aD hta (by wtm_at "hg")
 have nwt:w≠ta:=aD hta (by wtm_at "hg")
 have npt:p≠ta:=aD hta (by wtm_at "hg")
 have nqt:qa≠ta:=aD hta (by wtm_at "hg")
 have ftG:aI G ta:=by wtm_at "hf"
 wtm_at "wp"
 have fqH:aI H qa:=Chg.fr c1 (aK (Ne.symm nxq)) fqG
 have ftH:aI H ta:=Chg.fr c1 (aK (Ne.symm nxt)) ftG
 refine q _ ⟨r,w,p,qa,ta⟩ (by wtm_at "hc") (fun y hy => ?_) ⟨⟨dx,.non,ad,rfl⟩,(show RdAt c _ r w p [] [] from ⟨⟨rx2,ch,by wtm_at "hg",by wtm_at "hg"⟩,by wtm_at "hg",by wtm_at "hg",nwp⟩),⟨[],by wtm_at "hg",.nil⟩,⟨[],by wtm_at "hg",.nil⟩,?_⟩
 ·simp only [List.mem_cons,List.not_mem_nil,or_false] at hy
  rcases hy with rfl | rfl | rfl | rfl | rfl
  ·exact hrH
  ·exact fwH
  ·exact fpH
  ·exact fqH
  ·exact ftH
 ·simp only [fpN,List.nodup_cons,List.mem_cons,List.not_mem_nil,or_false,not_or,List.nodup_nil,not_false_eq_true,and_true]
  exact ⟨⟨nxr,nxw,nxp,nxq,nxt⟩,⟨nrw,nrp,nrq,nrt⟩,⟨nwp,nwq,nwt⟩,⟨npq,npt⟩,nqt⟩
theorem NdAt.live {c:Cs} {H:Hp} {n:Addr} {A:NA} {d:Nd} (h:NdAt c H n A d):∀ x∈fpN n A,∃ o,At H x o∧¬ Im o:=by
 obtain ⟨⟨dx,sv,eo,es⟩,⟨⟨rx,ch,er,ec⟩,ew,ep,nwp⟩,⟨qs,eq,fq⟩,⟨ts,et,ft⟩,nd⟩:=h
 intro x hx
 simp only [fpN,List.mem_cons,List.not_mem_nil,or_false] at hx
 rcases hx with rfl | rfl | rfl | rfl | rfl | rfl
 ·exact ⟨_,eo,fun z=>z⟩
 ·exact ⟨_,er,fun z=>z⟩
 ·exact ⟨_,ew,fun z=>z⟩
 ·exact ⟨_,ep,fun z=>z⟩
 ·exact ⟨_,eq,fun z=>z⟩
 ·exact ⟨_,et,fun z=>z⟩
abbrev NE:=Addr×NA×Nd
def fpE (x:NE):List Addr:=fpN x.1 x.2.1
structure Nodes (c:Cs) (H:Hp) (ns:List NE):Prop where
 at_:∀ x∈ns,NdAt c H x.1 x.2.1 x.2.2
 sep:ns.Pairwise fun x y=>∀ a∈fpE x,a∉fpE y
theorem Nodes.kp {c:Cs} {H H':Hp} {ns:List NE} {S:List Addr} (h:Nodes c H ns) (k:Kp S H H') (hd:∀ x∈ns,∀ a∈fpE x,a∉S):Nodes c H' ns:=⟨fun x hx=>(h.at_ x hx).kp k (hd x hx),h.sep⟩
theorem Nodes.set {c:Cs} {H H':Hp} {pre post:List NE} {n:Addr} {A A':NA} {d d':Nd} (h:Nodes c H (pre++(n,A,d) :: post)) (k:Kp (fpN n A) H H') (h':NdAt c H' n A' d') (f:∀ x∈fpN n A',x∈fpN n A∨aI H x) :
  Nodes c H' (pre++(n,A',d') :: post):=by
 obtain ⟨ha,hs⟩:=h
 rw [List.pairwise_append,List.pairwise_cons] at hs
 obtain ⟨s1,⟨s2,s3⟩,s4⟩:=hs
 have other:∀ x,x∈pre∨x∈post→∀ a∈fpE x,a∉fpN n A:=fun x hx a ha1 ha2=>by
  rcases hx with z | z
  ·exact s4 x z (n,A,d) List.mem_cons_self a ha1 ha2
  ·exact s2 x z a ha2 ha1
 have new:∀ x,x∈pre∨x∈post→∀ a∈fpE x,a∉fpN n A':=fun x hx a ha1 ha2=>by
  rcases f a ha2 with z | z
  ·exact other x hx a ha1 z
  ·obtain ⟨o,e,_⟩:=(ha x (by rw [List.mem_append,List.mem_cons];rcases hx with y | y;exact .inl y;exact .inr (.inr y))).live a ha1
   exact (aD z e) rfl
 refine ⟨fun x hx => ?_,?_⟩
 ·rw [List.mem_append,List.mem_cons] at hx
  rcases hx with z | rfl | z
  ·exact (ha x (List.mem_append_left _ z)).kp k (other x (.inl z))
  ·exact h'
  ·exact (ha x (List.mem_append_right _ (List.mem_cons_of_mem _ z))).kp k (other x (.inr z))
 ·rw [List.pairwise_append,List.pairwise_cons]
  refine ⟨s1,⟨fun y hy a h1 h2=>new y (.inr hy) a h2 h1,s3⟩,fun x hx y hy a h1 h2 => ?_⟩
  rcases List.mem_cons.mp hy with rfl | z
  ·exact new x (.inl hx) a h1 h2
  ·exact s4 x hx y (List.mem_cons_of_mem _ z) a h1 h2
def fpB (b:Addr) (ns:List NE):List Addr:=b :: ns.flatMap fpE
structure BusAt (c:Cs) (H:Hp) (b:Addr) (F:List Addr) (as:List Addr) (ds:List Nd) (t:Nat):Prop where
 ex:∃ (dx l:Addr) (o:Obj) (ns:List NE),At H b (.ins c.U dx (buF (.ref l) (.int (t:Nat))))∧At H l (.frz o (.lst (as.map V.ref)))∧Nodes c H ns∧ns.map (·.1)=as∧ns.map (·.2.2)=ds∧F=fpB b ns∧b∉ns.flatMap fpE
def xC (c:Cs) (H:Hp) (b:Addr) (F as:List Addr) (ds:List Nd) (t:Nat) (v:V) (Q:VK):Prop:=∀ H' F',Kp F H H'→BusAt c H' b F' as ds t→(∀ x∈F',x∈F∨aI H x)→Q v H'
theorem BusAt.live {c:Cs} {H:Hp} {b:Addr} {F as:List Addr} {ds:List Nd} {t:Nat} (h:BusAt c H b F as ds t):∀ x∈F,∃ o,At H x o∧¬ Im o:=by
 obtain ⟨dx,l,o,ns,e1,e2,e3,e4,e5,rfl,e7⟩:=h.ex
 intro x hx
 rcases List.mem_cons.mp hx with rfl | z
 ·exact ⟨_,e1,fun z=>z⟩
 ·obtain ⟨y,hy,hz⟩:=List.mem_flatMap.mp z
  exact (e3.at_ y hy).live x hz
theorem BusAt.kp {c:Cs} {H H':Hp} {b:Addr} {F S as:List Addr} {ds:List Nd} {t:Nat} (h:BusAt c H b F as ds t) (k:Kp S H H') (hd:∀ x∈F,x∉S):BusAt c H' b F as ds t:=by
 obtain ⟨dx,l,o,ns,e1,e2,e3,e4,e5,rfl,e7⟩:=h.ex
 exact ⟨dx,l,o,ns,k.get (hd b (by simp [fpB])) e1,k.frz e2,e3.kp k (fun x hx a ha=>hd a (List.mem_cons_of_mem _ (List.mem_flatMap.mpr ⟨x,hx,ha⟩))),e4,e5,rfl,e7⟩
theorem BusAt.same {c:Cs} {H H':Hp} {b:Addr} {F as:List Addr} {ds:List Nd} {t:Nat} (h:BusAt c H b F as ds t) (s:Same H H'):BusAt c H' b F as ds t:=h.kp (S:=[]) (Same.kp s) (fun _ _ z=>by cases z)
theorem BusAt.len {c:Cs} {H:Hp} {b:Addr} {F as:List Addr} {ds:List Nd} {t:Nat} (h:BusAt c H b F as ds t):as.length=ds.length:=by
 obtain ⟨dx,l,o,ns,e1,e2,e3,e4,e5,e6,e7⟩:=h.ex
 rw [← e4,← e5,List.length_map,List.length_map]
theorem Nodes.nth {c:Cs} {H:Hp} {ns:List NE} (h:Nodes c H ns) {i:Nat} {x:NE} (e:ns[i]? = some x):NdAt c H x.1 x.2.1 x.2.2:=h.at_ x (List.mem_of_getElem? e)
theorem tP {α:Type} {l:List α} {i:Nat} {x:α} (h:l[i]? = some x):l=l.take i++x :: l.drop (i+1):=by
 obtain ⟨hi,e⟩:=List.getElem?_eq_some_iff.mp h
 rw [← e]
 conv=>lhs;rw [← List.take_append_drop i l,List.drop_eq_getElem_cons hi]
theorem tQ {α:Type} {l:List α} {i:Nat} {x y:α} (h:l[i]? = some x):l.set i y=l.take i++y :: l.drop (i+1):=by
 obtain ⟨hi,e⟩:=List.getElem?_eq_some_iff.mp h
 rw [List.set_eq_take_append_cons_drop,if_pos hi]
theorem Nodes.setAt {c:Cs} {H H':Hp} {ns:List NE} (h:Nodes c H ns) {i:Nat} {n:Addr} {A A':NA} {d d':Nd} (e:ns[i]? = some (n,A,d)) (k:Kp (fpN n A) H H') (h':NdAt c H' n A' d') (f:∀ x∈fpN n A',x∈fpN n A∨aI H x):Nodes c H' (ns.set i (n,A',d')):=by
 rw [tQ e]
 rw [tP e] at h
 exact h.set k h' f
theorem vM {ns:List NE} {i:Nat} {n:Addr} {A A':NA} {d d':Nd} {H:Hp} (e:ns[i]? = some (n,A,d)) (f:∀ x∈fpN n A',x∈fpN n A∨aI H x):∀ x∈(ns.set i (n,A',d')).flatMap fpE,x∈ns.flatMap fpE∨aI H x:=by
 intro x hx
 obtain ⟨y,hy,hz⟩:=List.mem_flatMap.mp hx
 rcases List.mem_or_eq_of_mem_set hy with z | rfl
 ·exact .inl (List.mem_flatMap.mpr ⟨y,z,hz⟩)
 ·rcases f x hz with z | z
  ·exact .inl (List.mem_flatMap.mpr ⟨_,List.mem_of_getElem? e,z⟩)
  ·exact .inr z
theorem vN {ns:List NE} {i:Nat} {x:NE} (e:ns[i]? = some x):∀ a∈fpE x,a∈ns.flatMap fpE:=fun a ha=>List.mem_flatMap.mpr ⟨x,List.mem_of_getElem? e,ha⟩
def CpD (D:Addr) (H H':Hp) (v:V) (f:Fr):Prop:=∃ t r,v = .ref t∧At H' t (.tup [.int f.1,.ref r])∧At H' r (.lst (f.2.map V.int))∧aI H t∧aI H r∧r≠D
def Cp (H H':Hp) (v:V) (f:Fr):Prop:=∃ t r,v = .ref t∧At H' t (.tup [.int f.1,.ref r])∧At H' r (.lst (f.2.map V.int))∧aI H t∧aI H r
theorem aL {α:Type} {l:List α} {i:Nat} {b:α} (h:l[i]? = some b):l.take (i+1)=l.take i++[b]:=by
 obtain ⟨hi,e⟩:=List.getElem?_eq_some_iff.mp h
 rw [List.take_succ_eq_append_getElem hi,e]
abbrev n9:Stmt:=(top 47)
abbrev mq (K:PySem.W.Frag) (c:Cs):Sp:=sp1 fun u H Q _=>∃ (a:Addr) (vs:List V) (fs:List Fr),u = .ref a∧SqL K H a vs∧Frs H vs fs∧fs.length≤5000∧(∀ D us H',Same H H'→aI H D→At H' D (.lst us)→Paired (Cp H H') us fs→Q (.ref D) H')
theorem mr:FnScope ["frames"] ["frames"] (ai n9):=aQ
theorem iy (T:Txt K mg c):fI P w K mg base CX0 1 "copies_of" ["frames"] (mq K c):=by
 refine T.d_copies_of.ok mr (fun _ _ _ _ _ _ us hl=>match us,hl with | [_],_=>rfl) iA (fun f cdv A outer s H vs Q E hr h => ?_)
 obtain ⟨v0,rfl,h⟩:=h
 refine ⟨_,(af (ay (ce [] [] (aO (K:=K) (pv 0)) (fun fp s H=>(ci (aa (aW (aN (K:=K)) (pv 0) ag (fun _ _=>rfl)) (aa (cZ (cG (K:=K)) rfl T.list PyProof.Rows.boot_list (aa (aW (aN (K:=K)) (pv 0) ag (fun _ _=>rfl)) ac)) ac))))))),?_⟩
 try dsimp only [bv,Cx.nox,Cx.wish]
 refine ak (s2:=[some v0]) rfl ?_
 obtain ⟨a,vs,fs,rfl,hS,hf,hl,q⟩:=h
 have ql:=hf.len
 wtm_at "wp"
 refine bB ?_
 wtm_at "wp"
 refine c7 (xs:=vs) (fun D i ys H2=>Same H H2∧At H2 D (.lst ys)∧aI H D∧Paired (CpD D H H2) ys (fs.take i)) hS (Nat.le_of_lt (eY (by omega))) (fun D hD=>⟨ap hD _,ad,hD,.nil⟩) (fun D i ys H2 hi ⟨s2,e2,f2,p2⟩=>⟨e2,s2.seq hS,?_⟩) (fun D i x ys H2 hx ⟨s2,e2,f2,p2⟩ => ?_) (fun D ys H2 ⟨s2,e2,f2,p2⟩ => ?_)
 ·have:=Paired.length p2
  rw [List.length_take] at this
  omega
 ·have hi:i < vs.length:=(List.getElem?_eq_some_iff.mp hx).1
  obtain ⟨f,hfi,t,r,o,rfl,et,er⟩:=cT hf hx
  have et2:=s2.get et
  have er2:=s2.get er
  show zX _ [some (.ref t)] _ _
  wtm_at "wp"
  intro l hl1
  wtm_at "wp"
  refine ⟨small (show 2≤1000 by decide),fun u hu => ?_⟩
  have nlD:l≠D:=Ne.symm (aD hl1 e2)
  have nuD:u≠D:=Ne.symm (aD hu (aA hl1 e2))
  have eD:At (upd (upd H2 l (.lst (f.2.map V.int))) u (.tup [.int f.1,.ref l])) D (.lst ys):=aA hu (aA hl1 e2)
  have s3:Same H (upd (upd H2 l (.lst (f.2.map V.int))) u (.tup [.int f.1,.ref l])):=(s2.new hl1).new hu
  refine iB hi eD ⟨s3.upF f2,ad,f2,?_⟩
  rw [aL hfi]
  refine fO (Paired.mapP p2 fun v g ⟨t',r',e,a1,a2,a3,a4,a5⟩=>⟨t',r',e,?_,?_,a3,a4,a5⟩) (.cons ⟨u,l,rfl,aP nuD ad,aP nlD (aA hu ad),s2.fr (ze hu),s2.fr hl1,nlD⟩ .nil)
  ·exact aP (a1.ne e2 (by intro z;cases z)) (aA hu (aA hl1 a1))
  ·exact aP a5 (aA hu (aA hl1 a2))
 ·rw [ql,List.take_of_length_le (Nat.le_refl _)] at p2
  exact q D ys H2 s2 f2 e2 (Paired.mapP p2 fun v g ⟨t',r',e,a1,a2,a3,a4,_⟩=>⟨t',r',e,a1,a2,a3,a4⟩)
abbrev jK:Stmt:=(aj (top 48) 0)
abbrev jr (K:PySem.W.Frag) (c:Cs):Sp:=sp2 fun u v H Q _=>∃ (x dx:Addr) (m:Nat),u = .ref x∧v = .int (m:Nat)∧At H x (.ins c.U dx [])∧1≤m∧m≤8∧(∀ H' F as,Chg [x] H H'→(∀ y∈F,y=x∨aI H y)→as.length=m→BusAt c H' x F as (List.replicate m Nd.new) 0→Q .non H')
theorem jt:FnScope ["self", "many"] ["self", "many"] (ai jK):=aQ
theorem ju (T:Txt K mg c):xP P w K mg base CX0 9 c.U ["self", "many"] (jr K c):=by
 refine T.d_Bus___init__.ok jt (fun _ _ _ _ _ _ us hl=>match us,hl with | [_,_],_=>rfl) gX (fun f cdv A outer s H vs Q E hr h => ?_)
 obtain ⟨v0,v1,rfl,h⟩:=h
 refine ⟨_,(ae (bc (PW.pt (mX (aq kd (pv 1) ag (au _)) (iP (aq mZ (pv 1) (pgi T.c_MOST_NODES) (au _)))))
    (af tZ)
    aG)
   (ae (bq (K:=K) (pv 0) (oU (ce [] [] (bN rfl T.range (aa (pv 1) ac)) (fun fp s H=>(rJ (iN T) hr T.m_Node aw)))))
   (af (bq (K:=K) (pv 0) ag)))),?_⟩
 try dsimp only [bv,Cx.nox,Cx.wish]
 refine ak (s2:=[some v0,some v1]) rfl ?_
 obtain ⟨x,dx,m,rfl,rfl,ex,hm1,hm8,q⟩:=h
 wtm_at "wp"
 refine yQ (by omega) ?_
 wtm_at "wp"
 refine yQ (by omega) ?_
 wtm_at "wp"
 refine kz ?_
 wtm_at "wp"
 refine lO m (fun D i ys H2=>∃ ns:List NE,Same H H2∧At H2 D (.lst ys)∧aI H D∧ys=ns.map (fun z=>V.ref z.1)∧Nodes c H2 ns∧ns.map (·.2.2)=List.replicate i Nd.new∧∀ a∈ns.flatMap fpE,aI H a∧a≠D) (by omega) (by omega) (small (by omega))
  (fun D hD=>⟨[],ap hD _,ad,hD,rfl,⟨fun z hz=>(by cases hz),List.Pairwise.nil⟩,rfl,fun a ha=>(by cases ha)⟩) (fun D i ys H2 hi ⟨ns,s2,e2,f2,ey,n2,d2,a2⟩=>⟨e2,?_⟩) (fun D i ys H2 hi ⟨ns,s2,e2,f2,ey,n2,d2,a2⟩ => ?_) (fun D ys H2 ⟨ns,s2,e2,f2,ey,n2,d2,a2⟩ => ?_)
 ·have:=congrArg List.length d2
  rw [List.length_map,List.length_replicate] at this
  rw [ey,List.length_map,this]
  exact Nat.le_refl _
 ·show pM _ _ _ _ _ [some (.int (i:Int))] _ _
  wtm_at "wp"
  intro n nx hn hnx nnx
  refine ⟨_,rfl,n,nx,rfl,ad,fun H3 A k3 f3 h3=>⟨rfl,?_⟩⟩
  have s3:Same H2 H3:=Chg.made hn hnx k3
  have eD:=s3.get e2
  have ffp:∀ a∈fpN n A,aI H2 a:=fun a ha=>by
   rcases List.mem_cons.mp ha with rfl | z
   ·exact hn
   ·exact vD (f3 a z)
  have nD:∀ a∈fpN n A,a≠D:=fun a ha=>Ne.symm (aD (ffp a ha) e2)
  refine iB hi eD ⟨ns++[(n,A,Nd.new)],(s2.trans s3).upF f2,ad,f2,by rw [ey,List.map_append];rfl,?_,?_,?_⟩
  ·have hk:Kp [D] H3 (upd H3 D (.lst (ys++[.ref n]))):=(Kp.refl _ _).upd (by simp) eD (fun z=>z)
   have n3:Nodes c H3 ns:=n2.kp (S:=[]) (Same.kp s3) (fun _ _ _ _ z=>by cases z)
   refine ⟨fun z hz => ?_,?_⟩
   ·rcases List.mem_append.mp hz with y | y
    ·exact (n3.at_ z y).kp hk (fun a ha=>aK (a2 a (List.mem_flatMap.mpr ⟨z,y,ha⟩)).2)
    ·rw [List.mem_singleton.mp y]
     exact h3.kp hk (fun a ha=>aK (nD a ha))
   ·rw [List.pairwise_append]
    refine ⟨n2.sep,List.pairwise_singleton _ _,fun z hz w hw a h1 h2 => ?_⟩
    rw [List.mem_singleton.mp hw] at h2
    obtain ⟨o,e,_⟩:=(n2.at_ z hz).live a h1
    exact (aD (ffp a h2) e) rfl
  ·rw [List.map_append,d2,List.replicate_succ']
   rfl
  ·intro a ha
   rw [List.flatMap_append,List.mem_append] at ha
   rcases ha with z | z
   ·exact a2 a z
   ·have z':a∈fpN n A:=by simpa [fpE] using z
    exact ⟨s2.fr (ffp a z'),nD a z'⟩
 ·refine kB e2 (fun o => ?_)
  have s3:Same H (upd H2 D (.frz o (.lst ys))):=s2.upF f2
  have k3:Kp [D] H2 (upd H2 D (.frz o (.lst ys))):=(Kp.refl _ _).upd (by simp) e2 (fun z=>z)
  have n3:Nodes c (upd H2 D (.frz o (.lst ys))) ns:=n2.kp k3 (fun z hz a ha=>aK (a2 a (List.mem_flatMap.mpr ⟨z,hz,ha⟩)).2)
  have eD:At (upd H2 D (.frz o (.lst ys))) D (.frz o (.lst ys)):=ad
  generalize upd H2 D (.frz o (.lst ys))=H3 at *
  have ex3:=s3.get ex
  wtm_at "wp"
  have c4:Chg [x] H3 (upd (upd H3 x (.ins c.U dx (eI "nodes" (.ref D) []))) x (.ins c.U dx (eI "bits_past" (.int 0) (eI "nodes" (.ref D) [])))):=((Chg.refl [x] H3).upd (by simp)).upd (by simp)
  have k4:=Chg.kp (S:=[x]) c4 (by simp) ex3 (fun z=>z)
  have nxa:∀ a∈ns.flatMap fpE,a≠x:=fun a ha=>Ne.symm (aD (a2 a ha).1 ex)
  refine q _ (fpB x ns) (ns.map (·.1)) ((Same.chg s3).trans c4) (fun y hy => ?_) ?_ ⟨dx,D,o,ns,ad,?_,n3.kp k4 (fun z hz a ha=>aK (nxa a (List.mem_flatMap.mpr ⟨z,hz,ha⟩))),rfl,d2,rfl,fun z=>nxa x z rfl⟩
  ·rcases List.mem_cons.mp hy with z | z
   ·exact .inl z
   ·exact .inr (a2 y z).1
  ·have:=congrArg List.length d2
   rw [List.length_map,List.length_replicate] at this
   rw [List.length_map,this]
  ·rw [ey] at eD
   rw [List.map_map]
   exact k4.frz eD
abbrev kT:Stmt:=(aj (top 48) 1)
abbrev jL (K:PySem.W.Frag) (c:Cs):Sp:=sp2 fun u v H Q E=>∃ (b:Addr) (F as:List Addr) (ds:List Nd) (t:Nat) (i:Int),u = .ref b∧v = .int i∧BusAt c H b F as ds t∧as.length≤8∧i.natAbs.log2 < 1920∧(∀ k a,i=(k:Nat)→as[k]? = some a→Q (.ref a) H)∧(¬ (0≤i∧i < as.length)→E (.ref c.N) none H)
theorem jM:FnScope ["self", "node"] ["self", "node"] (ai kT):=aQ
theorem bX (T:Txt K mg c):fR P w K mg base (CXe P w) 1 c.U "node_at" ["self", "node"] (jL K c):=by
 refine T.d_Bus_node_at.okE jM (fun _ _ _ _ _ _ us hl=>match us,hl with | [_,_],_=>rfl) gX (fun f cdv A outer s H vs Q E hr h => ?_)
 obtain ⟨v0,v1,rfl,h⟩:=h
 refine ⟨_,(ae (bc (PW.pt (mX (aq kd (pv 1) ag (au _)) (iP (aq t7 (pv 1) (ax (aB (K:=K)) rfl T.len PySem.boot_len (aa (ao (K:=K) (pv 0)) ac)) (au _)))))
    (af (gA (E:=E) (fun pins σ H s h' e vs I hx hE=>gz I hx hE) PySem.F.excBase_ValueError T.x_NoNode rfl rfl T.m_NoNode (aa (iY (vA (yt (pv 1) (vA lH)))) ac)))
    aG)
   (af (ay (aW (aY (K:=K)) (ao (K:=K) (pv 0)) (pv 1) (fun _ _=>rfl))))),?_⟩
 try dsimp only [bv,Cx.nox,Cx.wish]
 refine ak (s2:=[some v0,some v1]) rfl ?_
 obtain ⟨b,F,as,ds,t,i,rfl,rfl,h,h8,hlog,qg,qb⟩:=h
 obtain ⟨dx,l,o,ns,e1,e2,e3,e4,e5,e6,e7⟩:=h.ex
 have la:(as.map V.ref).length=as.length:=List.length_map _
 wtm_at "wp"
 refine aJ (fun c1 => ?_) (fun c1 => ?_)
 ·wtm_at "wp"
  exact ⟨_,rfl,_,rfl,hlog,fun y=>⟨(show 1≤100 by decide),qb fun z=>by omega⟩⟩
 wtm_at "wp"
 rw [la]
 refine aJ (fun c2 => ?_) (fun c2 => ?_)
 ·exact ⟨_,rfl,_,rfl,hlog,fun y=>⟨(show 1≤100 by decide),qb fun z=>by omega⟩⟩
 wtm_at "wp"
 have hi:i.toNat < as.length:=by omega
 have ei:i=(i.toNat:Int):=by omega
 refine bL (At.sqF e2) (show atI (as.map V.ref) i=some (.ref as[i.toNat]) by
  have h:=kh (xs:=as.map V.ref) (j:=i.toNat) (v := .ref as[i.toNat]) (by rw [List.getElem?_map,List.getElem?_eq_getElem hi];rfl)
  rw [← ei] at h
  exact h) ?_
 wtm_at "wp"
 exact qg i.toNat _ ei (List.getElem?_eq_getElem hi)
theorem BusAt.nth {c:Cs} {H:Hp} {b:Addr} {F as:List Addr} {ds:List Nd} {t:Nat} (h:BusAt c H b F as ds t) {k:Nat} {d:Nd} (e:ds[k]? = some d):∃ n A,as[k]? = some n∧NdAt c H n A d∧(∀ x∈fpN n A,x∈F):=by
 obtain ⟨dx,l,o,ns,e1,e2,e3,e4,e5,rfl,e7⟩:=h.ex
 rw [← e5,List.getElem?_map] at e
 cases q:ns[k]? with
 | none=>rw [q] at e;cases e
 | some x=>
  obtain ⟨n,A,d'⟩:=x
  rw [q] at e
  have e':d'=d:=Option.some.inj e
  subst e'
  refine ⟨n,A,by rw [← e4,List.getElem?_map,q];rfl,e3.nth q,fun x hx=>List.mem_cons_of_mem _ (vN q x hx)⟩
abbrev qD:Stmt:=(aj (top 48) 2)
abbrev oa (K:PySem.W.Frag) (c:Cs):Sp:=sp1 fun u H Q _=>∃ (b:Addr) (F as:List Addr) (ds:List Nd) (t:Nat),u = .ref b∧BusAt c H b F as ds t∧Q (.int (t:Nat)) H
theorem og:FnScope ["self"] ["self"] (ai qD):=aQ
theorem dF (T:Txt K mg c):fR P w K mg base CX0 1 c.U "time" ["self"] (oa K c):=by
 refine T.d_Bus_time.ok og (fun _ _ _ _ _ _ us hl=>match us,hl with | [_],_=>rfl) iA (fun f cdv A outer s H vs Q E hr h => ?_)
 obtain ⟨v0,rfl,h⟩:=h
 refine ⟨_,(af (ay (ao (K:=K) (pv 0)))),?_⟩
 try dsimp only [bv,Cx.nox,Cx.wish]
 refine ak (s2:=[some v0]) rfl ?_
 obtain ⟨b,F,as,ds,t,rfl,h,q⟩:=h
 obtain ⟨dx,l,o,ns,e1,e2,e3,e4,e5,e6,e7⟩:=h.ex
 wtm_at "wp"
 exact q
abbrev oh:Stmt:=(aj (top 48) 3)
abbrev mv (K:PySem.W.Frag) (c:Cs):Sp:=sp2 fun u v H Q _=>∃ (b:Addr) (F as:List Addr) (ds:List Nd) (t k:Nat) (d:Nd),u = .ref b∧v = .int (k:Nat)∧BusAt c H b F as ds t∧as.length≤8∧ds[k]? = some d∧d.tk.length≤5000∧(∀ D us H',Same H H'→aI H D→At H' D (.lst us)→Paired (Cp H H') us d.tk→Q (.ref D) H')
theorem mw:FnScope ["self", "node"] ["self", "node"] (ai oh):=aQ
theorem mx (T:Txt K mg c):fR P w K mg base CX0 2 c.U "heard" ["self", "node"] (mv K c):=by
 refine T.d_Bus_heard.ok mw (fun _ _ _ _ _ _ us hl=>match us,hl with | [_,_],_=>rfl) gX (fun f cdv A outer s H vs Q E hr h => ?_)
 obtain ⟨v0,v1,rfl,h⟩:=h
 refine ⟨_,(af (ay (cj (iy T) hr aw (aa (ao (K:=K) (gq T.k_Bus (bX T) hr oP (pv 0) (aa (pv 1) ac))) ac)))),?_⟩
 try dsimp only [bv,Cx.nox,Cx.wish]
 refine ak (s2:=[some v0,some v1]) rfl ?_
 obtain ⟨b,F,as,ds,t,k,d,rfl,rfl,h,h8,hk,hl,q⟩:=h
 obtain ⟨dx,l,o,ns,e1,e2,e3,e4,e5,e6,e7⟩:=h.ex
 obtain ⟨n,A,ha,⟨⟨nx,sv,eo,es⟩,ro,⟨qs,eq,fq⟩,⟨ts,et,ft⟩,nd⟩,hF⟩:=h.nth hk
 have hkl:k < as.length:=(List.getElem?_eq_some_iff.mp ha).1
 wtm_at "wp"
 refine ⟨b,F,as,ds,t,_,rfl,rfl,h,h8,b6 (by omega) (by omega),fun j a ej ea => ?_,fun z=>absurd (by omega) z⟩
 have:j=k:=by omega
 subst this
 rw [ha] at ea
 cases ea
 wtm_at "wp"
 exact ⟨A.t,ts,d.tk,rfl,At.sqL et,ft,hl,q⟩
abbrev oi:Stmt:=(aj (top 48) 4)
abbrev my (K:PySem.W.Frag) (c:Cs):Sp:=sp2 fun u v H Q _=>∃ (b:Addr) (F as:List Addr) (ds:List Nd) (t k:Nat) (d:Nd),u = .ref b∧v = .int (k:Nat)∧BusAt c H b F as ds t∧as.length≤8∧ds[k]? = some d∧d.qu.length≤900∧(∀ D us H',Same H H'→aI H D→At H' D (.lst us)→Paired (Cp H H') us d.qu→Q (.ref D) H')
theorem mz:FnScope ["self", "node"] ["self", "node"] (ai oi):=aQ
theorem mB (T:Txt K mg c):fR P w K mg base CX0 2 c.U "waits" ["self", "node"] (my K c):=by
 refine T.d_Bus_waits.ok mz (fun _ _ _ _ _ _ us hl=>match us,hl with | [_,_],_=>rfl) gX (fun f cdv A outer s H vs Q E hr h => ?_)
 obtain ⟨v0,v1,rfl,h⟩:=h
 refine ⟨_,(af (ay (cj (iy T) hr aw (aa (ao (K:=K) (gq T.k_Bus (bX T) hr oP (pv 0) (aa (pv 1) ac))) ac)))),?_⟩
 try dsimp only [bv,Cx.nox,Cx.wish]
 refine ak (s2:=[some v0,some v1]) rfl ?_
 obtain ⟨b,F,as,ds,t,k,d,rfl,rfl,h,h8,hk,hl,q⟩:=h
 obtain ⟨dx,l,o,ns,e1,e2,e3,e4,e5,e6,e7⟩:=h.ex
 obtain ⟨n,A,ha,⟨⟨nx,sv,eo,es⟩,ro,⟨qs,eq,fq⟩,⟨ts,et,ft⟩,nd⟩,hF⟩:=h.nth hk
 have hkl:k < as.length:=(List.getElem?_eq_some_iff.mp ha).1
 wtm_at "wp"
 refine ⟨b,F,as,ds,t,_,rfl,rfl,h,h8,b6 (by omega) (by omega),fun j a ej ea => ?_,fun z=>absurd (by omega) z⟩
 have:j=k:=by omega
 subst this
 rw [ha] at ea
 cases ea
 wtm_at "wp"
 exact ⟨A.q,qs,d.qu,rfl,At.sqL eq,fq,by omega,q⟩
abbrev mC:Stmt:=(aj (top 48) 5)
abbrev kU (K:PySem.W.Frag) (c:Cs):Sp:=sp2 fun u v H Q _=>∃ (b:Addr) (F as:List Addr) (ds:List Nd) (t k:Nat) (d:Nd),u = .ref b∧v = .int (k:Nat)∧BusAt c H b F as ds t∧as.length≤8∧ds[k]? = some d∧Q (.int (d.fc:Nat)) H
theorem kW:FnScope ["self", "node"] ["self", "node"] (ai mC):=aQ
theorem kX (T:Txt K mg c):fR P w K mg base CX0 2 c.U "faults" ["self", "node"] (kU K c):=by
 refine T.d_Bus_faults.ok kW (fun _ _ _ _ _ _ us hl=>match us,hl with | [_,_],_=>rfl) gX (fun f cdv A outer s H vs Q E hr h => ?_)
 obtain ⟨v0,v1,rfl,h⟩:=h
 refine ⟨_,(af (ay (ao (K:=K) (gq T.k_Bus (bX T) hr oP (pv 0) (aa (pv 1) ac))))),?_⟩
 try dsimp only [bv,Cx.nox,Cx.wish]
 refine ak (s2:=[some v0,some v1]) rfl ?_
 obtain ⟨b,F,as,ds,t,k,d,rfl,rfl,h,h8,hk,q⟩:=h
 obtain ⟨dx,l,o,ns,e1,e2,e3,e4,e5,e6,e7⟩:=h.ex
 obtain ⟨n,A,ha,⟨⟨nx,sv,eo,es⟩,ro,⟨qs,eq,fq⟩,⟨ts,et,ft⟩,nd⟩,hF⟩:=h.nth hk
 have hkl:k < as.length:=(List.getElem?_eq_some_iff.mp ha).1
 wtm_at "wp"
 refine ⟨b,F,as,ds,t,_,rfl,rfl,h,h8,b6 (by omega) (by omega),fun j a ej ea => ?_,fun z=>absurd (by omega) z⟩
 have:j=k:=by omega
 subst this
 rw [ha] at ea
 cases ea
 wtm_at "wp"
 exact q
def bP (ds:List Nd) (k:Nat) (name:Int):Bool:=(ds.take k++ds.drop (k+1)).any fun d=>decide (name∈d.qu.map (·.1))
def xD (ns:List NE) (name:Int) (v:V):V:=match v with
 | .ref a=>match ns.find? (fun x=>x.1 == a) with
  | some x => .bl (decide (name∈x.2.2.qu.map (·.1)))
  | none => .non
 | _ => .non
theorem Nodes.inj {c:Cs} {H:Hp} {ns:List NE} (h:Nodes c H ns) {x y:NE} (hx:x∈ns) (hy:y∈ns) (e:x.1=y.1):x=y:=by
 have hp:=h.sep
 induction ns with
 | nil=>cases hx
 | cons z zs ih=>
  rw [List.pairwise_cons] at hp
  rcases List.mem_cons.mp hx with rfl | hx'
  ·rcases List.mem_cons.mp hy with rfl | hy'
   ·rfl
   ·exact absurd (show x.1∈fpE y by rw [e];simp [fpE,fpN]) (hp.1 y hy' x.1 (by simp [fpE,fpN]))
  ·rcases List.mem_cons.mp hy with rfl | hy'
   ·exact absurd (show y.1∈fpE x by rw [← e];simp [fpE,fpN]) (hp.1 x hx' y.1 (by simp [fpE,fpN]))
   ·exact ih ⟨fun w hw=>h.at_ w (List.mem_cons_of_mem _ hw),hp.2⟩ hx' hy' hp.2
theorem pD {c:Cs} {H:Hp} {ns:List NE} (h:Nodes c H ns) {name:Int} {x:NE} (hx:x∈ns):xD ns name (.ref x.1) = .bl (decide (name∈x.2.2.qu.map (·.1))):=by
 cases e:ns.find? (fun y=>y.1 == x.1) with
 | none=>
  have:=List.find?_eq_none.mp e x hx
  simp at this
 | some y=>
  have h1:=List.mem_of_find?_eq_some e
  have h2:=List.find?_some e
  have:y=x:=h.inj h1 hx (by simpa using h2)
  rw [this] at e
  simp only [xD,e]
abbrev ij:Stmt:=(top 49)
abbrev gU (K:PySem.W.Frag) (c:Cs):Sp:=sp3 fun u v w H Q _=>∃ (b:Addr) (F as:List Addr) (ds:List Nd) (t k:Nat) (name:Int),u = .ref b∧v = .int (k:Nat)∧w = .int name∧BusAt c H b F as ds t∧as.length≤8∧(∀ d∈ds,d.qu.length≤900)∧(∀ H',Same H H'→Q (.bl (bP ds k name)) H')
theorem sc_waits_elsewhere:FnScope ["bus", "node", "name", "others"] ["bus", "node", "name"] (ai ij):=aQ
theorem gW (T:Txt K mg c):fI P w K mg base CX0 2 "waits_elsewhere" ["bus", "node", "name"] (gU K c):=by
 refine T.d_waits_elsewhere.ok sc_waits_elsewhere (fun _ _ _ _ _ _ us hl=>match us,hl with | [_,_,_],_=>rfl) Aa (fun f cdv A outer s H vs Q E hr h => ?_)
 obtain ⟨v0,v1,v2,rfl,h⟩:=h
 refine ⟨_,(ae (az (i:=3) sc_waits_elsewhere.nd rfl (by first | exact Or.inl rfl | exact Or.inr rfl) (av c6 (cq (cr (K:=K)) (ao (K:=K) (pv 0)) gY (cc (pv 1))) (cq (cr (K:=K)) (ao (K:=K) (pv 0)) (cc (av bA (pv 1) ag)) gY)))
   (af (ay (ax (ng rfl) rfl T.any PyProof.Rows.boot_any (aa (ce ["name"] [2] (aO (K:=K) (pv 3)) (fun fp s H=>(gq T.k_Node (gb T) hr aw (pv 1) (aa (pv 0) ac)))) ac))))),?_⟩
 try dsimp only [bv,Cx.nox,Cx.wish]
 refine ak (s2:=[some v0,some v1,some v2,none]) rfl ?_
 obtain ⟨b,F,as,ds,t,k,name,rfl,rfl,rfl,h,h8,hfew,q⟩:=h
 obtain ⟨dx,l,o,ns,e1,e2,e3,e4,e5,e6,e7⟩:=h.ex
 have la:(as.map V.ref).length=as.length:=List.length_map _
 wtm_at "wp"
 refine gB (At.sqF e2) (vB (as.map V.ref) k) (fun p1 hp1 => ?_)
 wtm_at "wp"
 refine gB (show SqL K _ l (as.map V.ref) from At.sqF (aA hp1 e2)) (show kg (as.map V.ref) (some ((k:Int)+1)) none=(as.map V.ref).drop (k+1) by rw [show (k:Int)+1=((k+1:Nat):Int) by omega,oR]) (fun p2 hp2 => ?_)
 refine dJ (by wtm_at "hg") ad ?_ (fun p3 hp3 => ?_)
 ·rw [List.length_take,List.length_drop,la]
  exact small (by omega)
 have s3:Same H (upd (upd (upd H p1 (.lst ((as.map V.ref).take k))) p2 (.lst ((as.map V.ref).drop (k+1)))) p3 (.lst ((as.map V.ref).take k++(as.map V.ref).drop (k+1)))):=by wtm_at "hs"
 have e33:At (upd (upd (upd H p1 (.lst ((as.map V.ref).take k))) p2 (.lst ((as.map V.ref).drop (k+1)))) p3 (.lst ((as.map V.ref).take k++(as.map V.ref).drop (k+1)))) p3 (.lst (((ns.take k++ns.drop (k+1)).map fun x=>V.ref x.1))):=by
  have:(as.map V.ref).take k++(as.map V.ref).drop (k+1)=(ns.take k++ns.drop (k+1)).map fun x=>V.ref x.1:=by
   rw [← e4,List.map_map,List.map_append,List.map_take,List.map_drop]
   rfl
  rw [this]
  exact ad
 generalize upd (upd (upd H p1 (.lst ((as.map V.ref).take k))) p2 (.lst ((as.map V.ref).drop (k+1)))) p3 (.lst ((as.map V.ref).take k++(as.map V.ref).drop (k+1)))=H3 at *
 have n3:Nodes c H3 ns:=e3.kp (S:=[]) (Same.kp s3) (fun _ _ _ _ z=>by cases z)
 have sub:∀ x∈ns.take k++ns.drop (k+1),x∈ns:=fun x hx=>by
  rcases List.mem_append.mp hx with z | z
  ·exact List.mem_of_mem_take z
  ·exact List.mem_of_mem_drop z
 wtm_at "wp"
 refine bB ?_
 wtm_at "wp"
 refine gC (xD ns name) (At.sqL e33) ?_ (fun i x H' R hx s4 hR => ?_) (fun D Hf s4 fD eD => ?_)
 ·rw [List.length_map,List.length_append,List.length_take,List.length_drop]
  have:=congrArg List.length e4
  rw [List.length_map] at this
  exact small (by omega)
 ·rw [List.getElem?_map] at hx
  cases hq:(ns.take k++ns.drop (k+1))[i]? with
  | none=>rw [hq] at hx;cases hx
  | some y=>
   rw [hq] at hx
   have hx':V.ref y.1=x:=Option.some.inj hx
   subst hx'
   have hy:=sub y (List.mem_of_getElem? hq)
   have hn:=(n3.at_ y hy).same s4
   show li _ _ _ _ _ _ _ [some (.int name),some (.ref y.1)] _ _
   obtain ⟨⟨nx,sv,eo,es⟩,_⟩:=id hn
   wtm_at "wp"
   refine ⟨_,_,rfl,y.1,y.2.1,y.2.2,name,rfl,rfl,hn,hfew _ (by rw [← e5];exact List.mem_map.mpr ⟨y,hy,rfl⟩),fun H5 s5 => ?_⟩
   have:=hR H5 s5
   rw [pD n3 hy] at this
   exact this
 have eD':Hf D=some (.lst (((ns.take k++ns.drop (k+1)).map fun x=>decide (name∈x.2.2.qu.map (·.1))).map V.bl)):=by
  rw [eD,List.map_map,List.map_map]
  congr 2
  apply List.map_congr_left
  intro x hx
  exact pD n3 (sub x hx)
 wtm_at "wp"
 refine ⟨D,_,rfl,eD',?_⟩
 wtm_at "wp"
 have:=q Hf (s3.trans s4)
 unfold bP at this
 rw [← e5,← List.map_take,← List.map_drop,← List.map_append,List.any_map] at this
 rw [List.any_map]
 exact this
theorem BusAt.set {c:Cs} {H H':Hp} {b:Addr} {F as:List Addr} {ds:List Nd} {t:Nat} {k:Nat} {n:Addr} {A A':NA} {d d':Nd} {dx l:Addr} {o:Obj} {ns:List NE} (e1:At H b (.ins c.U dx (buF (.ref l) (.int (t:Nat))))) (e2:At H l (.frz o (.lst (as.map V.ref)))) (e3:Nodes c H ns) (e4:ns.map (·.1)=as) (e5:ns.map (·.2.2)=ds)
  (e6:F=fpB b ns) (e7:b∉ns.flatMap fpE) (en:ns[k]? = some (n,A,d)) (kk:Kp (fpN n A) H H') (h':NdAt c H' n A' d') (f:∀ x∈fpN n A',x∈fpN n A∨aI H x) :
  BusAt c H' b (fpB b (ns.set k (n,A',d'))) as (ds.set k d') t∧Kp F H H'∧(∀ x∈fpB b (ns.set k (n,A',d')),x∈F∨aI H x) ∧
   At H' b (.ins c.U dx (buF (.ref l) (.int (t:Nat))))∧At H' l (.frz o (.lst (as.map V.ref)))∧Nodes c H' (ns.set k (n,A',d'))∧b∉(ns.set k (n,A',d')).flatMap fpE:=by
 have sub:=vN en
 have hb:b∉fpN n A:=fun z=>e7 (sub b z)
 have a1:=kk.get hb e1
 have a2:=kk.frz e2
 have a3:=e3.setAt en kk h' f
 have a4:(ns.set k (n,A',d')).map (·.1)=as:=by
  rw [← e4,List.map_set]
  apply List.ext_getElem?
  intro i
  rw [List.getElem?_set]
  split
  ·rename_i z
   subst z
   have:(ns.map (·.1))[k]? = some n:=by rw [List.getElem?_map,en];rfl
   have hlt:=(List.getElem?_eq_some_iff.mp this).1
   rw [if_pos hlt,this]
  ·rfl
 have a5:(ns.set k (n,A',d')).map (·.2.2)=ds.set k d':=by rw [← e5,List.map_set]
 have a7:b∉(ns.set k (n,A',d')).flatMap fpE:=fun z=>by
  rcases vM en f b z with y | y
  ·exact e7 y
  ·exact (aD y e1) rfl
 refine ⟨⟨dx,l,o,_,a1,a2,a3,a4,a5,rfl,a7⟩,kk.mono (fun x hx=>by rw [e6];exact List.mem_cons_of_mem _ (sub x hx)),fun x hx => ?_,a1,a2,a3,a7⟩
 rcases List.mem_cons.mp hx with z | z
 ·exact .inl (by rw [e6,z];exact List.mem_cons_self)
 ·rcases vM en f x z with y | y
  ·exact .inl (by rw [e6];exact List.mem_cons_of_mem _ y)
  ·exact .inr y
theorem xE {ns:List NE} {ds:List Nd} {k:Nat} {d:Nd} (e5:ns.map (·.2.2)=ds) (hk:ds[k]? = some d):∃ n A,ns[k]? = some (n,A,d):=by
 rw [← e5,List.getElem?_map] at hk
 cases q:ns[k]? with
 | none=>rw [q] at hk;cases hk
 | some x=>
  obtain ⟨n,A,d'⟩:=x
  rw [q] at hk
  have e':d'=d:=Option.some.inj hk
  subst e'
  exact ⟨n,A,rfl⟩
def tW {α:Type} (f:α→α) (i:Nat) (ds:List α):List α:=(ds.take i).map f++ds.drop i
theorem mD {α:Type} (f:α→α) (ds:List α):tW f 0 ds=ds:=by simp [tW]
theorem pE {α:Type} (f:α→α) (ds:List α):tW f ds.length ds=ds.map f:=by simp [tW]
theorem tR {α:Type} (f:α→α) {ds:List α} {i:Nat} {d:α} (h:ds[i]? = some d):(tW f i ds)[i]? = some d∧(tW f i ds).set i (f d)=tW f (i+1) ds:=by
 obtain ⟨hi,e⟩:=List.getElem?_eq_some_iff.mp h
 have hl:((ds.take i).map f).length=i:=by rw [List.length_map,List.length_take];omega
 unfold tW
 constructor
 ·rw [List.getElem?_append_right (by omega),hl,Nat.sub_self,List.getElem?_drop]
  simpa using h
 ·rw [List.set_append_right _ _ (by omega),hl,Nat.sub_self,List.drop_eq_getElem_cons hi,e,List.set_cons_zero,List.take_succ_eq_append_getElem hi,List.map_append,e]
  simp
theorem xF {l:List Int} {m:Int} (hb:Bits l) (h1:m∈l) (h2:∀ x∈l,m≤x):m=if 0∈l then 0 else 1:=by
 split
 ·rename_i z
  have:=h2 0 z
  rcases hb m h1 with y | y <;> omega
 ·rename_i z
  rcases hb m h1 with y | y
  ·exact absurd (y ▸ h1) z
  ·exact y
def Bt (ns:List NE) (v:V):V:=match v with
 | .ref a=>match ns.find? (fun x=>x.1 == a) with
  | some x => .int x.2.2.put
  | none => .non
 | _ => .non
theorem tS {c:Cs} {H:Hp} {ns:List NE} (h:Nodes c H ns) {x:NE} (hx:x∈ns):Bt ns (.ref x.1) = .int x.2.2.put:=by
 cases e:ns.find? (fun y=>y.1 == x.1) with
 | none=>
  have:=List.find?_eq_none.mp e x hx
  simp at this
 | some y=>
  have h1:=List.mem_of_find?_eq_some e
  have h2:=List.find?_some e
  have:y=x:=h.inj h1 hx (by simpa using h2)
  rw [this] at e
  simp only [Bt,e]
abbrev zG:Stmt:=(top 50)
abbrev xG (K:PySem.W.Frag) (c:Cs):Sp:=sp4 fun u v w x H Q E=>∃ (b a:Addr) (F as:List Addr) (ds:List Nd) (t:Nat) (i name:Int) (row:List Int),u = .ref b∧v = .int i∧w = .int name∧x = .ref a∧BusAt c H b F as ds t∧as.length≤8∧(∀ d∈ds,d.qu.length≤900)∧SqL K H a (row.map V.int) ∧
 i.natAbs.log2 < 1920∧name.natAbs.log2 < 1920∧(∀ b∈row,b.natAbs.log2 < 1920) ∧
 (¬ (0≤i∧i < as.length)→E (.ref c.N) none H) ∧
 (∀ k d,i=(k:Nat)→ds[k]? = some d→(¬ cQ name row→E (.ref c.F) none H)∧(cQ name row→bP ds k name=true→∀ H',Same H H'→E (.ref c.F) none H') ∧
  (cQ name row→bP ds k name=false→xC c H b F as (ds.set k (d.letWait (name,row))) t .non Q))
theorem sc_send:FnScope ["bus", "node", "name", "row", "sender"] ["bus", "node", "name", "row"] (ai zG):=aQ
theorem xH (T:Txt K mg c):fI P w K mg base (CXe P w) 3 "send" ["bus", "node", "name", "row"] (xG K c):=by
 refine T.d_send.okE sc_send (fun _ _ _ _ _ _ us hl=>match us,hl with | [_,_,_,_],_=>rfl) BZ (fun f cdv A outer s H vs Q E hr h => ?_)
 obtain ⟨v0,v1,v2,v3,rfl,h⟩:=h
 refine ⟨_,(ae (az (i:=4) sc_send.nd rfl (.inl rfl) (gq T.k_Bus (bX T) hr (nj (E:=E) (fun _ _ _ z=>z)) (pv 0) (aa (pv 1) ac)))
   (ae (aC (cj (cK T) hr (nj (E:=E) (fun _ _ _ z=>z)) (aa (pv 2) (aa (pv 3) ac))))
   (ae (bc (dG (cj (gW T) hr aw (aa (pv 0) (aa (pv 1) (aa (pv 2) ac)))))
    (af (gA (E:=E) (fun pins σ H s h' e vs I hx hE=>gz I hx hE) PySem.F.excBase_ValueError T.x_BadFrame rfl rfl T.m_BadFrame (aa (iY (vA (yt (pv 2) (vA lH)))) ac)))
    aG)
   (af (aC (gq T.k_Node (iJ T) hr aw (pv 4) (aa (pv 2) (aa (pv 3) ac)))))))),?_⟩
 try dsimp only [bv,Cx.nox,Cx.wish]
 refine ak (s2:=[some v0,some v1,some v2,some v3,none]) rfl ?_
 obtain ⟨b,a,F,as,ds,t,i,name,row,rfl,rfl,rfl,rfl,h,h8,hfew,hS,hli,hln,hlr,qn,qg⟩:=h
 obtain ⟨dx,l,o,ns,e1,e2,e3,e4,e5,e6,e7⟩:=h.ex
 have hlen:=h.len
 wtm_at "wp"
 refine ⟨b,F,as,ds,t,i,rfl,rfl,h,h8,hli,fun k n ek ea => ?_,qn⟩
 have hk:k < ds.length:=by
  have:=(List.getElem?_eq_some_iff.mp ea).1
  omega
 obtain ⟨g1,g2,g3⟩:=qg k ds[k] ek (List.getElem?_eq_getElem hk)
 subst ek
 wtm_at "wp"
 refine ⟨a,name,row,rfl,rfl,hS,hln,hlr,fun g => ?_,fun g=>g1 g⟩
 wtm_at "wp"
 refine ⟨b,F,as,ds,t,k,name,rfl,rfl,rfl,h,h8,hfew,fun H1 s1 => ?_⟩
 wtm_at "wp"
 cases hel:bP ds k name with
 | true=>
  wtm_at "wp"
  exact ⟨_,rfl,_,rfl,hln,fun y=>⟨(show 1≤100 by decide),g2 g hel H1 s1⟩⟩
 | false=>
  wtm_at "wp"
  have h1:=h.same s1
  obtain ⟨dx1,l1,o1,ns1,a1,a2,a3,a4,a5,a6,a7⟩:=h1.ex
  obtain ⟨n1,A1,en⟩:=xE a5 (List.getElem?_eq_getElem hk)
  have hn:=a3.nth en
  have:n1=n:=by
   have:(ns1.map (·.1))[k]? = some n1:=by rw [List.getElem?_map,en];rfl
   rw [a4,ea] at this
   exact (Option.some.inj this).symm
  subst this
  obtain ⟨⟨nx,sv,eo,es⟩,_⟩:=id hn
  wtm_at "wp"
  refine ⟨n1,a,A1,ds[k],name,row,rfl,rfl,rfl,hn,s1.seq hS,hfew _ (List.getElem_mem _),fun H2 A2 k2 h2 f2 => ?_⟩
  obtain ⟨b1,b2,b3,_⟩:=BusAt.set a1 a2 a3 a4 a5 a6 a7 en k2 h2 f2
  refine g3 g hel H2 _ ((Same.kp s1).trans b2) b1 (fun x hx => ?_)
  rcases b3 x hx with z | z
  ·exact .inl z
  ·exact .inr (s1.fr z)
abbrev zH:Stmt:=(top 51)
abbrev xI (K:PySem.W.Frag) (c:Cs):Sp:=sp2 fun u v H Q _=>∃ (b:Addr) (F as:List Addr) (ds:List Nd) (t:Nat) (flip:Int),u = .ref b∧v = .int flip∧BusAt c H b F as ds t∧as≠[]∧as.length≤8∧AllOk ds∧Few 900 4999 ds∧xC c H b F as (aM ds flip) (t+1) (.int (bj ds flip)) Q
theorem sc_step:FnScope ["bus", "flip", "node", "bit"] ["bus", "flip"] (ai zH):=aQ
theorem xJ (T:Txt K mg c):fI P w K mg base CX0 10 "step" ["bus", "flip"] (xI K c):=by
 refine T.d_step.ok sc_step (fun _ _ _ _ _ _ us hl=>match us,hl with | [_,_],_=>rfl) gX (fun f cdv A outer s H vs Q E hr h => ?_)
 obtain ⟨v0,v1,rfl,h⟩:=h
 refine ⟨_,(cX (cg PassesOwn.never rfl (aO (K:=K) (ao (K:=K) (pv 0))) (bD (i:=2) sc_step.nd rfl (.inl rfl))
    (af (aC (g4 T.k_Node (eB T) hr aw (pv 2)))))
   (ae (az (i:=3) sc_step.nd rfl (.inl rfl) (ax (gF rfl) rfl T.min PyProof.Rows.boot_min (aa (ce [] [] (aO (K:=K) (ao (K:=K) (pv 0))) (fun fp s H=>(g4 T.k_Node (nZ T) hr aw (pv 0)))) ac)))
   (cX (bc (aq b9 (pv 1) ag (au _))
    (af (az (i:=3) sc_step.nd rfl (.inl rfl) (av dH ag (pv 3))))
    aG)
   (cX (cg PassesOwn.never rfl (aO (K:=K) (ao (K:=K) (pv 0))) (bD (i:=2) sc_step.nd rfl (.inl rfl))
    (af (aC (gq T.k_Node (mn T) hr aw (pv 2) (aa (pv 3) ac)))))
   (ae (eM (K:=K) (pv 0) ag oF)
   (af (ay (pv 3)))))))),?_⟩
 try dsimp only [bv,Cx.nox,Cx.wish]
 refine ak (s2:=[some v0,some v1,none,none]) rfl ?_
 obtain ⟨b,F,as,ds,t,flip,rfl,rfl,h,hne,h8,ok,few,q⟩:=h
 have hlen:=h.len
 have la:(as.map V.ref).length=as.length:=List.length_map _
 refine fJ (fun σ H1=>∃ (v w:Option V) (F1:List Addr),σ=[some (.ref b),some (.int flip),v,w]∧Kp F H H1∧BusAt c H1 b F1 as (ds.map Nd.begin) t∧(∀ x∈F1,x∈F∨aI H x)) ?_ ?_
 ·refine cW ?_
  obtain ⟨dx,l,o,ns,e1,e2,e3,e4,e5,e6,e7⟩:=h.ex
  wtm_at "wp"
  refine bU (xs:=as.map V.ref) (fun i σ H1=>∃ (v w:Option V) (F1:List Addr),σ=[some (.ref b),some (.int flip),v,w]∧Kp F H H1∧BusAt c H1 b F1 as (tW Nd.begin i ds) t∧(∀ x∈F1,x∈F∨aI H x)) (At.sqF e2)
   ⟨none,none,F,rfl,Kp.refl _ _,by rw [mD];exact h,fun x hx => .inl hx⟩ (fun i σ H1 _ ⟨_,_,_,_,k1,_⟩=>At.sqF (k1.frz e2)) ?_ ?_
  ·rintro i y σ H1 hi ⟨v,w,F1,rfl,k1,h1,f1⟩
   rw [List.getElem?_map] at hi
   cases ha:as[i]? with
   | none=>rw [ha] at hi;cases hi
   | some n=>
    rw [ha] at hi
    cases hi
    have hid:i < ds.length:=by
     have:=(List.getElem?_eq_some_iff.mp ha).1
     omega
    obtain ⟨u1,u2⟩:=tR Nd.begin (List.getElem?_eq_getElem hid)
    obtain ⟨dx1,l1,o1,ns1,a1,a2,a3,a4,a5,a6,a7⟩:=h1.ex
    obtain ⟨n1,A1,en⟩:=xE a5 u1
    have:n1=n:=by
     have:(ns1.map (·.1))[i]? = some n1:=by rw [List.getElem?_map,en];rfl
     rw [a4,ha] at this
     exact (Option.some.inj this).symm
    subst this
    have hn:=a3.nth en
    obtain ⟨⟨nx,sv,eo,es⟩,_⟩:=id hn
    wtm_at "wp"
    refine ⟨n1,A1,ds[i],rfl,hn,ok _ (List.getElem_mem _),fun H2 A2 k2 h2 f2 => ?_⟩
    obtain ⟨b1,b2,b3,_⟩:=BusAt.set a1 a2 a3 a4 a5 a6 a7 en k2 h2 f2
    rw [u2] at b1
    wtm_at "wp"
    refine ⟨_,_,_,rfl,⟨fun x o hx e => ?_,fun x o im e=>b2.im x o im (k1.im x o im e)⟩,b1,fun x hx => ?_⟩
    ·refine b2.ot x o (fun z => ?_) (k1.ot x o hx e)
     rcases f1 x z with y | y
     ·exact hx y
     ·exact (aD y e) rfl
    ·rcases b3 x hx with z | z
     ·exact f1 x z
     ·by_cases y:x∈F
      ·exact .inl y
      ·exact .inr (k1.fr y z)
  ·rintro σ H1 ⟨v,w,F1,rfl,k1,h1,f1⟩
   rw [la,hlen,pE] at h1
   exact ⟨_,_,F1,rfl,k1,h1,f1⟩
 rintro σ H1 ⟨v1,w1,F1,rfl,k1,h1,f1⟩
 have ok1:AllOk (ds.map Nd.begin):=fun d hd=>by
  obtain ⟨e,he,rfl⟩:=List.mem_map.mp hd
  exact (ok e he).begin
 have few1:∀ d∈ds.map Nd.begin,d.tk.length≤5000∧d.qu.length≤900:=fun d hd=>by
  obtain ⟨e,he,rfl⟩:=List.mem_map.mp hd
  obtain ⟨b1,b2⟩:=j7 e
  rw [b1,b2]
  have:=few e he
  exact ⟨by omega,this.1⟩
 have hl1:(ds.map Nd.begin).length=as.length:=by rw [List.length_map];omega
 obtain ⟨dx,l,o,ns,e1,e2,e3,e4,e5,e6,e7⟩:=h1.ex
 wtm_at "wp"
 refine bB ?_
 wtm_at "wp"
 refine gC (Bt ns) (At.sqF e2) (by rw [la];exact small (by omega)) (fun i x H' R hx s2 hR => ?_) (fun D H2 s2 fD eD => ?_)
 ·rw [← e4,List.map_map,List.getElem?_map] at hx
  cases hq:ns[i]? with
  | none=>rw [hq] at hx;cases hx
  | some y=>
   rw [hq] at hx
   have hx':V.ref y.1=x:=Option.some.inj hx
   subst hx'
   have hy:=List.mem_of_getElem? hq
   have hn:=(e3.at_ y hy).same s2
   show li _ _ _ _ _ _ _ [some (.ref y.1)] _ _
   obtain ⟨⟨nx,sv,eo,es⟩,_⟩:=id hn
   wtm_at "wp"
   refine ⟨_,rfl,y.1,y.2.1,y.2.2,rfl,hn,ok1 _ (by rw [← e5];exact List.mem_map.mpr ⟨y,hy,rfl⟩),fun H5 s5 => ?_⟩
   have:=hR H5 s5
   rw [tS e3 hy] at this
   exact this
 have eD':H2 D=some (.lst (((ds.map Nd.begin).map Nd.put).map V.int)):=by
  rw [eD,← e4,← e5,List.map_map,List.map_map,List.map_map,List.map_map]
  congr 2
  apply List.map_congr_left
  intro x hx
  exact tS e3 hx
 have bp:Bits ((ds.map Nd.begin).map Nd.put):=fun x hx=>by
  obtain ⟨e,he,rfl⟩:=List.mem_map.mp hx
  exact (ok1 e he).put_bit
 wtm_at "wp"
 refine ⟨D,_,rfl,eD',?_,fun m m1 m2 => ?_⟩
 ·intro z
  have:=congrArg List.length z
  rw [List.length_map,hl1] at this
  exact hne (List.length_eq_zero_iff.mp this)
 have em:m=dY (ds.map Nd.begin):=xF bp m1 m2
 have h2:=h1.same s2
 have k2:Kp F H H2:=k1.trans (Same.kp s2)
 have f2:∀ x∈F1,x∈F∨aI H x:=f1
 wtm_at "wp"
 refine fJ (fun σ H3=>∃ v:Option V,σ=[some (.ref b),some (.int flip),v,some (.int (bj ds flip))]∧H3=H2) ?_ ?_
 ·wtm_at "wp"
  refine aJ (fun c1 => ?_) (fun c1 => ?_)
  ·wtm_at "wp"
   refine ⟨v1,?_,rfl⟩
   unfold bj
   rw [if_pos c1,em]
  ·wtm_at "wp"
   refine ⟨v1,?_,rfl⟩
   unfold bj
   rw [if_neg c1,em]
 rintro σ H3 ⟨v3,rfl,rfl⟩
 have hbit:=i8 ds flip
 clear m1 m2 em eD eD'
 have e2':=s2.get e2
 refine fJ (fun σ H4=>∃ (v:Option V) (F4:List Addr),σ=[some (.ref b),some (.int flip),v,some (.int (bj ds flip))]∧Kp F H H4∧BusAt c H4 b F4 as (aM ds flip) t∧(∀ x∈F4,x∈F∨aI H x)) ?_ ?_
 ·refine cW ?_
  obtain ⟨dx2,l2,o2,ns2,q1,q2,q3,q4,q5,q6,q7⟩:=h2.ex
  wtm_at "wp"
  refine bU (xs:=as.map V.ref) (fun i σ H4=>∃ (v:Option V) (F4:List Addr),σ=[some (.ref b),some (.int flip),v,some (.int (bj ds flip))]∧Kp F H H4∧At H4 l2 (.frz o2 (.lst (as.map V.ref)))∧BusAt c H4 b F4 as (tW (fun d=>d.hear (bj ds flip)) i (ds.map Nd.begin)) t∧(∀ x∈F4,x∈F∨aI H x)) (At.sqF q2)
   ⟨_,F1,rfl,k2,q2,by rw [mD];exact h2,f2⟩ (fun i σ H4 _ ⟨_,_,_,_,z,_⟩=>At.sqF z) ?_ ?_
  ·rintro i y σ H4 hi ⟨v,F4,rfl,k4,z4,h4,f4⟩
   rw [List.getElem?_map] at hi
   cases ha:as[i]? with
   | none=>rw [ha] at hi;cases hi
   | some n=>
    rw [ha] at hi
    cases hi
    have hid:i < (ds.map Nd.begin).length:=by
     have:=(List.getElem?_eq_some_iff.mp ha).1
     omega
    obtain ⟨u1,u2⟩:=tR (fun d=>d.hear (bj ds flip)) (List.getElem?_eq_getElem hid)
    obtain ⟨dx4,l4,o4,ns4,a1,a2,a3,a4,a5,a6,a7⟩:=h4.ex
    obtain ⟨n1,A1,en⟩:=xE a5 u1
    have:n1=n:=by
     have:(ns4.map (·.1))[i]? = some n1:=by rw [List.getElem?_map,en];rfl
     rw [a4,ha] at this
     exact (Option.some.inj this).symm
    subst this
    have hn:=a3.nth en
    obtain ⟨⟨nx,sv,eo,es⟩,_⟩:=id hn
    have hd:=List.getElem_mem hid
    wtm_at "wp"
    refine ⟨n1,A1,_,_,rfl,rfl,hn,ok1 _ hd,hbit,(few1 _ hd).1,(few1 _ hd).2,fun H5 A5 k5 h5 f5 => ?_⟩
    obtain ⟨b1,b2,b3,_⟩:=BusAt.set a1 a2 a3 a4 a5 a6 a7 en k5 h5 f5
    rw [u2] at b1
    wtm_at "wp"
    refine ⟨_,_,rfl,⟨fun x o hx e => ?_,fun x o im e=>b2.im x o im (k4.im x o im e)⟩,b2.frz z4,b1,fun x hx => ?_⟩
    ·refine b2.ot x o (fun z => ?_) (k4.ot x o hx e)
     rcases f4 x z with y | y
     ·exact hx y
     ·exact (aD y e) rfl
    ·rcases b3 x hx with z | z
     ·exact f4 x z
     ·by_cases y:x∈F
      ·exact .inl y
      ·exact .inr (k4.fr y z)
  ·rintro σ H4 ⟨v,F4,rfl,k4,z4,h4,f4⟩
   rw [la,← hl1,pE] at h4
   exact ⟨_,F4,rfl,k4,h4,f4⟩
 rintro σ H4 ⟨v4,F4,rfl,k4,h4,f4⟩
 obtain ⟨dx4,l4,o4,ns4,a1,a2,a3,a4,a5,a6,a7⟩:=h4.ex
 wtm_at "wp"
 have kb:Kp [b] H4 (upd H4 b (.ins c.U dx4 (buF (.ref l4) (.int ((t:Int)+1))))):=(Kp.refl _ _).upd (by simp) a1 (fun z=>z)
 refine q _ F4 ⟨fun x o hx e => ?_,fun x o im e=>kb.im x o im (k4.im x o im e)⟩ ⟨dx4,l4,o4,ns4,?_,kb.frz a2,a3.kp kb (fun z hz a ha=>aK (fun y=>a7 (by rw [← y];exact List.mem_flatMap.mpr ⟨z,hz,ha⟩))),a4,a5,a6,a7⟩ f4
 ·refine kb.ot x o (aK (fun z => ?_)) (k4.ot x o hx e)
  subst z
  have hF:x∈F:=by
   obtain ⟨_,_,_,_,_,_,_,_,_,e6,_⟩:=h.ex
   rw [e6]
   exact List.mem_cons_self
  exact hx hF
 ·rw [show ((t+1:Nat):Int)=(t:Int)+1 by omega]
  exact ad
abbrev Bv:Stmt:=(top 52)
abbrev zI (K:PySem.W.Frag) (c:Cs):Sp:=sp2 fun u v H Q _=>∃ (b a:Addr) (F as:List Addr) (ds:List Nd) (t:Nat) (fl:List Int),u = .ref b∧v = .ref a∧BusAt c H b F as ds t∧as≠[]∧as.length≤8∧AllOk ds∧(∃ n,Few 900 n ds∧n+fl.length≤4999)∧SqL K H a (fl.map V.int)∧(∀ xs,At H a (.lst xs)→a∉F) ∧
 (∀ D H' F',Kp F H H'→aI H D→At H' D (.lst ((i7 ds fl).map V.int))→D∉F'→BusAt c H' b F' as (cm ds fl) (t+fl.length)→(∀ x∈F',x∈F∨aI H x)→Q (.ref D) H')
theorem zJ:FnScope ["bus", "flips"] ["bus", "flips"] (ai Bv):=aQ
theorem vO (T:Txt K mg c):fI P w K mg base CX0 11 "run" ["bus", "flips"] (zI K c):=by
 refine T.d_run.ok zJ (fun _ _ _ _ _ _ us hl=>match us,hl with | [_,_],_=>rfl) gX (fun f cdv A outer s H vs Q E hr h => ?_)
 obtain ⟨v0,v1,rfl,h⟩:=h
 refine ⟨_,(af (ay (ce ["bus"] [0] (aO (K:=K) (pv 1)) (fun fp s H=>(cj (xJ T) hr aw (aa (pv 0) (aa (pv 1) ac))))))),?_⟩
 try dsimp only [bv,Cx.nox,Cx.wish]
 refine ak (s2:=[some v0,some v1]) rfl ?_
 obtain ⟨b,a,F,as,ds,t,fl,rfl,rfl,h,hne,h8,ok,⟨n0,few,hn0⟩,hS,hF,q⟩:=h
 have lf:(fl.map V.int).length=fl.length:=List.length_map _
 wtm_at "wp"
 refine bB ?_
 wtm_at "wp"
 have hS':∀ H2,Kp F H H2→SqL K H2 a (fl.map V.int):=fun H2 k=>by
  rcases hS with (z | ⟨ob,z⟩) | z
  ·exact .inl (.inl (k.ot _ _ (hF _ z) z))
  ·exact .inl (.inr ⟨ob,k.im _ _ trivial z⟩)
  ·exact .inr z
 refine c7 (xs:=fl.map V.int) (fun D i ys H2=>∃ F2,Kp F H H2∧aI H D∧At H2 D (.lst ys)∧ys=(i7 ds (fl.take i)).map V.int∧ys.length≤i∧D∉F2∧BusAt c H2 b F2 as (cm ds (fl.take i)) (t+i)∧(∀ x∈F2,x∈F∨aI H x)) hS (by rw [lf];exact Nat.le_of_lt (eY (by omega))) (fun D hD => ?_) (fun D i ys H2 hi ⟨F2,k2,fD,eD,ey,hl,nD,h2,f2⟩=>⟨eD,hS' H2 k2,hl⟩) (fun D i x ys H2 hx ⟨F2,k2,fD,eD,ey,hl,nD,h2,f2⟩ => ?_) (fun D ys H2 ⟨F2,k2,fD,eD,ey,hl,nD,h2,f2⟩ => ?_)
 ·refine ⟨F,Same.kp (ap hD _),hD,ad,rfl,Nat.le_refl _,fun z => ?_,h.same (ap hD _),fun x hx => .inl hx⟩
  obtain ⟨o,e,_⟩:=h.live D z
  exact (aD hD e) rfl
 ·obtain ⟨f,hf,rfl⟩:=cC hx
  have hi:i < fl.length:=(List.getElem?_eq_some_iff.mp hf).1
  show qU _ _ _ _ [some (.ref b),some (.int f)] _ _
  wtm_at "wp"
  have few2:Few 900 4999 (cm ds (fl.take i)):=(few.run (fl.take i)).mono (Nat.le_refl _) (by rw [List.length_take];omega)
  refine ⟨_,_,rfl,b,F2,as,_,_,f,rfl,rfl,h2,hne,h8,ok.run _,few2,fun H3 F3 k3 h3 f3 => ?_⟩
  have eD3:At H3 D (.lst ys):=k3.get nD eD
  have nD3:D∉F3:=fun z=>by
   rcases f3 D z with y | y
   ·exact nD y
   ·exact (aD y eD) rfl
  have kD:Kp [D] H3 (upd H3 D (.lst (ys++[.int (bj (cm ds (fl.take i)) f)]))):=(Kp.refl _ _).upd (by simp) eD3 (fun z=>z)
  have ff:∀ x∈F3,x∈F∨aI H x:=fun x hx=>by
   rcases f3 x hx with z | z
   ·exact f2 x z
   ·by_cases y:x∈F
    ·exact .inl y
    ·exact .inr (k2.fr y z)
  refine iB (by rw [lf];exact hi) eD3 ⟨F3,⟨fun x o hx e => ?_,fun x o im e=>kD.im x o im (k3.im x o im (k2.im x o im e))⟩,fD,ad,?_,by rw [List.length_append,List.length_singleton];omega,nD3,?_,ff⟩
  ·refine kD.ot x o (aK (fun z => ?_)) (k3.ot x o (fun z => ?_) (k2.ot x o hx e))
   ·subst z
    exact (aD fD e) rfl
   ·rcases f2 x z with y | y
    ·exact hx y
    ·exact (aD y e) rfl
  ·rw [aL hf,l9,List.map_append,← ey]
   rfl
  ·rw [aL hf,nI,show t+(i+1)=t+i+1 by omega]
   exact h3.kp kD (fun x hx=>aK (fun z=>nD3 (z ▸ hx)))
 ·rw [lf,List.take_of_length_le (Nat.le_refl _)] at h2 ey
  rw [ey] at eD
  exact q D H2 F2 k2 fD eD nD h2 f2
theorem zK:(List.replicate (15:Int).toNat [V.int 0]).flatten=zeros15.map V.int:=by rfl
theorem vk (p:List Int) (a:Nat):kg (p.map V.int) (some (a:Int)) none=(p.drop a).map V.int:=by rw [oR,List.map_drop]
abbrev oj:Stmt:=(top 54)
abbrev mE (K:PySem.W.Frag) (c:Cs):Sp:=sp2 fun u v H Q _=>∃ (a:Addr) (ns:List Int) (k:Int),u = .ref a∧v = .int k∧SqL K H a (ns.map V.int)∧∀ v:Int,Q (.int v) H
theorem mF:FnScope ["_law_script", "_law_k"] ["_law_script", "_law_k"] (ai oj):=aQ
theorem mG (T:Txt K mg c):fI P w K mg base CX0 1 "_law_cell" ["_law_script", "_law_k"] (mE K c):=by
 refine T.d__law_cell.ok mF (fun _ _ _ _ _ _ us hl=>match us,hl with | [_,_],_=>rfl) gX (fun f cdv A outer s H vs Q E hr h => ?_)
 obtain ⟨v0,v1,rfl,h⟩:=h
 refine ⟨_,(ae (bc (nv (K:=K) (pv 0) (fun _=>rfl))
    (af (ay (aW (aY (K:=K)) (pv 0) (av bQ (pv 1) (ax (aB (K:=K)) rfl T.len PySem.boot_len (aa (pv 0) ac))) (fun _ _=>rfl))))
    aG)
   (af (ay ag))),?_⟩
 try dsimp only [bv,Cx.nox,Cx.wish]
 refine ak (s2:=[some v0,some v1]) rfl ?_
 obtain ⟨a,ns,k,rfl,rfl,hS,q⟩:=h
 wtm_at "wp"
 cases ns with
 | nil=>exact vv (q 0)
 | cons n ns=>
  refine rj ?_
  wtm_at "wp"
  have hl:0 < ((((n :: ns).map V.int).length:Nat):Int):=by rw [List.length_map,List.length_cons];omega
  have hm:=Int.emod_nonneg k (show ((((n :: ns).map V.int).length:Nat):Int)≠0 by omega)
  have hm2:=Int.emod_lt_of_pos k hl
  have hi:(k % ((((n :: ns).map V.int).length:Nat):Int)).toNat < (n :: ns).length:=by
   rw [List.length_map] at *
   omega
  have he:atI ((n :: ns).map V.int) (k % ((((n :: ns).map V.int).length:Nat):Int))=some (.int ((n :: ns).getD (k % ((((n :: ns).map V.int).length:Nat):Int)).toNat 0)):=by
   have e:k % ((((n :: ns).map V.int).length:Nat):Int)=(((k % ((((n :: ns).map V.int).length:Nat):Int)).toNat:Nat):Int):=by omega
   have h:=dn hi
   rw [← e] at h
   exact h
  refine BY hl ?_
  exact bL hS he (q _)
abbrev qE:Stmt:=(top 55)
abbrev om (K:PySem.W.Frag) (c:Cs):Sp:=sp2 fun u v H Q _=>∃ (a:Addr) (ns:List Int) (k:Int),u = .ref a∧v = .int k∧SqL K H a (ns.map V.int)∧∀ v:Int,0≤v→v < 4294967231→Q (.int v) H
theorem sc__law_mix:FnScope ["_law_script", "_law_k", "_law_number"] ["_law_script", "_law_k"] (ai qE):=aQ
theorem bK (T:Txt K mg c):fI P w K mg base CX0 2 "_law_mix" ["_law_script", "_law_k"] (om K c):=by
 refine T.d__law_mix.ok sc__law_mix (fun _ _ _ _ _ _ us hl=>match us,hl with | [_,_],_=>rfl) gX (fun f cdv A outer s H vs Q E hr h => ?_)
 obtain ⟨v0,v1,rfl,h⟩:=h
 refine ⟨_,(ae (az (i:=2) sc__law_mix.nd rfl (.inl rfl) (av bQ (av bA (cj (mG T) hr aw (aa (pv 0) (aa (pv 1) ac))) (av gu ag (av bA (pv 1) ag))) ag))
   (ae (az (i:=2) sc__law_mix.nd rfl (.inl rfl) (av bQ (av gu (pv 2) ag) ag))
   (af (ay (av bQ (av bA (av gu (av dO (pv 2) ag) ag) (pv 2)) ag))))),?_⟩
 try dsimp only [bv,Cx.nox,Cx.wish]
 refine ak (s2:=[some v0,some v1,none]) rfl ?_
 obtain ⟨a,ns,k,rfl,rfl,hS,q⟩:=h
 wtm_at "wp"
 refine ⟨a,ns,k,rfl,rfl,hS,fun v => ?_⟩
 wtm_at "wp"
 exact q _ (Int.emod_nonneg _ (by decide)) (Int.emod_lt_of_pos _ (by decide))
abbrev kY:Stmt:=(top 57)
abbrev jN (K:PySem.W.Frag) (c:Cs):Sp:=sp2 fun u v H Q _=>∃ (n:Int) (k:Nat),u = .int n∧v = .int k∧k≤100∧MkL H Q (am n k)
theorem sc__law_digits:FnScope ["_law_number", "_law_many", "_law_found", "_law_k"] ["_law_number", "_law_many"] (ai kY):=aQ
theorem bY (T:Txt K mg c):fI P w K mg base CX0 1 "_law_digits" ["_law_number", "_law_many"] (jN K c):=by
 refine T.d__law_digits.ok sc__law_digits (fun _ _ _ _ _ _ us hl=>match us,hl with | [_,_],_=>rfl) gX (fun f cdv A outer s H vs Q E hr h => ?_)
 obtain ⟨v0,v1,rfl,h⟩:=h
 refine ⟨_,(ae (az (i:=2) sc__law_digits.nd rfl (.inl rfl) (bd ac))
   (ae (cg PassesOwn.never rfl (bN rfl T.range (aa (pv 1) ac)) (bD (i:=3) sc__law_digits.nd rfl (.inl rfl))
    (ae (az (i:=2) sc__law_digits.nd rfl (.inl rfl) (av c6 (bd (aa (av bQ (pv 0) ag) ac)) (pv 2)))
    (af (az (i:=0) sc__law_digits.nd rfl (.inl rfl) (av dO (pv 0) ag)))))
   (af (ay (pv 2))))),?_⟩
 try dsimp only [bv,Cx.nox,Cx.wish]
 refine ak (s2:=[some v0,some v1,none,none]) rfl ?_
 obtain ⟨n,k,rfl,rfl,hk,q⟩:=h
 wtm_at "wp"
 refine ⟨small (show 0≤1000 by decide),fun r0 hr0 => ?_⟩
 wtm_at "wp"
 refine g5 ?_
 wtm_at "wp"
 refine eK k (fun i σ H2=>∃ (r:Addr) (v:Option V),σ=[some (.int (n / 2 ^ i)),some (.int (k:Int)),some (.ref r),v]∧Same H H2∧aI H r∧At H2 r (.lst ((am n i).map V.int))) (by omega) (by omega)
  ⟨r0,none,?_,ap hr0 _,hr0,ad⟩ ?_ ?_
 ·rw [Int.pow_zero,Int.ediv_one]
 ·rintro i σ H2 hi ⟨r,v,rfl,s2,hr,e2⟩
  wtm_at "wp"
  refine ⟨small (show 1≤1000 by decide),fun p hp => ?_⟩
  wtm_at "wp"
  refine dJ (by wtm_at "hg") (by wtm_at "hg") ?_ (fun t ht => ?_)
  ·rw [List.length_map,ar]
   exact small (by show 1+i≤1000;omega)
  have s3:Same H (upd H2 p (.lst [.int (n / 2 ^ i % 2)])):=s2.new hp
  wtm_at "wp"
  refine ⟨t,some (.int (i:Int)),?_,s3.new ht,s3.fr ht,ad⟩
  rw [Int.ediv_ediv_of_nonneg (Int.le_of_lt (Int.pow_pos (by decide))),Int.pow_succ]
 ·rintro σ H2 ⟨r,v,rfl,s2,hr,e2⟩
  wtm_at "wp"
  exact q r H2 s2 hr e2
abbrev mH:Stmt:=(top 58)
abbrev kZ (K:PySem.W.Frag) (c:Cs):Sp:=sp1 fun v H Q _=>∃ (a:Addr) (bs:List Int),v = .ref a∧SqL K H a (bs.map V.int)∧Bits bs∧bs.length≤500∧MkL H Q (chk bs)
theorem sc__law_check:FnScope ["_law_bits_here", "_law_rest", "_law_wheel", "_law_k", "_law_j"] ["_law_bits_here"] (ai mH):=aQ
theorem k6 (T:Txt K mg c):fI P w K mg base CX0 2 "_law_check" ["_law_bits_here"] (kZ K c):=by
 refine T.d__law_check.ok sc__law_check (fun _ _ _ _ _ _ us hl=>match us,hl with | [_],_=>rfl) iA (fun f cdv A outer s H vs Q E hr h => ?_)
 obtain ⟨v0,rfl,h⟩:=h
 refine ⟨_,(ae (az (i:=1) sc__law_check.nd rfl (.inl rfl) (av c6 (cZ (cG (K:=K)) rfl T.list PyProof.Rows.boot_list (aa (pv 0) ac)) (av lC (bd (aa ag ac)) ag)))
   (ae (az (i:=2) sc__law_check.nd rfl (.inl rfl) (av c6 (bd (aa ag ac)) (cj (bY T) hr aw (aa ag (aa ag ac)))))
   (ae (cg PassesOwn.never rfl (bN rfl T.range (aa (ax (aB (K:=K)) rfl T.len PySem.boot_len (aa (pv 0) ac)) ac)) (bD (i:=3) sc__law_check.nd rfl (.inl rfl))
    (af (bc (aq b9 (aW (aY (K:=K)) (pv 1) (pv 3) (fun _ _=>rfl)) ag (au _))
     (af (cg PassesOwn.never rfl (bN rfl T.range (aa ag ac)) (bD (i:=4) sc__law_check.nd rfl (.inl rfl))
      (af (x3 (av bQ (av bA (aW (aY (K:=K)) (pv 1) (av bA (pv 3) (pv 4)) (fun _ _=>rfl)) (aW (aY (K:=K)) (pv 2) (pv 4) (fun _ _=>rfl))) ag) (xZ (pv 1) (av bA (pv 3) (pv 4)) ug)))))
     aG)))
   (af (ay (cq (cr (K:=K)) (pv 1) (cc (ax (aB (K:=K)) rfl T.len PySem.boot_len (aa (pv 0) ac))) gY)))))),?_⟩
 try dsimp only [bv,Cx.nox,Cx.wish]
 refine ak (s2:=[some v0,none,none,none,none]) rfl ?_
 obtain ⟨a,bs,rfl,hS,hb,hl,q⟩:=h
 have lb:(bs.map V.int).length=bs.length:=List.length_map _
 wtm_at "wp"
 intro p1 hp1
 wtm_at "wp"
 refine ⟨small (show 1≤1000 by decide),fun p2 hp2 => ?_⟩
 wtm_at "wp"
 refine lL ad (by decide) (by decide) (small (show 1 * 15≤1000 by decide)) (fun p3 hp3 => ?_)
 rw [zK]
 refine dJ (by wtm_at "hg") (by wtm_at "hg") ?_ (fun r hr4 => ?_)
 ·rw [lb]
  exact small (by show bs.length+15≤1000;omega)
 have s4:Same H (upd (upd (upd (upd H p1 (.lst (bs.map V.int))) p2 (.lst [.int 0])) p3 (.lst (zeros15.map V.int))) r (.lst ((bs++zeros15).map V.int))):=by wtm_at "hs"
 have hrH:aI H r:=by wtm_at "hf"
 rw [← List.map_append]
 generalize hH4:upd (upd (upd (upd H p1 (.lst (bs.map V.int))) p2 (.lst [.int 0])) p3 (.lst (zeros15.map V.int))) r (.lst ((bs++zeros15).map V.int))=H4 at *
 have e4:At H4 r (.lst ((bs++zeros15).map V.int)):=by rw [← hH4];exact ad
 wtm_at "wp"
 refine ⟨small (show 1≤1000 by decide),fun p5 hp5 => ?_⟩
 wtm_at "wp"
 refine ⟨17817,15,rfl,rfl,by decide,fun p6 H6 s56 hp6 e6 => ?_⟩
 have s6:Same H H6:=(s4.new hp5).trans s56
 have e6r:At H6 r (.lst ((bs++zeros15).map V.int)):=s56.get (aA hp5 e4)
 refine dJ (s56.get ad) e6 (small (show 1+15≤1000 by decide)) (fun wh hwh => ?_)
 have s7:Same H (upd H6 wh (.lst ((1 :: wheel).map V.int))):=s6.new hwh
 have nrw:r≠wh:=aD hwh e6r
 wtm_at "wp"
 refine g5 ?_
 wtm_at "wp"
 rw [lb]
 refine eK bs.length (fun i σ H2=>∃ (rest:List Int) (v u:Option V),σ=[some (.ref a),some (.ref r),some (.ref wh),v,u]∧Same H H2∧At H2 r (.lst (rest.map V.int))∧At H2 wh (.lst ((1 :: wheel).map V.int))∧Outer bs i rest) (by omega) (by omega)
  ⟨bs++zeros15,none,none,rfl,s7,aP nrw e6r,ad,nC bs hb⟩ ?_ ?_
 ·rintro i σ H2 hi ⟨rest,v,u,rfl,s8,er,ew,o⟩
  have ol:=o.len
  have hi2:i < rest.length:=by omega
  wtm_at "wp"
  refine bL (by wtm_at "hg") (dn hi2) ?_
  wtm_at "wp"
  refine aJ (fun e1 => ?_) (fun e1 => ?_)
  ·wtm_at "wp"
   refine g5 ?_
   wtm_at "wp"
   refine eK 16 (fun j σ H3=>∃ u:Option V,σ=[some (.ref a),some (.ref r),some (.ref wh),some (.int (i:Int)),u]∧Same H H3∧At H3 r (.lst ((fb i j rest).map V.int))∧At H3 wh (.lst ((1 :: wheel).map V.int))) rfl (by decide)
    ⟨_,rfl,s8,by rw [qe];exact er,ew⟩ ?_ ?_
   ·rintro j σ H3 hj ⟨u,rfl,s9,er3,ew3⟩
    have il:=lV i j rest
    have hij:i+j < (fb i j rest).length:=by omega
    have eij:(i:Int)+(j:Int)=((i+j:Nat):Int):=by omega
    have wl:(1 :: wheel).length=16:=by rw [List.length_cons,dW]
    wtm_at "wp"
    refine bL (by wtm_at "hg") (show atI _ ((i:Int)+(j:Int))=_ by rw [eij];exact dn hij) ?_
    wtm_at "wp"
    refine bL (by wtm_at "hg") (dn (show j < (1 :: wheel).length by omega)) ?_
    wtm_at "wp"
    refine xh (j:=i+j) er3 (by rw [eij,List.length_map];exact wV hij) ?_
    refine ⟨_,rfl,s9.upF hrH,?_,aP (Ne.symm nrw) ew3⟩
    rw [map_set,sJ i j rest hj (by omega)]
    exact ad
   ·rintro σ H3 ⟨u,rfl,s9,er3,ew3⟩
    refine ⟨fb i 16 rest,_,_,rfl,s9,er3,ew3,?_⟩
    have:=j4 hb hi o
    unfold turn at this
    rw [if_pos e1] at this
    exact this
  ·wtm_at "wp"
   refine ⟨rest,_,_,rfl,s8,er,ew,?_⟩
   have:=j4 hb hi o
   unfold turn at this
   rw [if_neg e1] at this
   exact this
 ·rintro σ H2 ⟨rest,v,u,rfl,s8,er,ew,o⟩
  wtm_at "wp"
  rw [lb]
  refine gB (by wtm_at "hg") (vk rest bs.length) (fun t ht => ?_)
  refine q t _ (s8.new ht) (s8.fr ht) ?_
  rw [sK o]
  exact ad
abbrev oo:Stmt:=(top 59)
abbrev mI (K:PySem.W.Frag) (c:Cs):Sp:=sp2 fun u v H Q _=>∃ (a:Addr) (name:Int) (row:List Int),u = .int name∧v = .ref a∧SqL K H a (row.map V.int)∧row.length≤20∧MkL H Q (aE name row)
theorem sc__law_bits:FnScope ["_law_name", "_law_row", "_law_bits_here", "_law_byte"] ["_law_name", "_law_row"] (ai oo):=aQ
theorem mJ (T:Txt K mg c):fI P w K mg base CX0 3 "_law_bits" ["_law_name", "_law_row"] (mI K c):=by
 refine T.d__law_bits.ok sc__law_bits (fun _ _ _ _ _ _ us hl=>match us,hl with | [_,_],_=>rfl) gX (fun f cdv A outer s H vs Q E hr h => ?_)
 obtain ⟨v0,v1,rfl,h⟩:=h
 refine ⟨_,(ae (az (i:=2) sc__law_bits.nd rfl (.inl rfl) (av c6 (av c6 (bd (aa ag ac)) (cj (bY T) hr aw (aa (pv 0) (aa ag ac)))) (cj (bY T) hr aw (aa (ax (aB (K:=K)) rfl T.len PySem.boot_len (aa (pv 1) ac)) (aa ag ac)))))
   (ae (cg PassesOwn.never rfl (aO (K:=K) (pv 1)) (bD (i:=3) sc__law_bits.nd rfl (.inl rfl))
    (af (az (i:=2) sc__law_bits.nd rfl (.inl rfl) (av c6 (pv 2) (cj (bY T) hr aw (aa (pv 3) (aa ag ac)))))))
   (af (ay (av c6 (pv 2) (cj (k6 T) hr aw (aa (pv 2) ac))))))),?_⟩
 try dsimp only [bv,Cx.nox,Cx.wish]
 refine ak (s2:=[some v0,some v1,none,none]) rfl ?_
 obtain ⟨a,name,row,rfl,rfl,hS,hl,q⟩:=h
 have lr:(row.map V.int).length=row.length:=List.length_map _
 wtm_at "wp"
 refine ⟨small (show 1≤1000 by decide),fun p1 hp1 => ?_⟩
 wtm_at "wp"
 refine ⟨name,11,rfl,rfl,by decide,fun p2 H2 s2 hp2 e2 => ?_⟩
 refine dJ (by wtm_at "hg") (by wtm_at "hg") (by wtm_at "sm") (fun p3 hp3 => ?_)
 have s3:Same H (upd H2 p3 (.lst ([V.int 0]++(am name 11).map V.int))):=Same.new ((ap hp1 _).trans s2) hp3
 wtm_at "wp"
 rw [lr]
 refine ⟨(row.length:Int),4,rfl,rfl,by decide,fun p4 H4 s4 hp4 e4 => ?_⟩
 refine dJ (by wtm_at "hg") (by wtm_at "hg") (by wtm_at "sm") (fun b hb => ?_)
 have s34:=s3.trans s4
 have hbH:aI H b:=s34.fr hb
 have e5:([V.int 0]++(am name 11).map V.int)++(am (row.length:Int) 4).map V.int=([0]++am name 11++am (row.length:Int) 4++bb (row.take 0)).map V.int:=by
  show _=([0]++am name 11++am (row.length:Int) 4++[]).map V.int
  rw [List.append_nil,List.map_append,List.map_append]
  rfl
 rw [e5]
 have s5:Same H (upd H4 b (.lst (([0]++am name 11++am (row.length:Int) 4++bb (row.take 0)).map V.int))):=s34.new hb
 wtm_at "wp"
 refine cW ?_
 wtm_at "wp"
 refine bU (xs:=row.map V.int)
  (fun i σ H6=>∃ (b:Addr) (v:Option V),σ=[some (.int name),some (.ref a),some (.ref b),v]∧Same H H6∧aI H b∧At H6 b (.lst (([0]++am name 11++am (row.length:Int) 4++bb (row.take i)).map V.int))) (s5.seq hS)
  ⟨b,none,rfl,s5,hbH,ad⟩ (fun i σ H6 _ ⟨_,_,_,s6,_⟩=>s6.seq hS) ?_ ?_
 ·rintro i y σ H6 hi ⟨b,v,rfl,s6,hbF,eb⟩
  obtain ⟨z,hz,rfl⟩:=cC hi
  have hil:i < row.length:=(List.getElem?_eq_some_iff.mp hz).1
  wtm_at "wp"
  refine ⟨z,8,rfl,rfl,by decide,fun p7 H7 s7 hp7 e7 => ?_⟩
  have hlen:([0]++am name 11++am (row.length:Int) 4++bb (row.take i)).length≤16+8 * row.length:=by
   simp only [List.length_append,ar,dw,List.length_take,List.length_singleton]
   omega
  refine dJ (s7.get eb) e7 ?_ (fun t ht => ?_)
  ·rw [List.length_map,List.length_map,ar]
   exact small (by omega)
  wtm_at "wp"
  have s67:=s6.trans s7
  refine ⟨t,some (.int z),rfl,s67.new ht,s67.fr ht,?_⟩
  rw [← List.map_append,ix hz]
  simp only [List.append_assoc]
  exact ad
 ·rintro σ H6 ⟨b,v,rfl,s6,hbF,eb⟩
  rw [lr,List.take_of_length_le (Nat.le_refl _)] at eb
  have eb':At H6 b (.lst ((body name row).map V.int)):=eb
  have bl:=eU name row
  wtm_at "wp"
  refine ⟨b,body name row,rfl,At.sqL eb',i5 name row,by rw [bl];omega,fun p8 H8 s8 hp8 e8 => ?_⟩
  refine dJ (s8.get eb') e8 ?_ (fun t ht => ?_)
  ·rw [List.length_map,List.length_map,bl,cY]
   exact small (by omega)
  ·have s68:=s6.trans s8
   refine q t _ (s68.new ht) (s68.fr ht) ?_
   rw [← List.map_append]
   exact ad
theorem zL (w:List Int):run w≤w.length:=by
 unfold run
 have:∀ l:List Int,pj l≤l.length:=by
  intro l
  cases l with
  | nil=>exact Nat.zero_le _
  | cons x r=>
   cases e:pj (x :: r) with
   | zero=>exact Nat.zero_le _
   | succ n=>
    obtain ⟨t,h⟩:=(kM n r x).mp (by rw [e];exact Nat.le_refl _)
    rw [h]
    simp
 have h:=this w.reverse
 rw [List.length_reverse] at h
 exact h
theorem j8 {w:List Int} {k:Nat} (h1:k+1≤w.length):k+1≤run w↔∀ j,j≤k→w.getD (w.length - 1 - j) 0=w.getLastD 0:=by
 rcases c8 w with rfl | ⟨m,b,rfl⟩
 ·simp at h1
 ·unfold run
  rw [List.reverse_append,List.reverse_singleton,List.singleton_append,kM,dA]
  rw [List.length_append,List.length_singleton] at h1
  have hg:∀ j,j < m.length→(m++[b]).getD (m.length+1 - 1 - (j+1)) 0=m.reverse.getD j 0:=fun j hj=>by
   rw [db (by omega)]
   rw [List.getD_eq_getElem?_getD,List.getD_eq_getElem?_getD,List.getElem?_reverse hj]
   congr 2
   omega
  constructor
  ·rintro ⟨t,ht⟩ j hj
   rw [List.length_append,List.length_singleton]
   cases j with
   | zero=>
    have:=bM (p:=m) (b:=b)
    simpa using this
   | succ j=>
    rw [hg j (by omega),ht]
    rw [db (by rw [List.length_replicate];omega)]
    rw [List.getD_eq_getElem?_getD,List.getElem?_replicate,if_pos (by omega)]
    rfl
  ·intro h
   refine ⟨m.reverse.drop k,?_⟩
   have:m.reverse.take k=List.replicate k b:=by
    apply List.ext_getElem?
    intro i
    by_cases hi:i < k
    ·rw [List.getElem?_take_of_lt hi,List.getElem?_replicate,if_pos hi]
     have h2:=h (i+1) (by omega)
     rw [List.length_append,List.length_singleton,hg i (by omega)] at h2
     rw [List.getD_eq_getElem?_getD,List.getElem?_eq_getElem (by rw [List.length_reverse];omega)] at h2
     rw [List.getElem?_eq_getElem (by rw [List.length_reverse];omega)]
     exact congrArg some h2
    ·rw [List.getElem?_eq_none (by rw [List.length_take];omega),List.getElem?_eq_none (by rw [List.length_replicate];omega)]
   rw [← this,List.take_append_drop]
theorem zM {w:List Int} (h:4 < w.length):(cP (bH w)).length=1↔∃ x,bH w=[x,x,x,x,x]:=by
 have hl:(bH w).length=5:=by unfold bH;rw [List.length_drop];omega
 rw [uu]
 constructor
 ·rintro ⟨x,_,hx⟩
  refine ⟨x,?_⟩
  match e:bH w,hl with
  | [a,b,c,d,f],_=>
   rw [e] at hx
   simp only [List.mem_cons,List.not_mem_nil,or_false,forall_eq_or_imp,forall_eq] at hx
   obtain ⟨h1,h2,h3,h4,h5⟩:=hx
   rw [h1,h2,h3,h4,h5]
 ·rintro ⟨x,hx⟩
  rw [hx]
  exact ⟨x,by simp,by simp⟩
theorem Bw (n:Int) (h0:0≤n):∃ v:Int,atI [V.int 0,.int 1,.int 2047,.int 1024,.int (n / 7 % 2048),.int (n / 7 % 8)] (n % 6)=some (.int v)∧0≤v∧v≤2047:=by
 have:n % 6=0∨n % 6=1∨n % 6=2∨n % 6=3∨n % 6=4∨n % 6=5:=by omega
 rcases this with e | e | e | e | e | e <;> rw [e] <;> exact ⟨_,rfl,by omega,by omega⟩
theorem Bx (n:Int) (h0:0≤n):∃ v:Int,atI [V.int 0,.int 255,.int (n / 4 % 256),.int 31] (n % 4)=some (.int v)∧0≤v∧v≤255:=by
 have:n % 4=0∨n % 4=1∨n % 4=2∨n % 4=3:=by omega
 rcases this with e | e | e | e <;> rw [e] <;> exact ⟨_,rfl,by omega,by omega⟩
abbrev qF:Stmt:=(top 61)
abbrev oq (K:PySem.W.Frag) (c:Cs):Sp:=sp1 fun v H Q _=>∃ (a:Addr) (ws:List Int),v = .ref a∧SqL K H a (ws.map V.int)∧Q (.int (run ws:Nat)) H
theorem sc__law_run:FnScope ["_law_bits_here", "_law_many"] ["_law_bits_here"] (ai qF):=aQ
theorem ou (T:Txt K mg c):fI P w K mg base CX0 1 "_law_run" ["_law_bits_here"] (oq K c):=by
 refine T.d__law_run.ok sc__law_run (fun _ _ _ _ _ _ us hl=>match us,hl with | [_],_=>rfl) iA (fun f cdv A outer s H vs Q E hr h => ?_)
 obtain ⟨v0,rfl,h⟩:=h
 refine ⟨_,(ae (az (i:=1) sc__law_run.nd rfl (.inl rfl) ag)
   (ae (ka PassesOwn.never (PW.pt (fH (aq kd (pv 1) (ax (aB (K:=K)) rfl T.len PySem.boot_len (aa (pv 0) ac)) (au _)) (dN (aq b9 (aW (aY (K:=K)) (pv 0) (av dH (av dH (ax (aB (K:=K)) rfl T.len PySem.boot_len (aa (pv 0) ac)) ag) (pv 1)) (fun _ _=>rfl)) (aW (aY (K:=K)) (pv 0) (t6 oE ag) (fun _ _=>rfl)) (au _)))))
    (af (az (i:=1) sc__law_run.nd rfl (.inl rfl) (av bA (pv 1) ag))))
   (af (ay (pv 1))))),?_⟩
 try dsimp only [bv,Cx.nox,Cx.wish]
 refine ak (s2:=[some v0,none]) rfl ?_
 obtain ⟨a,ws,rfl,hS,q⟩:=h
 have lr:(ws.map V.int).length=ws.length:=List.length_map _
 wtm_at "wp"
 refine oC (fun σ H2=>H2=H∧∃ k:Nat,σ=[some (.ref a),some (.int (k:Int))]∧k≤run ws∧(∀ j,j < k→ws.getD (ws.length - 1 - j) 0=ws.getLastD 0)) (fun σ _=>match σ with | [_,some (.int k)]=>ws.length - k.toNat | _=>0) ?_ ?_ ?_
 ·exact ⟨rfl,0,rfl,Nat.zero_le _,fun j hj=>absurd hj (by omega)⟩
 ·rintro σ H2 ⟨rfl,k,rfl,hk,hall⟩
  have rl:=zL ws
  wtm_at "wp"
  rw [lr]
  refine aJ (fun c1 => ?_) (fun c1 => ?_)
  ·wtm_at "wp"
   rw [lr]
   refine bL hS (show atI _ ((ws.length:Int) - 1 - (k:Int))=_ by rw [show (ws.length:Int) - 1 - (k:Int)=((ws.length - 1 - k:Nat):Int) by omega];exact dn (by omega)) ?_
   wtm_at "wp"
   refine bL hS (mi (by intro z;rw [z] at c1;simp at c1;omega)) ?_
   wtm_at "wp"
   have hall':ws.getD (ws.length - 1 - k) 0=ws.getLastD 0→∀ j,j≤k→ws.getD (ws.length - 1 - j) 0=ws.getLastD 0:=fun c2 j hj=>by
    rcases Nat.lt_or_ge j k with z | z
    ·exact hall j z
    ·have:j=k:=by omega
     rw [this];exact c2
   refine aJ (fun c2 => ?_) (fun c2 => ?_)
   ·wtm_at "wp"
    refine ⟨⟨rfl,k+1,by rw [show ((k+1:Nat):Int)=(k:Int)+1 by omega],(j8 (by omega)).mpr (hall' c2),fun j hj=>hall' c2 j (by omega)⟩,?_⟩
    show ws.length - ((k:Int)+1).toNat < ws.length - (k:Int).toNat
    omega
   ·wtm_at "wp"
    have:run ws=k:=by
     rcases Nat.lt_or_ge k (run ws) with z | z
     ·exact absurd ((j8 (by omega)).mp z k (Nat.le_refl _)) c2
     ·omega
    rw [this] at q
    exact q
  ·wtm_at "wp"
   have:run ws=k:=by omega
   rw [this] at q
   exact q
 ·intro σ H2 R R' hRR h
  exact vF (kG (jB rW dS (xc rY (nw dS rV)))) (kG (jB Bh (jB rX dS (jB rW (jB rW (xc rY (nw dS rV)) Bg) dS)) (jB rX dS (Bi CL Bg)))) σ H2 R R' hRR h
abbrev jO:Stmt:=(top 60)
abbrev jv (K:PySem.W.Frag) (c:Cs):Sp:=sp1 fun v H Q _=>∃ (a:Addr) (bs:List Int),v = .ref a∧SqL K H a (bs.map V.int)∧Bits bs∧bs.length≤400∧MkL H Q (aS bs)
theorem sc__law_stuffed:FnScope ["_law_bits_here", "_law_found", "_law_bit"] ["_law_bits_here"] (ai jO):=aQ
theorem jw (T:Txt K mg c):fI P w K mg base CX0 2 "_law_stuffed" ["_law_bits_here"] (jv K c):=by
 refine T.d__law_stuffed.ok sc__law_stuffed (fun _ _ _ _ _ _ us hl=>match us,hl with | [_],_=>rfl) iA (fun f cdv A outer s H vs Q E hr h => ?_)
 obtain ⟨v0,rfl,h⟩:=h
 refine ⟨_,(ae (az (i:=1) sc__law_stuffed.nd rfl (.inl rfl) (bd ac))
   (ae (cg PassesOwn.never rfl (aO (K:=K) (pv 0)) (bD (i:=2) sc__law_stuffed.nd rfl (.inl rfl))
    (ae (aC (bZ (K:=K) PySem.F.plainAttrs_list PySem.F.slot_list_append PySem.F.type_list_append bE (pv 1) (aa (pv 2) ac)))
    (af (bc (PW.pt (fH (aq mZ (ax (aB (K:=K)) rfl T.len PySem.boot_len (aa (pv 1) ac)) ag (au _)) (fH (aq b9 (ax kr rfl T.len PySem.boot_len (aa (cZ (rR (K:=K)) rfl T.set PyProof.Rows.boot_set (aa (cq (cr (K:=K)) (pv 1) (cc (t6 oE ag)) gY) ac)) ac)) ag (au _)) (dN (aq b9 (av bQ (cj (ou T) hr aw (aa (pv 1) ac)) ag) ag (au _))))))
     (af (aC (bZ (K:=K) PySem.F.plainAttrs_list PySem.F.slot_list_append PySem.F.type_list_append bE (pv 1) (aa (av dH ag (pv 2)) ac))))
     aG))))
   (af (ay (pv 1))))),?_⟩
 try dsimp only [bv,Cx.nox,Cx.wish]
 refine ak (s2:=[some v0,none,none]) rfl ?_
 obtain ⟨a,bs,rfl,hS,hb,hl,q⟩:=h
 wtm_at "wp"
 refine ⟨small (show 0≤1000 by decide),fun r hr0 => ?_⟩
 have s1:Same H (upd H r (.lst [])):=ap hr0 _
 wtm_at "wp"
 refine cW ?_
 wtm_at "wp"
 refine bU (xs:=bs.map V.int) (fun i σ H2=>∃ v:Option V,σ=[some (.ref a),some (.ref r),v]∧Same H H2∧At H2 r (.lst ((aS (bs.take i)).map V.int))) (s1.seq hS)
  ⟨none,rfl,s1,ad⟩ (fun i σ H2 _ ⟨_,_,s2,_⟩=>s2.seq hS) ?_ ?_
 ·rintro i y σ H2 hi ⟨v,rfl,s2,er⟩
  obtain ⟨b,hbi,rfl⟩:=cC hi
  have hil:i < bs.length:=(List.getElem?_eq_some_iff.mp hbi).1
  have hbb:Bit b:=hb b (List.mem_of_getElem? hbi)
  have hlen:(aS (bs.take i)).length≤800:=by
   have:=gH (bs.take i)
   rw [List.length_take] at this
   omega
  have hst:aS (bs.take (i+1))=aR (aS (bs.take i)) b:=gD (f:=aR) (a:=([]:List Int)) hbi
  have hld:=nE (w:=aS (bs.take i)) (b:=b) (eT (hb.take i)) hbb (lX (hb.take i))
  have r1:=sL (aS (bs.take i)) b
  wtm_at "wp"
  refine bF er (bg (by rw [List.length_map];omega)) ?_
  have er2:At (upd H2 r (.lst ((aS (bs.take i)).map V.int++[.int b]))) r (.lst ((aS (bs.take i)++[b]).map V.int)):=by rw [List.map_append];exact ad
  have s3:Same H (upd H2 r (.lst ((aS (bs.take i)).map V.int++[.int b]))):=s2.upF hr0
  generalize upd H2 r (.lst ((aS (bs.take i)).map V.int++[.int b]))=H3 at *
  have lw:(aS (bs.take i)++[b]).length≤801:=by rw [List.length_append,List.length_singleton];omega
  have yes:due (aS (bs.take i)++[b])=true→∀ H4,Same H H4→At H4 r (.lst ((aS (bs.take i)++[b]).map V.int))→∃ v:Option V,[some (.ref a),some (.ref r),some (.int b)]=[some (.ref a),some (.ref r),v]∧Same H (upd H4 r (.lst ((aS (bs.take i)++[b]).map V.int++[.int (1 - b)])))∧At (upd H4 r (.lst ((aS (bs.take i)++[b]).map V.int++[.int (1 - b)]))) r (.lst ((aS (bs.take (i+1))).map V.int)):=fun d H4 s4 e4=>by
   refine ⟨_,rfl,s4.upF hr0,?_⟩
   rw [hst]
   unfold aR
   rw [if_pos d,List.map_append (l₁:=aS (bs.take i)++[b])]
   exact ad
  have no:¬ due (aS (bs.take i)++[b])=true→∀ H4,Same H H4→At H4 r (.lst ((aS (bs.take i)++[b]).map V.int))→∃ v:Option V,[some (.ref a),some (.ref r),some (.int b)]=[some (.ref a),some (.ref r),v]∧Same H H4∧At H4 r (.lst ((aS (bs.take (i+1))).map V.int)):=fun d H4 s4 e4=>by
   refine ⟨_,rfl,s4,?_⟩
   rw [hst]
   unfold aR
   rw [if_neg d]
   exact e4
  generalize aS (bs.take i)++[b]=W at *
  have lW:(W.map V.int).length=W.length:=List.length_map _
  wtm_at "wp"
  rw [lW]
  refine aJ (fun c1 => ?_) (fun c1 => ?_)
  ·wtm_at "wp"
   refine gB (by wtm_at "hg") (Cd W) (fun p hp => ?_)
   wtm_at "wp"
   have l5:(bH W).length≤100:=by unfold bH;rw [List.length_drop];omega
   refine ⟨p,bH W,rfl,At.sqL ad,l5,fun se hse => ?_⟩
   refine ⟨se,_,_,rfl,bz,?_⟩
   wtm_at "wp"
   have sZ:Same H (upd (upd H3 p (.lst ((bH W).map V.int))) se (.set (fun k=>(cP (bH W)).any (· == k)) (cP (bH W)).length)):=(s3.new hp).new hse
   have eZ:At (upd (upd H3 p (.lst ((bH W).map V.int))) se (.set (fun k=>(cP (bH W)).any (· == k)) (cP (bH W)).length)) r (.lst (W.map V.int)):=aA hse (aA hp er2)
   generalize upd (upd H3 p (.lst ((bH W).map V.int))) se (.set (fun k=>(cP (bH W)).any (· == k)) (cP (bH W)).length)=H4 at *
   refine aJ (fun c2 => ?_) (fun c2 => ?_)
   ·wtm_at "wp"
    refine ⟨r,W,rfl,At.sqL eZ,?_⟩
    wtm_at "wp"
    refine aJ (fun c3 => ?_) (fun c3 => ?_)
    ·wtm_at "wp"
     refine bF eZ (bg (by rw [lW];omega)) ?_
     exact yes (hld.mp ⟨by omega,(zM (by omega)).mp (by omega),by omega⟩) _ sZ eZ
    ·wtm_at "wp"
     exact no (fun d=>c3 (by have:=(hld.mpr d).2.2;omega)) _ sZ eZ
   ·wtm_at "wp"
    exact no (fun d=>c2 (by have:=(zM (hld.mpr d).1).mpr (hld.mpr d).2.1;omega)) _ sZ eZ
  ·wtm_at "wp"
   exact no (fun d=>c1 (by have:=(hld.mpr d).1;omega)) _ s3 er2
 ·rintro σ H2 ⟨v,rfl,s2,er⟩
  rw [List.length_map,List.take_of_length_le (Nat.le_refl _)] at er
  wtm_at "wp"
  exact q r H2 s2 hr0 er
abbrev mK:Stmt:=(top 62)
abbrev k8 (K:PySem.W.Frag) (c:Cs):Sp:=sp3 fun u v w H Q _=>∃ (a:Addr) (ns:List Int) (k:Int) (m:Nat),u = .ref a∧v = .int k∧w = .int m∧SqL K H a (ns.map V.int)∧m≤8∧(∀ name row t r H',Same H H'→aI H t→aI H r→At H' t (.tup [.int name,.ref r])→At H' r (.lst (row.map V.int))→cQ name row→row.length≤m→Q (.ref t) H')
theorem sc__law_frame:FnScope ["_law_script", "_law_k", "_law_most", "_law_number", "_law_name", "_law_row", "_law_j", "_law_byte"] ["_law_script", "_law_k", "_law_most"] (ai mK):=aQ
theorem lc (T:Txt K mg c):fI P w K mg base CX0 3 "_law_frame" ["_law_script", "_law_k", "_law_most"] (k8 K c):=by
 refine T.d__law_frame.ok sc__law_frame (fun _ _ _ _ _ _ us hl=>match us,hl with | [_,_,_],_=>rfl) Aa (fun f cdv A outer s H vs Q E hr h => ?_)
 obtain ⟨v0,v1,v2,rfl,h⟩:=h
 refine ⟨_,(ae (az (i:=3) sc__law_frame.nd rfl (.inl rfl) (cj (bK T) hr aw (aa (pv 0) (aa (pv 1) ac))))
   (ae (az (i:=4) sc__law_frame.nd rfl (.inl rfl) (aW (aY (K:=K)) (bd (aa ag (aa ag (aa ag (aa ag (aa (av bQ (av dO (pv 3) ag) ag) (aa (av bQ (av dO (pv 3) ag) ag) ac))))))) (av bQ (pv 3) ag) (fun _ _=>rfl)))
   (ae (az (i:=5) sc__law_frame.nd rfl (.inl rfl) (bd ac))
   (ae (cg PassesOwn.never rfl (bN rfl T.range (aa (av bQ (av dO (pv 3) ag) (av bA (pv 2) ag)) ac)) (bD (i:=6) sc__law_frame.nd rfl (.inl rfl))
    (ae (az (i:=7) sc__law_frame.nd rfl (.inl rfl) (cj (bK T) hr aw (aa (pv 0) (aa (av bA (av bA (pv 1) ag) (pv 6)) ac))))
    (af (aC (bZ (K:=K) PySem.F.plainAttrs_list PySem.F.slot_list_append PySem.F.type_list_append bE (pv 5) (aa (aW (aY (K:=K)) (bd (aa ag (aa ag (aa (av bQ (av dO (pv 7) ag) ag) (aa ag ac))))) (av bQ (pv 7) ag) (fun _ _=>rfl)) ac))))))
   (af (ay (ci (aa (pv 4) (aa (pv 5) ac))))))))),?_⟩
 try dsimp only [bv,Cx.nox,Cx.wish]
 refine ak (s2:=[some v0,some v1,some v2,none,none,none,none,none]) rfl ?_
 obtain ⟨a,ns,k,m,rfl,rfl,rfl,hS,hm,q⟩:=h
 wtm_at "wp"
 refine ⟨a,ns,k,rfl,rfl,hS,fun n h0 h1 => ?_⟩
 wtm_at "wp"
 refine ⟨small (show 6≤1000 by decide),fun p hp => ?_⟩
 wtm_at "wp"
 obtain ⟨name,hname,hn0,hn1⟩:=Bw n h0
 refine bL (by wtm_at "hg") hname ?_
 wtm_at "wp"
 refine ⟨small (show 0≤1000 by decide),fun r hr0 => ?_⟩
 have hrH:aI H r:=by wtm_at "hf"
 have s2:Same H (upd (upd H p (.lst [.int 0,.int 1,.int 2047,.int 1024,.int (n / 7 % 2048),.int (n / 7 % 8)])) r (.lst [])):=by wtm_at "hs"
 have e2:At (upd (upd H p (.lst [.int 0,.int 1,.int 2047,.int 1024,.int (n / 7 % 2048),.int (n / 7 % 8)])) r (.lst [])) r (.lst (([]:List Int).map V.int)):=ad
 generalize upd (upd H p (.lst [.int 0,.int 1,.int 2047,.int 1024,.int (n / 7 % 2048),.int (n / 7 % 8)])) r (.lst [])=H2 at *
 wtm_at "wp"
 refine g5 ?_
 wtm_at "wp"
 refine eK (n / 20000 % ((m:Int)+1)).toNat (fun i σ H3=>∃ (row:List Int) (v w:Option V),σ=[some (.ref a),some (.int k),some (.int m),some (.int n),some (.int name),some (.ref r),v,w]∧Same H H3∧At H3 r (.lst (row.map V.int))∧row.length=i∧∀ b∈row,0≤b∧b≤255) rfl ?_
  ⟨[],none,none,rfl,s2,e2,rfl,fun b hb=>by simp at hb⟩ ?_ ?_
 ·have:=Int.emod_nonneg (n / 20000) (show (m:Int)+1≠0 by omega)
  have:=Int.emod_lt_of_pos (n / 20000) (show 0 < (m:Int)+1 by omega)
  omega
 ·rintro i σ H3 hi ⟨row,v,w,rfl,s3,e3,hl,hb⟩
  have hi9:i < 9:=by
   have:=Int.emod_lt_of_pos (n / 20000) (show 0 < (m:Int)+1 by omega)
   omega
  wtm_at "wp"
  refine ⟨a,ns,_,rfl,rfl,s3.seq hS,fun z z0 z1 => ?_⟩
  wtm_at "wp"
  refine ⟨small (show 4≤1000 by decide),fun p4 hp4 => ?_⟩
  wtm_at "wp"
  obtain ⟨y,hy,y0,y1⟩:=Bx z z0
  refine bL (by wtm_at "hg") hy ?_
  wtm_at "wp"
  refine bF (aA hp4 e3) (bg (by rw [List.length_map];omega)) ?_
  refine ⟨row++[y],_,_,rfl,?_,?_,by rw [List.length_append,hl,List.length_singleton],fun b hbm => ?_⟩
  ·exact (s3.new hp4).upF hrH
  ·rw [List.map_append];exact ad
  ·rcases List.mem_append.mp hbm with z | z
   ·exact hb b z
   ·rw [List.mem_singleton.mp z];exact ⟨y0,y1⟩
 ·rintro σ H3 ⟨row,v,w,rfl,s3,e3,hl,hb⟩
  have hm8:row.length≤m:=by
   have:=Int.emod_lt_of_pos (n / 20000) (show 0 < (m:Int)+1 by omega)
   omega
  wtm_at "wp"
  refine ⟨small (show 2≤1000 by decide),fun t ht => ?_⟩
  wtm_at "wp"
  exact q name row t r _ (s3.new ht) (s3.fr ht) hrH ad (aA ht e3) ⟨⟨hn0,hn1⟩,by omega,hb⟩ hm8
abbrev ow:Stmt:=(top 63)
abbrev mL (K:PySem.W.Frag) (c:Cs):Sp:=sp4 fun u v w x H Q _=>∃ (b a:Addr) (F as:List Addr) (ds:List Nd) (t:Nat) (i name:Int) (row:List Int),u = .ref b∧v = .int i∧w = .int name∧x = .ref a∧BusAt c H b F as ds t∧as.length≤8∧(∀ d∈ds,d.qu.length≤900)∧SqL K H a (row.map V.int) ∧
 i.natAbs.log2 < 1920∧name.natAbs.log2 < 1920∧(∀ b∈row,b.natAbs.log2 < 1920) ∧
 (¬ (0≤i∧i < as.length)→∀ H',Same H H'→Q (.str "node") H') ∧
 (∀ (k:Nat) d,i=(k:Nat)→ds[k]? = some d→((¬ cQ name row∨bP ds k name=true)→∀ H',Same H H'→Q (.str "frame") H') ∧
  (cQ name row→bP ds k name=false→xC c H b F as (ds.set k (d.letWait (name,row))) t (.str "ok") Q))
theorem sc__law_told:FnScope ["_law_bus", "_law_at", "_law_name", "_law_row", "_law_kept", "e", "_law_kinds"] ["_law_bus", "_law_at", "_law_name", "_law_row"] (ai ow):=aQ
theorem mM (T:Txt K mg c):fI P w K mg base CX0 4 "_law_told" ["_law_bus", "_law_at", "_law_name", "_law_row"] (mL K c):=by
 refine T.d__law_told.ok sc__law_told (fun _ _ _ _ _ _ us hl=>match us,hl with | [_,_,_,_],_=>rfl) BZ (fun f cdv A outer s H vs Q E hr h => ?_)
 obtain ⟨v0,v1,v2,v3,rfl,h⟩:=h
 refine ⟨_,(ae (az (i:=4) sc__law_told.nd rfl (.inl rfl) fG)
   (cX (xf (K:=K) (iz:=4) (ie:=5) (CM (xH T) hr (aa (pv 0) (aa (pv 1) (aa (pv 2) (aa (pv 3) ac))))) rfl rfl rfl T.m_BusError T.t_BusError T.l_BusError T.b_BusError sc__law_told.nd rfl rfl rfl (.inl rfl))
   (ae (bc (aq ku (pv 4) fG (au _))
    (af (ay jQ))
    aG)
   (ae (az (i:=6) sc__law_told.nd rfl (.inl rfl) (bd (aa (ax (gE (K:=K)) rfl T.isI PyProof.Rows.boot_isinstance (aa (pv 4) (aa (pgr T.m_NoNode) ac))) (aa (ax (gE (K:=K)) rfl T.isI PyProof.Rows.boot_isinstance (aa (pv 4) (aa (pgr T.m_BadFrame) ac))) (aa (ax (gE (K:=K)) rfl T.isI PyProof.Rows.boot_isinstance (aa (pv 4) (aa (pgr T.m_BadBits) ac))) ac)))))
   (ae (bc (PW.pt (mX (aq mY (bZ (K:=K) PySem.F.plainAttrs_list PySem.F.slot_list_count PySem.F.type_list_count uW (pv 6) (aa qK ac)) ag (au _)) (iP (qL (dG (ax (gE (K:=K)) rfl T.isI PyProof.Rows.boot_isinstance (aa (pv 4) (aa (pty T.valueError xi) ac))))))))
    (af (ay jQ))
    aG)
   (af (ay (aW (aY (K:=K)) (bd (aa jQ (aa jQ (aa jQ ac)))) (bZ (K:=K) PySem.F.plainAttrs_list PySem.F.slot_list_index PySem.F.type_list_index sC (pv 6) (aa qK ac)) (fun _ _=>rfl))))))))),?_⟩
 try dsimp only [bv,Cx.nox,Cx.wish]
 refine ak (s2:=[some v0,some v1,some v2,some v3,none,none,none]) rfl ?_
 obtain ⟨b,a,F,as,ds,t,i,name,row,rfl,rfl,rfl,rfl,h,h8,hfew,hS,hli,hln,hlr,qn,qg⟩:=h
 wtm_at "wp"
 refine fJ (fun σ H2=>∃ kept,σ=[some (.ref b),some (.int i),some (.int name),some (.ref a),some kept,none,none]∧((kept = .non∧Q (.str "ok") H2)∨∃ ea,kept = .ref ea∧((At H2 ea (tV ea c.N)∧∀ H',Same H2 H'→Q (.str "node") H')∨(At H2 ea (tV ea c.F)∧∀ H',Same H2 H'→Q (.str "frame") H')))) ?_ ?_
 ·wtm_at "wp"
  refine ⟨b,a,F,as,ds,t,i,name,row,rfl,rfl,rfl,rfl,h,h8,hfew,hS,hli,hln,hlr,fun z => ?_,fun k d ek ed => ?_⟩
  ·refine ⟨c.N,rfl,T.r_NoNode,fun ea fea => ?_⟩
   exact ⟨.ref ea,rfl,.inr ⟨ea,rfl,.inl ⟨ad,fun H' s=>qn z H' ((ap fea _).trans s)⟩⟩⟩
  ·obtain ⟨g1,g2⟩:=qg k d ek ed
   refine ⟨fun g => ?_,fun g e H1 s1 => ?_,fun g e H1 F1 k1 h1 f1 => ?_⟩
   ·refine ⟨c.F,rfl,T.r_BadFrame,fun ea fea => ?_⟩
    exact ⟨.ref ea,rfl,.inr ⟨ea,rfl,.inr ⟨ad,fun H' s=>g1 (.inl g) H' ((ap fea _).trans s)⟩⟩⟩
   ·refine ⟨c.F,rfl,T.r_BadFrame,fun ea fea => ?_⟩
    exact ⟨.ref ea,rfl,.inr ⟨ea,rfl,.inr ⟨ad,fun H' s=>g1 (.inr e) H' ((s1.new fea).trans s)⟩⟩⟩
   ·exact ⟨.non,rfl,.inl ⟨rfl,g2 g e H1 F1 k1 h1 f1⟩⟩
 rintro σ H2 ⟨kept,rfl,⟨rfl,q⟩ | ⟨ea,rfl,hc⟩⟩
 ·wtm_at "wp"
  exact q
 wtm_at "wp"
 rcases hc with ⟨ee,q⟩ | ⟨ee,q⟩
 ·refine ⟨ea,c.N,_,_,_,rfl,⟨_,ee⟩,T.e_NoNode,rfl,T.i_NoNode_NoNode,?_⟩
  wtm_at "wp"
  refine ⟨ea,c.N,_,_,_,rfl,⟨_,ee⟩,T.e_NoNode,rfl,T.i_NoNode_BadFrame,?_⟩
  wtm_at "wp"
  refine ⟨ea,c.N,_,_,_,rfl,⟨_,ee⟩,T.e_NoNode,rfl,T.i_NoNode_BadBits,?_⟩
  wtm_at "wp"
  refine ⟨small (show 3≤1000 by decide),fun p hp => ?_⟩
  have s3:Same H2 (upd H2 p (.lst [.bl true,.bl false,.bl false])):=ap hp _
  have e3:At (upd H2 p (.lst [.bl true,.bl false,.bl false])) p (.lst ([true,false,false].map V.bl)):=ad
  generalize upd H2 p (.lst [.bl true,.bl false,.bl false])=H3 at *
  have ee3:=s3.get ee
  wtm_at "wp"
  refine lQ e3 ?_
  wtm_at "wp"
  refine dR (fun c1=>absurd (by decide) c1) (fun _ => ?_)
  wtm_at "wp"
  refine ⟨ea,c.N,_,_,_,rfl,⟨_,ee3⟩,T.e_NoNode,rfl,T.i_NoNode_V,?_⟩
  wtm_at "wp"
  refine ⟨small (show 3≤1000 by decide),fun p2 hp2 => ?_⟩
  wtm_at "wp"
  refine lR (aA hp2 e3) (by decide) ?_
  refine bL (At.sqL ad) (show atI _ _=some (.str "node") from rfl) ?_
  wtm_at "wp"
  exact q _ (s3.new hp2)
 ·refine ⟨ea,c.F,_,_,_,rfl,⟨_,ee⟩,T.e_BadFrame,rfl,T.i_BadFrame_NoNode,?_⟩
  wtm_at "wp"
  refine ⟨ea,c.F,_,_,_,rfl,⟨_,ee⟩,T.e_BadFrame,rfl,T.i_BadFrame_BadFrame,?_⟩
  wtm_at "wp"
  refine ⟨ea,c.F,_,_,_,rfl,⟨_,ee⟩,T.e_BadFrame,rfl,T.i_BadFrame_BadBits,?_⟩
  wtm_at "wp"
  refine ⟨small (show 3≤1000 by decide),fun p hp => ?_⟩
  have s3:Same H2 (upd H2 p (.lst [.bl false,.bl true,.bl false])):=ap hp _
  have e3:At (upd H2 p (.lst [.bl false,.bl true,.bl false])) p (.lst ([false,true,false].map V.bl)):=ad
  generalize upd H2 p (.lst [.bl false,.bl true,.bl false])=H3 at *
  have ee3:=s3.get ee
  wtm_at "wp"
  refine lQ e3 ?_
  wtm_at "wp"
  refine dR (fun c1=>absurd (by decide) c1) (fun _ => ?_)
  wtm_at "wp"
  refine ⟨ea,c.F,_,_,_,rfl,⟨_,ee3⟩,T.e_BadFrame,rfl,T.i_BadFrame_V,?_⟩
  wtm_at "wp"
  refine ⟨small (show 3≤1000 by decide),fun p2 hp2 => ?_⟩
  wtm_at "wp"
  refine lR (aA hp2 e3) (by decide) ?_
  refine bL (At.sqL ad) (show atI _ _=some (.str "frame") from rfl) ?_
  wtm_at "wp"
  exact q _ (s3.new hp2)
abbrev ox:Stmt:=(top 64)
abbrev mO (K:PySem.W.Frag) (c:Cs):Sp:=sp1 fun u H Q _=>∃ (t r:Addr) (f:Fr),u = .ref t∧SqT K H t [.int f.1,.ref r]∧SqL K H r (f.2.map V.int)∧f.2.length≤20∧(∀ H',Same H H'→Q (.int (fl f:Nat)) H')
theorem mP:FnScope ["_law_frame_here"] ["_law_frame_here"] (ai ox):=aQ
theorem mQ (T:Txt K mg c):fI P w K mg base CX0 4 "_law_size" ["_law_frame_here"] (mO K c):=by
 refine T.d__law_size.ok mP (fun _ _ _ _ _ _ us hl=>match us,hl with | [_],_=>rfl) iA (fun f cdv A outer s H vs Q E hr h => ?_)
 obtain ⟨v0,rfl,h⟩:=h
 refine ⟨_,(af (ay (ax (aB (K:=K)) rfl T.len PySem.boot_len (aa (cj (jw T) hr aw (aa (cj (mJ T) hr aw (aa (aW (aN (K:=K)) (pv 0) ag (fun _ _=>rfl)) (aa (aW (aN (K:=K)) (pv 0) ag (fun _ _=>rfl)) ac))) ac)) ac)))),?_⟩
 try dsimp only [bv,Cx.nox,Cx.wish]
 refine ak (s2:=[some v0]) rfl ?_
 obtain ⟨t,r,f,rfl,ht,hr',hl,q⟩:=h
 have bl:=cz f.1 f.2
 wtm_at "wp"
 refine ⟨r,f.1,f.2,rfl,rfl,hr',hl,fun b3 H3 s3 fb3 eb3 => ?_⟩
 wtm_at "wp"
 refine ⟨b3,aE f.1 f.2,rfl,At.sqL eb3,dy _ _,by omega,fun w4 H4 s4 fw4 ew4 => ?_⟩
 wtm_at "wp"
 rw [List.length_map]
 exact q _ (s3.trans s4)
def SndAt (H:Hp) (v:V) (x:Snd):Prop:=∃ t ft r o,v = .ref t∧At H t (.tup [.int (x.t:Nat),.int (x.at_:Nat),.ref ft,.int (x.k:Nat)])∧At H ft (.tup [.int x.f.1,.ref r])∧At H r (.frz o (.lst (x.f.2.map V.int)))
theorem SndAt.kp {S:List Addr} {H H':Hp} {v:V} {x:Snd} (h:SndAt H v x) (k:Kp S H H'):SndAt H' v x:=let ⟨t,ft,r,o,e,a,b,c⟩:=h;⟨t,ft,r,o,e,k.tup a,k.tup b,k.frz c⟩
def PlnAt (H:Hp) (v:V) (e:Nat×Snd):Prop:=∃ t ft r o,v = .ref t∧At H t (.tup [.int (e.1:Nat),.int (e.2.at_:Nat),.ref ft])∧At H ft (.tup [.int e.2.f.1,.ref r])∧At H r (.frz o (.lst (e.2.f.2.map V.int)))
theorem PlnAt.kp {S:List Addr} {H H':Hp} {v:V} {x:Nat×Snd} (h:PlnAt H v x) (k:Kp S H H'):PlnAt H' v x:=let ⟨t,ft,r,o,e,a,b,c⟩:=h;⟨t,ft,r,o,e,k.tup a,k.tup b,k.frz c⟩
def Sds (H:Hp):List V→List Snd→Prop:=Paired (SndAt H)
theorem Sds.kp {S:List Addr} {H H':Hp} {vs:List V} {l:List Snd} (h:Sds H vs l) (k:Kp S H H'):Sds H' vs l:=Paired.mapP h fun _ _ z=>z.kp k
theorem Sds.same {H H':Hp} {vs:List V} {l:List Snd} (h:Sds H vs l) (s:Same H H'):Sds H' vs l:=h.kp (S:=[]) (Same.kp s)
def xK (x:Snd):List Int:=[x.f.1,(x.t:Nat),(x.k:Nat)]
theorem xL {x y:Snd} (h:HT.lexLt (xK y) (xK x)=false):x.f.1 < y.f.1∨(x.f.1=y.f.1∧(x.t < y.t∨(x.t=y.t∧x.k≤y.k))):=by
 unfold xK at h
 rw [HT.lexLt_cons,HT.lexLt_cons,HT.lexLt_cons,HT.lexLt_nil_nil] at h
 by_cases a:y.f.1=x.f.1
 ·rw [if_pos a] at h
  by_cases b:(y.t:Int)=(x.t:Int)
  ·rw [if_pos b] at h
   by_cases c:(y.k:Int)=(x.k:Int)
   ·omega
   ·rw [if_neg c] at h
    have:=of_decide_eq_false h
    omega
  ·rw [if_neg b] at h
   have:=of_decide_eq_false h
   omega
 ·rw [if_neg a] at h
  have:=of_decide_eq_false h
  omega
def zN (p:Addr) (sent:List Snd) (H0:Hp) (m:Nat) (σ:St) (H:Hp):Prop:=∃ (D lp:Addr) (us lvs:List V) (left:List Snd) (now:Nat) (found:List (Nat×Snd)) (v4 v5 v6:Option V),σ=[some (.ref p),some (.ref D),some (.ref lp),some (.int (now:Nat)),v4,v5,v6]∧Same H0 H∧aI H0 D∧aI H0 lp∧D≠lp∧At H D (.lst us)∧Paired (PlnAt H) us found∧At H lp (.lst lvs)∧Sds H lvs left ∧
 PlanInv sent left now found∧(∀ x∈left,x.f.2.length≤20)∧left.length≤50∧found.length+left.length≤sent.length∧(∀ x∈left,x∈sent)∧(∀ T0,(∀ x∈sent,x.t≤T0)→now≤T0+400 * found.length)∧m=2 * left.length+(if left.filter (fun y=>decide (y.t≤now))=[] then 1 else 0)
abbrev oy:Stmt:=(top 65)
abbrev mR (K:PySem.W.Frag) (c:Cs):Sp:=sp1 fun u H Q _=>∃ (p:Addr) (vs:List V) (sent:List Snd),u = .ref p∧SqL K H p vs∧Sds H vs sent∧iC sent∧sent.Pairwise (fun a b=>a.k < b.k)∧sent.length≤50∧(∀ x∈sent,x.f.2.length≤20)∧(∀ D us found now H',Same H H'→aI H D→At H' D (.lst us)→Paired (PlnAt H') us found→PlanInv sent [] now found→found.length≤sent.length→(∀ T0,(∀ x∈sent,x.t≤T0)→now≤T0+400 * found.length)→Q (.ref D) H')
theorem sc__law_plan:FnScope ["_law_sent", "_law_found", "_law_left", "_law_now", "_law_there", "_law_least", "_law_one"] ["_law_sent"] (ai oy):=aQ
theorem mS (T:Txt K mg c):fI P w K mg base CX0 5 "_law_plan" ["_law_sent"] (mR K c):=by
 refine T.d__law_plan.ok sc__law_plan (fun _ _ _ _ _ _ us hl=>match us,hl with | [_],_=>rfl) iA (fun f cdv A outer s H vs Q E hr h => ?_)
 obtain ⟨v0,rfl,h⟩:=h
 refine ⟨_,(ae (az (i:=1) sc__law_plan.nd rfl (by first | exact Or.inl rfl | exact Or.inr rfl) (bd ac))
   (ae (az (i:=2) sc__law_plan.nd rfl (by first | exact Or.inl rfl | exact Or.inr rfl) (cZ (cG (K:=K)) rfl T.list PyProof.Rows.boot_list (aa (pv 0) ac)))
   (ae (az (i:=3) sc__law_plan.nd rfl (by first | exact Or.inl rfl | exact Or.inr rfl) ag)
   (cX (ka PassesOwn.never (nv (K:=K) (pv 2) (fun _=>rfl))
    (ae (kA (i:=4) (fv:=["_law_now"]) (js:=[3]) sc__law_plan.nd rfl (by first | exact Or.inl rfl | exact Or.inr rfl) (aO (K:=K) (pv 2)) (fun fp s H=>(aq vX (aW (aN (K:=K)) (pv 1) ag (fun _ _=>rfl)) (pv 0) (au _))) (fun fp s H=>(pv 1)))
    (af (bc (qL (nv (K:=K) (pv 4) (fun _=>rfl)))
     (af (az (i:=3) sc__law_plan.nd rfl (by first | exact Or.inl rfl | exact Or.inr rfl) (ax (gF rfl) rfl T.min PyProof.Rows.boot_min (aa (ce [] [] (aO (K:=K) (pv 2)) (fun fp s H=>(aW (aN (K:=K)) (pv 0) ag (fun _ _=>rfl)))) ac))))
     (ae (az (i:=5) sc__law_plan.nd rfl (by first | exact Or.inl rfl | exact Or.inr rfl) (ax (kJ hr rfl) rfl T.min PyProof.Rows.boot_min (aa (ce [] [] (aO (K:=K) (pv 4)) (fun fp s H=>(ci (aa (aW (aN (K:=K)) (aW (aN (K:=K)) (pv 0) ag (fun _ _=>rfl)) ag (fun _ _=>rfl)) (aa (aW (aN (K:=K)) (pv 0) ag (fun _ _=>rfl)) (aa (aW (aN (K:=K)) (pv 0) ag (fun _ _=>rfl)) ac)))))) ac)))
     (ae (az (i:=6) sc__law_plan.nd rfl (by first | exact Or.inl rfl | exact Or.inr rfl) (aW (aY (K:=K)) (uk ["_law_least"] [5] (aO (K:=K) (pv 4)) (fun fp s H=>(aq b9 (aW (aN (K:=K)) (pv 1) ag (fun _ _=>rfl)) (aW (aN (K:=K)) (pv 0) ag (fun _ _=>rfl)) (au _))) (fun fp s H=>(pv 1))) ag (fun _ _=>rfl)))
     (ae (kA (i:=2) (fv:=["_law_one"]) (js:=[6]) sc__law_plan.nd rfl (by first | exact Or.inl rfl | exact Or.inr rfl) (aO (K:=K) (pv 2)) (fun fp s H=>(aq mY (aW (aN (K:=K)) (pv 1) ag (fun _ _=>rfl)) (aW (aN (K:=K)) (pv 0) ag (fun _ _=>rfl)) (au _))) (fun fp s H=>(pv 1)))
     (ae (az (i:=3) sc__law_plan.nd rfl (by first | exact Or.inl rfl | exact Or.inr rfl) (av bA (av bA (pv 3) (cj (mQ T) hr aw (aa (aW (aN (K:=K)) (pv 6) ag (fun _ _=>rfl)) ac))) ag))
     (ae (aC (bZ (K:=K) PySem.F.plainAttrs_list PySem.F.slot_list_append PySem.F.type_list_append bE (pv 1) (aa (ci (aa (pv 3) (aa (aW (aN (K:=K)) (pv 6) ag (fun _ _=>rfl)) (aa (aW (aN (K:=K)) (pv 6) ag (fun _ _=>rfl)) ac)))) ac)))
     (af (az (i:=3) sc__law_plan.nd rfl (by first | exact Or.inl rfl | exact Or.inr rfl) (av bA (pv 3) ag))))))))))))
   (af (ay (pv 1))))))),?_⟩
 try dsimp only [bv,Cx.nox,Cx.wish]
 refine ak (s2:=[some v0,none,none,none,none,none,none]) rfl ?_
 obtain ⟨p,vs,sent,rfl,hS,hv,ht,hk,hl,h20,q⟩:=h
 wtm_at "wp"
 refine ⟨small (show 0≤1000 by decide),fun D hD => ?_⟩
 wtm_at "wp"
 intro lp hlp
 have hDH:aI H D:=hD
 have sA:=(ap (o := .lst []) hD).new (o := .lst vs) hlp
 have eD:At (upd (upd H D (.lst [])) lp (.lst vs)) D (.lst []):=aA hlp ad
 have eL:At (upd (upd H D (.lst [])) lp (.lst vs)) lp (.lst vs):=ad
 have nDL:D≠lp:=aH ad hlp
 have fL:aI H lp:=(ap hD (.lst [])).fr hlp
 generalize upd (upd H D (.lst [])) lp (.lst vs)=H1 at *
 wtm_at "wp"
 refine fJ (fun σ H2=>∃ D2 us found now v2 v3 v4 v5 v6,σ=[some (.ref p),some (.ref D2),v2,v3,v4,v5,v6]∧Same H H2∧aI H D2∧At H2 D2 (.lst us)∧Paired (PlnAt H2) us found∧PlanInv sent [] now found∧found.length≤sent.length∧(∀ T0,(∀ x∈sent,x.t≤T0)→now≤T0+400 * found.length)) ?_ ?_
 ·refine ⟨zN p sent H,⟨_,D,lp,[],vs,sent,0,[],none,none,none,rfl,sA,hDH,fL,nDL,eD,.nil,eL,hv.same sA,PlanInv.start ht hk,h20,hl,by rw [List.length_nil];omega,fun _ z=>z,fun T0 _=>Nat.zero_le _,rfl⟩,?_⟩
  rintro m σ H2 ⟨D2,l2,us,lvs,left,now,found,v4,v5,v6,rfl,s2,fD2,fL2,nDL2,eD2,pf,eL2,sl,pin,h20l,hll,hfl,hsub,hnow,rfl⟩
  have llen:lvs.length=left.length:=Paired.length sl
  wtm_at "wp"
  by_cases hne:left=[]
  ·subst hne
   cases sl
   refine vv ?_
   exact ⟨D2,us,found,now,_,_,_,_,_,rfl,s2,fD2,eD2,pf,pin,hfl,hnow⟩
  ·have lne:(!lvs.isEmpty)=true:=by
    cases lvs with
    | nil=>exact absurd (List.length_eq_zero_iff.mp llen.symm) hne
    | cons _ _=>rfl
   refine rZ lne ?_
   refine ⟨fun σ' H'=>∃ m',m' < 2 * left.length+(if left.filter (fun y=>decide (y.t≤now))=[] then 1 else 0)∧zN p sent H m' σ' H',fun _ _ z=>z,?_⟩
   wtm_at "wp"
   refine bB ?_
   wtm_at "wp"
   refine gG (xs:=lvs) (fun D4 i ys H3=>Same H2 H3∧aI H2 D4∧At H3 D4 (.lst ys)∧Sds H3 ys ((left.take i).filter (fun y=>decide (y.t≤now)))∧ys.length≤i) (At.sqL eL2) (small (by omega)) (fun D4 hD4=>⟨ap hD4 _,hD4,ad,.nil,Nat.le_refl _⟩) (fun D4 i ys H3 hi ⟨s3,f4,e4,sy,hy⟩=>⟨e4,At.sqL (s3.get eL2),hy⟩) (fun D4 i x ys H3 hx ⟨s3,f4,e4,sy,hy⟩ => ?_) (fun D4 ys H3 ⟨s3,f4,e4,sy,hy⟩ => ?_)
   ·obtain ⟨y,hyl,t,ft,r,o,rfl,a1,a2,a3⟩:=cT sl hx
    have hi:i < lvs.length:=(List.getElem?_eq_some_iff.mp hx).1
    have b1:=s3.get a1
    show pI _ [some (.int (now:Nat)),some (.ref t)] _ _
    wtm_at "wp"
    refine aJ (fun c4 => ?_) (fun c4 => ?_)
    ·show jP 1 [some (.int (now:Nat)),some (.ref t)] _ _
     wtm_at "wp"
     have kD:Kp [D4] H3 (upd H3 D4 (.lst (ys++[.ref t]))):=(Kp.refl _ _).upd (by simp) e4 (fun z=>z)
     refine iB hi e4 ⟨s3.upF f4,f4,ad,?_,by rw [List.length_append,List.length_singleton];omega⟩
     rw [aL hyl,List.filter_append,List.filter_cons_of_pos (by simp;omega)]
     exact fO (sy.kp kD) (.cons (SndAt.kp (SndAt.kp ⟨t,ft,r,o,rfl,a1,a2,a3⟩ (Same.kp (S:=[D4]) s3)) kD) .nil)
    ·refine sk hi e4 ⟨s3,f4,e4,?_,by omega⟩
     rw [aL hyl,List.filter_append,List.filter_cons_of_neg (by simp;omega)]
     simpa using sy
   rw [llen,List.take_of_length_le (Nat.le_refl _)] at sy
   have sl3:=sl.same s3
   have eL3:=s3.get eL2
   have eD3:=s3.get eD2
   have pf3:Paired (PlnAt H3) us found:=Paired.mapP pf fun _ _ z=>z.kp (S:=[]) (Same.kp s3)
   have tlen:ys.length=(left.filter (fun y=>decide (y.t≤now))).length:=Paired.length sy
   have nz:aI H D4:=s2.fr f4
   wtm_at "wp"
   by_cases hth:left.filter (fun y=>decide (y.t≤now))=[]
   ·rw [hth] at sy
    cases sy
    refine rj ?_
    wtm_at "wp"
    refine bB ?_
    wtm_at "wp"
    refine c7 (xs:=lvs) (fun D5 i zs H4=>Same H3 H4∧aI H3 D5∧At H4 D5 (.lst zs)∧zs=((left.take i).map (fun x=>(x.t:Int))).map V.int∧zs.length≤i) (At.sqL eL3) (small (by omega)) (fun D5 h5=>⟨ap h5 _,h5,ad,rfl,Nat.le_refl _⟩) (fun D5 i zs H4 hi ⟨s4,f5,e5,ez,hz⟩=>⟨e5,At.sqL (s4.get eL3),hz⟩) (fun D5 i x zs H4 hx ⟨s4,f5,e5,ez,hz⟩ => ?_) (fun D5 zs H4 ⟨s4,f5,e5,ez,hz⟩ => ?_)
    ·obtain ⟨y,hyl,t,ft,r,o,rfl,a1,a2,a3⟩:=cT sl3 hx
     have hi:i < lvs.length:=(List.getElem?_eq_some_iff.mp hx).1
     have b1:=s4.get a1
     show tOp _ _ _ [some (.ref t)] _ _
     wtm_at "wp"
     refine iB hi e5 ⟨s4.upF f5,f5,ad,?_,by rw [List.length_append,List.length_singleton];omega⟩
     rw [aL hyl,List.map_append,List.map_append,← ez]
     rfl
    rw [llen,List.take_of_length_le (Nat.le_refl _)] at ez
    rw [ez] at e5
    wtm_at "wp"
    refine ⟨D5,_,rfl,e5,fun z=>hne (List.map_eq_nil_iff.mp z),fun m0 m1 m2 => ?_⟩
    obtain ⟨y0,hy0,rfl⟩:=List.mem_map.mp m1
    have late:∀ x∈left,now < x.t:=fun x hx=>by
     have:=List.filter_eq_nil_iff.mp hth x hx
     simp at this
     exact this
    have low:∀ x∈left,y0.t≤x.t:=fun x hx=>by
     have:=m2 (x.t:Int) (List.mem_map.mpr ⟨x,hx,rfl⟩)
     omega
    have l0:=late y0 hy0
    have pw:=pin.wait (y0.t - now) fun x hx=>by have:=low x hx;omega
    rw [show now+(y0.t - now)=y0.t by omega] at pw
    wtm_at "wp"
    refine ⟨2 * left.length+0,by rw [if_pos hth];omega,D2,l2,us,lvs,left,y0.t,found,_,_,_,rfl,(s2.trans s3).trans s4,fD2,fL2,nDL2,s4.get eD3,Paired.mapP pf3 fun _ _ z=>z.kp (S:=[]) (Same.kp s4),s4.get eL3,sl3.same s4,pw,h20l,hll,hfl,hsub,fun T0 h0=>by have:=h0 y0 (hsub y0 hy0);omega,?_⟩
    rw [if_neg (fun z => ?_)]
    have:=List.filter_eq_nil_iff.mp z y0 hy0
    simp at this
   ·have yne:(!ys.isEmpty)=true:=by
     cases ys with
     | nil=>exact absurd (List.length_eq_zero_iff.mp tlen.symm) hth
     | cons _ _=>rfl
    rw [yne]
    have tth:iC (left.filter (fun y=>decide (y.t≤now))):=List.Pairwise.sublist List.filter_sublist pin.fr.times
    have kth:(left.filter (fun y=>decide (y.t≤now))).Pairwise (fun a b=>a.k < b.k):=List.Pairwise.sublist List.filter_sublist pin.fr.ks
    have lth:(left.filter (fun y=>decide (y.t≤now))).length≤left.length:=List.length_filter_le _ _
    have sub:∀ x∈left.filter (fun y=>decide (y.t≤now)),x∈left:=fun x hx=>(List.mem_filter.mp hx).1
    have hpick:∀ x,bG (left.filter (fun y=>decide (y.t≤now)))=some x→PlanInv sent (out left x) (now+fl x.f+13) (found++[(now+fl x.f+10,x)]):=fun x hx=>pin.next hx
    have msr:∀ x∈left,2 * (out left x).length+1 < 2 * left.length+(if left.filter (fun y=>decide (y.t≤now))=[] then 1 else 0):=fun x hx=>by
     rw [if_neg hth]
     obtain ⟨a,b,e1,e2⟩:=cJ pin.fr.ks hx
     rw [e2]
     conv=>rhs;rw [e1]
     simp only [List.length_append,List.length_cons]
     omega
    generalize left.filter (fun y=>decide (y.t≤now))=th at *
    wtm_at "wp"
    refine bB ?_
    wtm_at "wp"
    refine c7 (xs:=ys) (fun D5 i zs H4=>∃ ts:List (Addr×List Int),Same H3 H4∧aI H3 D5∧At H4 D5 (.lst zs)∧zs=ts.map (fun t=>V.ref t.1)∧(∀ t∈ts,At H4 t.1 (.tup (t.2.map V.int)))∧ts.map (·.2)=(th.take i).map xK∧zs.length≤i) (At.sqL e4) (small (by omega)) (fun D5 h5=>⟨[],ap h5 _,h5,ad,rfl,fun t z=>(by cases z),rfl,Nat.le_refl _⟩) (fun D5 i zs H4 hi ⟨ts,s4,f5,e5,ez,hts,em,hz⟩=>⟨e5,At.sqL (s4.get e4),hz⟩) (fun D5 i x zs H4 hx ⟨ts,s4,f5,e5,ez,hts,em,hz⟩ => ?_) (fun D5 zs H4 ⟨ts,s4,f5,e5,ez,hts,em,hz⟩ => ?_)
    ·obtain ⟨y,hyl,t,ft,r,o,rfl,a1,a2,a3⟩:=cT sy hx
     have hi:i < ys.length:=(List.getElem?_eq_some_iff.mp hx).1
     have b1:=s4.get a1
     have b2:=s4.get a2
     show zX _ [some (.ref t)] _ _
     wtm_at "wp"
     refine ⟨small (show 3≤1000 by decide),fun n5 hn5 => ?_⟩
     have e6:=aA (x := .tup [.int y.f.1,.int (y.t:Nat),.int (y.k:Nat)]) hn5 e5
     have kD:Kp [D5] (upd H4 n5 (.tup [.int y.f.1,.int (y.t:Nat),.int (y.k:Nat)])) (upd (upd H4 n5 (.tup [.int y.f.1,.int (y.t:Nat),.int (y.k:Nat)])) D5 (.lst (zs++[.ref n5]))):=(Kp.refl _ _).upd (by simp) e6 (fun z=>z)
     refine iB hi e6 ⟨ts++[(n5,xK y)],(s4.new hn5).upF f5,f5,ad,by rw [ez,List.map_append];rfl,fun u hu => ?_,by rw [aL hyl,List.map_append,List.map_append,em];rfl,by rw [List.length_append,List.length_singleton];omega⟩
     rcases List.mem_append.mp hu with z | z
     ·exact kD.tup (aA hn5 (hts u z))
     ·rw [List.mem_singleton.mp z]
      exact kD.tup ad
    rw [tlen,List.take_of_length_le (Nat.le_refl _)] at em
    rw [ez] at e5
    wtm_at "wp"
    refine ⟨D5,ts,rfl,e5,fun z => ?_,hts,fun t htm hmin => ?_⟩
    ·rw [z] at em
     exact hth (List.map_eq_nil_iff.mp em.symm)
    have h1:t.2∈th.map xK:=by rw [← em];exact List.mem_map.mpr ⟨t,htm,rfl⟩
    obtain ⟨x,hxm,hxt⟩:=List.mem_map.mp h1
    have least:bG th=some x:=vh tth kth hxm fun y hy=>by
     have h2:xK y∈ts.map (·.2):=by rw [em];exact List.mem_map.mpr ⟨y,hy,rfl⟩
     obtain ⟨u,hu,eu⟩:=List.mem_map.mp h2
     have:=hmin u hu
     rw [eu,← hxt] at this
     exact xL this
    have et:=hts t htm
    rw [← hxt] at et
    have et:At H4 t.1 (.tup [.int x.f.1,.int (x.t:Nat),.int (x.k:Nat)]):=et
    have pn:=hpick x least
    have ms:=msr x (sub x hxm)
    have sl4:=sl3.same s4
    have sy4:=sy.same s4
    have e44:=s4.get e4
    have eL4:=s4.get eL3
    have eD4:=s4.get eD3
    clear hmin hts em e5 hpick msr
    wtm_at "wp"
    refine bB ?_
    wtm_at "wp"
    refine gG (xs:=ys) (fun D6 i zs H5=>Same H4 H5∧aI H4 D6∧At H5 D6 (.lst zs)∧Sds H5 zs ((th.take i).filter (fun y=>decide (y.k=x.k)))∧zs.length≤i) (At.sqL e44) (small (by omega)) (fun D6 h6=>⟨ap h6 _,h6,ad,.nil,Nat.le_refl _⟩) (fun D6 i zs H5 hi ⟨s5,f6,e6,sz,hz⟩=>⟨e6,At.sqL (s5.get e44),hz⟩) (fun D6 i w zs H5 hx ⟨s5,f6,e6,sz,hz⟩ => ?_) (fun D6 zs H5 ⟨s5,f6,e6,sz,hz⟩ => ?_)
    ·obtain ⟨y,hyl,t2,ft,r,o,rfl,a1,a2,a3⟩:=cT sy4 hx
     have hi:i < ys.length:=(List.getElem?_eq_some_iff.mp hx).1
     have b1:=s5.get a1
     have et5:=s5.get et
     show pI _ [some (.ref t.1),some (.ref t2)] _ _
     wtm_at "wp"
     refine aJ (fun c4 => ?_) (fun c4 => ?_)
     ·show jP 1 [some (.ref t.1),some (.ref t2)] _ _
      wtm_at "wp"
      have kD:Kp [D6] H5 (upd H5 D6 (.lst (zs++[.ref t2]))):=(Kp.refl _ _).upd (by simp) e6 (fun z=>z)
      refine iB hi e6 ⟨s5.upF f6,f6,ad,?_,by rw [List.length_append,List.length_singleton];omega⟩
      rw [aL hyl,List.filter_append,List.filter_cons_of_pos (by simp;omega)]
      exact fO (sz.kp kD) (.cons (SndAt.kp (SndAt.kp ⟨t2,ft,r,o,rfl,a1,a2,a3⟩ (Same.kp (S:=[D6]) s5)) kD) .nil)
     ·refine sk hi e6 ⟨s5,f6,e6,?_,by omega⟩
      rw [aL hyl,List.filter_append,List.filter_cons_of_neg (by simp;omega)]
      simpa using sz
    rw [tlen,List.take_of_length_le (Nat.le_refl _),xz kth hxm] at sz
    have eL5:=s5.get eL4
    have eD5:=s5.get eD4
    have sl5:=sl4.same s5
    have pf5:Paired (PlnAt H5) us found:=Paired.mapP pf3 fun _ _ z=>z.kp (S:=[]) (Same.kp (s4.trans s5))
    have hx20:=h20l x (sub x hxm)
    cases sz with
    | cons sx0 s0=>
     cases s0
     obtain ⟨t1,ft1,r1,o1,rfl,c1,c2,c3⟩:=sx0
     wtm_at "wp"
     refine bB ?_
     wtm_at "wp"
     refine gG (xs:=lvs) (fun D7 i zs H6=>Same H5 H6∧aI H5 D7∧At H6 D7 (.lst zs)∧Sds H6 zs ((left.take i).filter (fun y => !decide (y.k=x.k)))∧zs.length≤i) (At.sqL eL5) (small (by omega)) (fun D7 h7=>⟨ap h7 _,h7,ad,.nil,Nat.le_refl _⟩) (fun D7 i zs H6 hi ⟨s6,f7,e7,sz,hz⟩=>⟨e7,At.sqL (s6.get eL5),hz⟩) (fun D7 i w zs H6 hx ⟨s6,f7,e7,sz,hz⟩ => ?_) (fun D7 zs H6 ⟨s6,f7,e7,sz,hz⟩ => ?_)
     ·obtain ⟨y,hyl,t2,ft,r,o,rfl,a1,a2,a3⟩:=cT sl5 hx
      have hi:i < lvs.length:=(List.getElem?_eq_some_iff.mp hx).1
      have b1:=s6.get a1
      have et6:=s6.get c1
      show pI _ [some (.ref t1),some (.ref t2)] _ _
      wtm_at "wp"
      refine dR (fun c4 => ?_) (fun c4 => ?_)
      ·show jP 1 [some (.ref t1),some (.ref t2)] _ _
       wtm_at "wp"
       have kD:Kp [D7] H6 (upd H6 D7 (.lst (zs++[.ref t2]))):=(Kp.refl _ _).upd (by simp) e7 (fun z=>z)
       refine iB hi e7 ⟨s6.upF f7,f7,ad,?_,by rw [List.length_append,List.length_singleton];omega⟩
       rw [aL hyl,List.filter_append,List.filter_cons_of_pos (by simp;omega)]
       exact fO (sz.kp kD) (.cons (SndAt.kp (SndAt.kp ⟨t2,ft,r,o,rfl,a1,a2,a3⟩ (Same.kp (S:=[D7]) s6)) kD) .nil)
      ·refine sk hi e7 ⟨s6,f7,e7,?_,by omega⟩
       rw [aL hyl,List.filter_append,List.filter_cons_of_neg (by simp;omega)]
       simpa using sz
     rw [llen,List.take_of_length_le (Nat.le_refl _),zx pin.fr.ks (sub x hxm)] at sz
     have d1:=s6.get c1
     have d2:=s6.get c2
     have d3:=s6.get c3
     wtm_at "wp"
     refine ⟨ft1,r1,x.f,rfl,At.sqT d2,At.sqF d3,hx20,fun H7 s7 => ?_⟩
     have g1:=s7.get d1
     have g2:=s7.get d2
     have g3:=s7.get d3
     have eD7:=s7.get (s6.get eD5)
     have lo:(out left x).length+1=left.length:=by
      obtain ⟨a,b,e1,e2⟩:=cJ pin.fr.ks (sub x hxm)
      rw [e2]
      conv=>rhs;rw [e1]
      simp only [List.length_append,List.length_cons]
      omega
     have pl:=Paired.length pf
     wtm_at "wp"
     rw [show (now:Int)+(fl x.f:Int)+10=((now+fl x.f+10:Nat):Int) by omega]
     refine ⟨small (show 3≤1000 by decide),fun n8 hn8 => ?_⟩
     wtm_at "wp"
     have e8:=aA (x := .tup [.int ((now+fl x.f+10:Nat):Int),.int (x.at_:Nat),.ref ft1]) hn8 eD7
     refine bF e8 (bg (by omega)) ?_
     wtm_at "wp"
     rw [show ((now+fl x.f+10:Nat):Int)+3=((now+fl x.f+13:Nat):Int) by omega]
     have s5A:Same H H5:=(s2.trans s3).trans (s4.trans s5)
     have kD:Kp [D2] (upd H7 n8 (.tup [.int ((now+fl x.f+10:Nat):Int),.int (x.at_:Nat),.ref ft1])) (upd (upd H7 n8 (.tup [.int ((now+fl x.f+10:Nat):Int),.int (x.at_:Nat),.ref ft1])) D2 (.lst (us++[.ref n8]))):=(Kp.refl _ _).upd (by simp) e8 (fun z=>z)
     have k7:=(Kp.new (o := .tup [.int ((now+fl x.f+10:Nat):Int),.int (x.at_:Nat),.ref ft1]) (Kp.refl [D2] H7) hn8).trans kD
     have nD:D2≠D7:=aH eD5 f7
     refine ⟨_,?_,D2,D7,us++[.ref n8],zs,out left x,now+fl x.f+13,found++[(now+fl x.f+10,x)],_,_,_,rfl,((s5A.trans (s6.trans s7)).new hn8).upF fD2,fD2,s5A.fr f7,nD,ad,?_,aP nD.symm (aA hn8 (s7.get e7)),(sz.same s7).kp k7,pn,fun y hy=>h20l y ((ja left x).subset hy),by omega,by rw [List.length_append,List.length_singleton];omega,fun y hy=>hsub y ((ja left x).subset hy),fun T0 h0=>by have:=hnow T0 h0;have:=zz hx20;rw [List.length_append,List.length_singleton];omega,rfl⟩
     ·exact Nat.lt_of_le_of_lt (by split <;> omega) ms
     ·exact fO (Paired.mapP pf5 fun _ _ z=>(z.kp (S:=[D2]) (Same.kp (s6.trans s7))).kp k7) (.cons ⟨n8,ft1,r1,o1,rfl,kD.tup ad,k7.tup g2,k7.frz g3⟩ .nil)
 ·rintro σ H2 ⟨D2,us,found,now,v2,v3,v4,v5,v6,rfl,s2,fD2,eD2,pf,pin,hfl,hnow⟩
  wtm_at "wp"
  exact q D2 us found now H2 s2 fD2 eD2 pf pin hfl hnow
theorem xM {S:List Addr} {H0 H H':Hp} (s:Same H0 H) (k:Kp S H H') (n:∀ x∈S,aI H0 x):Same H0 H':=fun x o e=>k.ot x o (fun z=>(aD (n x z) e) rfl) (s x o e)
structure Bu (c:Cs) (H0 H:Hp) (b:Addr) (F as:List Addr) (ds:List Nd) (t:Nat):Prop where
 same:Same H0 H
 bus:BusAt c H b F as ds t
 newF:∀ x∈F,aI H0 x
section
variable {c:Cs} {H0 H H':Hp} {b:Addr} {F F' as:List Addr} {ds ds':List Nd} {t t':Nat}
theorem Bu.more (h:Bu c H0 H b F as ds t) (s:Same H H'):Bu c H0 H' b F as ds t:=⟨h.same.trans s,h.bus.same s,h.newF⟩
theorem Bu.nF (h:Bu c H0 H b F as ds t) {p:Addr} (hp:aI H p):p∉F:=fun z=>by
 obtain ⟨u,e,_⟩:=h.bus.live p z
 exact (aD hp e) rfl
theorem Bu.busTo (h:Bu c H0 H b F as ds t) (k:Kp F H H') (h':BusAt c H' b F' as ds' t') (f:∀ x∈F',x∈F∨aI H x):Bu c H0 H' b F' as ds' t'∧(∀ p u,At H p u→p∉F→At H' p u∧p∉F'):=by
 refine ⟨⟨xM h.same k h.newF,h',fun x hx => ?_⟩,fun p u e n=>⟨k.get n e,fun z => ?_⟩⟩
 ·rcases f x hx with z | z
  ·exact h.newF x z
  ·exact h.same.fr z
 ·rcases f p z with y | y
  ·exact n y
  ·exact (aD y e) rfl
theorem Bu.upd (h:Bu c H0 H b F as ds t) {p:Addr} {u v:HO} (e:At H p u) (hu:¬ Im u) (n0:aI H0 p) (n1:p∉F):Bu c H0 (L2.upd H p v) b F as ds t:=by
 have k:Kp [p] H (L2.upd H p v):=(Kp.refl _ _).upd (by simp) e hu
 exact ⟨h.same.upF n0,h.bus.kp k fun x hx=>aK fun z=>n1 (z ▸ hx),h.newF⟩
end
structure Lw (c:Cs) (H0 H:Hp) (b S N:Addr) (F as:List Addr) (ds:List Nd) (t:Nat) (vs:List V) (sent:List Snd) (kvs:List (Key×V)):Prop where
 bu:Bu c H0 H b F as ds t
 eS:At H S (.lst vs)
 nS:S∉F
 sds:Sds H vs sent
 eN:At H N (.dK kvs)
 nN:N∉F
section
variable {c:Cs} {H0 H H':Hp} {b S N:Addr} {F F' as:List Addr} {ds ds':List Nd} {t t':Nat} {vs:List V} {sent:List Snd} {kvs kvs':List (Key×V)}
theorem Lw.more (h:Lw c H0 H b S N F as ds t vs sent kvs) (s:Same H H'):Lw c H0 H' b S N F as ds t vs sent kvs:=⟨h.bu.more s,s.get h.eS,h.nS,h.sds.same s,s.get h.eN,h.nN⟩
theorem Lw.busTo (h:Lw c H0 H b S N F as ds t vs sent kvs) (k:Kp F H H') (h':BusAt c H' b F' as ds' t') (f:∀ x∈F',x∈F∨aI H x):Lw c H0 H' b S N F' as ds' t' vs sent kvs:=by
 obtain ⟨a1,a2⟩:=h.bu.busTo k h' f
 obtain ⟨s1,s2⟩:=a2 S _ h.eS h.nS
 obtain ⟨n1,n2⟩:=a2 N _ h.eN h.nN
 exact ⟨a1,s1,s2,h.sds.kp k,n1,n2⟩
theorem Lw.put (h:Lw c H0 H b S N F as ds t vs sent kvs) (fN:aI H0 N):Lw c H0 (L2.upd H N (.dK kvs')) b S N F as ds t vs sent kvs':=by
 have k:Kp [N] H (L2.upd H N (.dK kvs')):=(Kp.refl _ _).upd (by simp) h.eN (fun z=>z)
 have nSN:S≠N:=h.eS.ne h.eN (by intro z;cases z)
 exact ⟨h.bu.upd h.eN (fun z=>z) fN h.nN,aP nSN h.eS,h.nS,h.sds.kp k,ad,h.nN⟩
theorem Lw.add (h:Lw c H0 H b S N F as ds t vs sent kvs) (fS:aI H0 S) {v:V} {x:Snd} (e:SndAt H v x):Lw c H0 (L2.upd H S (.lst (vs++[v]))) b S N F as ds t (vs++[v]) (sent++[x]) kvs:=by
 have k:Kp [S] H (L2.upd H S (.lst (vs++[v]))):=(Kp.refl _ _).upd (by simp) h.eS (fun z=>z)
 have nSN:S≠N:=h.eS.ne h.eN (by intro z;cases z)
 exact ⟨h.bu.upd h.eS (fun z=>z) fS h.nS,ad,h.nS,fO (h.sds.kp k) (.cons (e.kp k) .nil),aP nSN.symm h.eN,h.nN⟩
end
structure Nm (sent:List Snd) (kvs:List (Key×V)) (m i:Nat) (name:Int) (q:Nat):Prop where
 nm:∀ x∈sent,dU kvs (.inl x.f.1)=some (.int (x.at_:Nat))
 wh:∀ (j:Int) w,dU kvs (.inl j)=some w→∃ p:Nat,w = .int (p:Nat)∧p < m
 kl:kvs.length≤i+1
 here:dU kvs (.inl name)=some (.int (q:Nat))
 lt:q < m
theorem Nm.one {sent:List Snd} {kvs:List (Key×V)} {m i q:Nat} {name:Int} (n:Nm sent kvs m i name q):∀ y∈sent,y.f.1=name→y.at_=q:=fun y hy e=>by
 have h:=n.nm y hy
 rw [e,n.here] at h
 have h:=V.int.inj (Option.some.inj h)
 omega
structure Pu (ds:List Nd) (sent:List Snd) (kvs:List (Key×V)) (m t i:Nat):Prop where
 bt:BusAtT ds sent t
 dl:ds.length=m
 tm:iC sent
 ks:sent.Pairwise fun a b=>a.k < b.k
 kb:∀ x∈sent,x.k < i
 row:∀ x∈sent,x.f.2.length≤20
 nm:∀ x∈sent,dU kvs (.inl x.f.1)=some (.int (x.at_:Nat))
 wh:∀ (j:Int) w,dU kvs (.inl j)=some w→∃ p:Nat,w = .int (p:Nat)∧p < m
 kl:kvs.length≤i
 sl:sent.length=i
 tl:t≤150 * i
theorem Pu.start (m:Nat):Pu (List.replicate m Nd.new) [] [] m 0 0:=
 ⟨BusAtT.new m,List.length_replicate,List.Pairwise.nil,List.Pairwise.nil,fun x hx=>(by cases hx),fun x hx=>(by cases hx),fun x hx=>(by cases hx),fun j w e=>(by rw [uT] at e;cases e),Nat.le_refl _,rfl,Nat.le_refl _⟩
section
variable {ds:List Nd} {sent:List Snd} {kvs kvs':List (Key×V)} {m t i q:Nat} {name:Int}
theorem Pu.old (h:Pu ds sent kvs m t i) {w:V} (e:dU kvs (.inl name)=some w):∃ q:Nat,w = .int (q:Nat)∧Nm sent kvs m i name q:=by
 obtain ⟨q,rfl,hq⟩:=h.wh name w e
 exact ⟨q,rfl,h.nm,h.wh,Nat.le_succ_of_le h.kl,e,hq⟩
theorem Pu.fresh (h:Pu ds sent kvs m t i) (e:dU kvs (.inl name)=none) (hq:q < m):Nm sent (pY kvs (.inl name) (.int (q:Nat))) m i name q:=by
 refine ⟨fun x hx => ?_,fun j w hw => ?_,?_,?_,hq⟩
 ·rw [kI]
  by_cases c:x.f.1=name
  ·have:=h.nm x hx
   rw [c,e] at this
   cases this
  ·rw [if_neg (fun z=>c (Sum.inl.inj z))]
   exact h.nm x hx
 ·rw [kI] at hw
  split at hw
  ·cases hw
   exact ⟨q,rfl,hq⟩
  ·exact h.wh j w hw
 ·have:=i3 kvs (.inl name) (V.int (q:Nat))
  have:=h.kl
  omega
 ·rw [kI,if_pos rfl]
theorem Pu.else_no (h:Pu ds sent kvs m t i) (n:Nm sent kvs' m i name q):bP ds q name=false:=by
 unfold bP
 rw [List.any_eq_false]
 intro d hd hn
 have hn:=of_decide_eq_true hn
 have:∃ j,j≠q∧ds[j]? = some d:=by
  rcases List.mem_append.mp hd with z | z
  ·obtain ⟨j,e⟩:=List.mem_iff_getElem?.mp z
   rw [List.getElem?_take] at e
   split at e
   ·exact ⟨j,by omega,e⟩
   ·cases e
  ·obtain ⟨j,e⟩:=List.mem_iff_getElem?.mp z
   rw [List.getElem?_drop] at e
   exact ⟨q+1+j,by omega,e⟩
 obtain ⟨j,hj,e⟩:=this
 rw [h.bt.bm.qu j d e] at hn
 obtain ⟨g,hg,eg⟩:=List.mem_map.mp hn
 obtain ⟨x,hx,e1,e2⟩:=(kO _).mp hg
 have:=n.one x (tz hx) (by rw [e2];exact eg)
 omega
theorem Pu.send (h:Pu ds sent kvs m t i) (n:Nm sent kvs' m i name q) {row:List Int} (g:cQ name row) (hr:row.length≤20) {d:Nd} (ed:ds[q]? = some d):Pu (ds.set q (d.letWait (name,row))) (sent++[⟨t,q,(name,row),i⟩]) kvs' m t (i+1):=by
 have tl:=h.tl
 refine ⟨BusAtT.send (x:=⟨t,q,(name,row),i⟩) h.bt ed g n.one h.kb (fun y hy=>tz hy),by rw [List.length_set];exact h.dl,?_,?_,fun x hx => ?_,fun x hx => ?_,fun x hx => ?_,n.wh,n.kl,by rw [List.length_append,h.sl];rfl,by omega⟩
 ·exact List.pairwise_append.mpr ⟨h.tm,List.pairwise_singleton _ _,fun x hx y hy=>by rw [List.mem_singleton.mp hy];exact h.bt.past x hx⟩
 ·exact List.pairwise_append.mpr ⟨h.ks,List.pairwise_singleton _ _,fun x hx y hy=>by rw [List.mem_singleton.mp hy];exact h.kb x hx⟩
 ·rcases List.mem_append.mp hx with z | z
  ·exact Nat.lt_succ_of_lt (h.kb x z)
  ·rw [List.mem_singleton.mp z];exact Nat.lt_succ_self _
 ·rcases List.mem_append.mp hx with z | z
  ·exact h.row x z
  ·rw [List.mem_singleton.mp z];exact hr
 ·rcases List.mem_append.mp hx with z | z
  ·exact n.nm x z
  ·rw [List.mem_singleton.mp z];exact n.here
theorem Pu.run (h:Pu ds sent kvs m t i) (y:Nat) (hy:t+y≤150 * i) (h2:2≤m):Pu (cm ds (List.replicate y 0)) sent kvs m (t+y) i:=
 ⟨BusAtT.run y h.bt (by rw [h.dl];exact h2),by rw [j6];exact h.dl,h.tm,h.ks,h.kb,h.row,h.nm,h.wh,h.kl,h.sl,hy⟩
end
theorem By (z x:Int) (h0:0≤x) (h1:x≤149):∃ y:Nat,atI [V.int 0,V.int 0,V.int 1,V.int 40,V.int 100,V.int x] (z % 6)=some (V.int (y:Nat))∧y≤149:=by
 have:z % 6=0∨z % 6=1∨z % 6=2∨z % 6=3∨z % 6=4∨z % 6=5:=by omega
 rcases this with e | e | e | e | e | e <;> rw [e]
 ·exact ⟨0,rfl,by decide⟩
 ·exact ⟨0,rfl,by decide⟩
 ·exact ⟨1,rfl,by decide⟩
 ·exact ⟨40,rfl,by decide⟩
 ·exact ⟨100,rfl,by decide⟩
 ·exact ⟨x.toNat,by rw [Int.toNat_of_nonneg h0];rfl,by omega⟩
theorem Ce (n:Nat):(List.replicate n [V.int 0]).flatten=(List.replicate n (0:Int)).map V.int:=by
 induction n with
 | zero=>rfl
 | succ n ih=>rw [List.replicate_succ,List.replicate_succ,List.flatten_cons,List.map_cons,ih];rfl
theorem zO {K:PySem.W.Frag} {H0 H:Hp} {v:V} {f:Fr}:Cp H0 H v f→TFr K H v f:=fun ⟨t,r,e,a,b,_⟩=>⟨t,r,e,At.sqT a,At.sqL b⟩
theorem zP {K:PySem.W.Frag} {H:Hp} {v:V} {f:Fr}:FrAt H v f→TFr K H v f:=fun ⟨t,r,_,e,a,b⟩=>⟨t,r,e,At.sqT a,At.sqF b⟩
theorem tT {K:PySem.W.Frag} {H0 H:Hp} {a b:Addr} {us vs:List V} {fs:List Fr} {Q:VK} (ea:At H a (.lst us)) (pa:Paired (Cp H0 H) us fs) (eb:At H b (.lst vs)) (pb:Frs H vs fs) (h:Q (.bl false) H):Ab K (.ref a) (.ref b) H Q:=by
 refine uX (fs:=fs) (At.sqL ea) (At.sqL eb) (Paired.length pa) pb.len (fun j x f ex ef => ?_) (fun j x f ex ef => ?_) h
 ·obtain ⟨y,ey,hy⟩:=cT pa ex
  rw [ef] at ey
  cases ey
  exact zO hy
 ·obtain ⟨y,ey,hy⟩:=cT pb ex
  rw [ef] at ey
  cases ey
  exact zP hy
structure Pl (c:Cs) (H0 H:Hp) (b P W:Addr) (F as:List Addr) (ds:List Nd) (T:Nat) (us:List V) (found:List (Nat×Snd)) (ws:List Int):Prop where
 bu:Bu c H0 H b F as ds T
 eP:At H P (.lst us)
 nP:P∉F
 pl:Paired (PlnAt H) us found
 eW:At H W (.lst (ws.map V.int))
 nW:W∉F
section
variable {c:Cs} {H0 H H':Hp} {b P W:Addr} {F F' as:List Addr} {ds ds':List Nd} {t t':Nat} {us:List V} {found:List (Nat×Snd)} {ws:List Int}
theorem jx {S:List Addr} (h:Paired (PlnAt H) us found) (k:Kp S H H'):Paired (PlnAt H') us found:=Paired.mapP h fun _ _ z=>z.kp k
theorem Pl.more (h:Pl c H0 H b P W F as ds t us found ws) (s:Same H H'):Pl c H0 H' b P W F as ds t us found ws:=⟨h.bu.more s,s.get h.eP,h.nP,jx (S:=[]) h.pl (Same.kp s),s.get h.eW,h.nW⟩
theorem Pl.busTo (h:Pl c H0 H b P W F as ds t us found ws) (k:Kp F H H') (h':BusAt c H' b F' as ds' t') (f:∀ x∈F',x∈F∨aI H x):Pl c H0 H' b P W F' as ds' t' us found ws:=by
 obtain ⟨a1,a2⟩:=h.bu.busTo k h' f
 obtain ⟨s1,s2⟩:=a2 P _ h.eP h.nP
 obtain ⟨n1,n2⟩:=a2 W _ h.eW h.nW
 exact ⟨a1,s1,s2,jx h.pl k,n1,n2⟩
end
abbrev zQ:Stmt:=(top 66)
abbrev tU (K:PySem.W.Frag) (c:Cs):Sp:=sp1 fun v H Q _=>∃ (a:Addr) (ns:List Int),v = .ref a∧SqL K H a (ns.map V.int)∧∀ H',Q (.bl true) H'
theorem sc_law:FnScope ["_law_script", "_law_many", "_law_bus", "_law_sent", "_law_names", "_law_now", "_law_k", "_law_frame_here", "_law_at", "_law_ticks", "_law_plan_here", "_law_when", "_law_due"] ["_law_script"] (ai zQ):=aQ
theorem zR {f:Addr} {fd:FuncData} (T:Txt K mg c) (F:Fun K "law" "law" zQ f fd):FnOk P w K mg base CX0 12 f fd ["_law_script"] (tU K c):=by
 refine F.ok sc_law iA (fun cdv A outer s H vs Q E hr h => ?_)
 obtain ⟨v0,rfl,h⟩:=h
 refine' ⟨_,(ae (az (i:=1) sc_law.nd rfl (by first | exact Or.inl rfl | exact Or.inr rfl) (av bA ag (av bQ (cj (bK T) hr aw (aa (pv 0) (aa ag ac))) ag)))
   (ae (az (i:=2) sc_law.nd rfl (by first | exact Or.inl rfl | exact Or.inr rfl) (A9 (ju T) hr T.m_Bus aw (aa (pv 1) ac)))
   (ae (az (i:=3) sc_law.nd rfl (by first | exact Or.inl rfl | exact Or.inr rfl) (bd ac))
   (ae (az (i:=4) sc_law.nd rfl (by first | exact Or.inl rfl | exact Or.inr rfl) uV)
   (ae (az (i:=5) sc_law.nd rfl (by first | exact Or.inl rfl | exact Or.inr rfl) ag)
   (ae (cg PassesOwn.never rfl (bN rfl T.range (aa (av bQ (cj (bK T) hr aw (aa (pv 0) (aa ag ac))) ag) ac)) (bD (i:=6) sc_law.nd rfl (by first | exact Or.inl rfl | exact Or.inr rfl))
    (ae (az (i:=7) sc_law.nd rfl (by first | exact Or.inl rfl | exact Or.inr rfl) (cj (lc T) hr aw (aa (pv 0) (aa (av bA ag (av gu ag (pv 6))) (aa ag ac)))))
    (xp (ae (az (i:=8) sc_law.nd rfl (by first | exact Or.inl rfl | exact Or.inr rfl) (av bQ (av dO (cj (bK T) hr aw (aa (pv 0) (aa (av bA ag (av gu ag (pv 6))) ac))) ag) (pv 1)))
    (cX (az (i:=8) sc_law.nd rfl (by first | exact Or.inl rfl | exact Or.inr rfl) (bZ (K:=K) PySem.F.plainAttrs_dict PySem.F.slot_dict_setdefault PySem.F.type_dict_setdefault sD (pv 4) (aa (aW (aN (K:=K)) (pv 7) ag (fun _ _=>rfl)) (aa (pv 8) ac))))
    (ae (bc (aq mY (cj (mM T) hr aw (aa (pv 2) (aa (pv 8) (aa (aW (aN (K:=K)) (pv 7) ag (fun _ _=>rfl)) (aa (cZ (cG (K:=K)) rfl T.list PyProof.Rows.boot_list (aa (aW (aN (K:=K)) (pv 7) ag (fun _ _=>rfl)) ac)) ac))))) jQ (au _))
     (af (ay qK))
     aG)
    (ae (aC (bZ (K:=K) PySem.F.plainAttrs_list PySem.F.slot_list_append PySem.F.type_list_append bE (pv 3) (aa (ci (aa (pv 5) (aa (pv 8) (aa (pv 7) (aa (pv 6) ac))))) ac)))
    ?dsp)))))))
   (ae (az (i:=10) sc_law.nd rfl (by first | exact Or.inl rfl | exact Or.inr rfl) (cj (mS T) hr aw (aa (pv 3) ac)))
   (ae (cg PassesOwn.never rfl (aO (K:=K) (ax (lS (K:=K)) rfl T.sorted PyProof.Rows.boot_sorted (aa (av c6 (av c6 (bd (aa (pv 5) ac)) (ce [] [] (aO (K:=K) (pv 10)) (fun fp s H=>(av dH (aW (aN (K:=K)) (pv 0) ag (fun _ _=>rfl)) ag)))) (ce [] [] (aO (K:=K) (pv 10)) (fun fp s H=>(aW (aN (K:=K)) (pv 0) ag (fun _ _=>rfl))))) ac))) (bD (i:=11) sc_law.nd rfl (by first | exact Or.inl rfl | exact Or.inr rfl))
    (cX (bc (aq t7 (pv 11) (g4 T.k_Bus (dF T) hr aw (pv 2)) (au _))
     (af (aC (cj (vO T) hr aw (aa (pv 2) (aa (av lC (bd (aa ag ac)) (av dH (pv 11) (g4 T.k_Bus (dF T) hr aw (pv 2)))) ac)))))
     aG)
    (af (cg PassesOwn.never rfl (bN rfl T.range (aa (pv 1) ac)) (bD (i:=8) sc_law.nd rfl (by first | exact Or.inl rfl | exact Or.inr rfl))
     (ae (kA (i:=12) (fv:=["_law_bus", "_law_at"]) (js:=[2,8]) sc_law.nd rfl (by first | exact Or.inl rfl | exact Or.inr rfl) (aO (K:=K) (pv 10)) (fun fp s H=>(PW.pt (fH (aq vX (aW (aN (K:=K)) (pv 2) ag (fun _ _=>rfl)) (g4 T.k_Bus (dF T) hr aw (pv 0)) (au _)) (dN (aq mY (aW (aN (K:=K)) (pv 2) ag (fun _ _=>rfl)) (pv 1) (au _)))))) (fun fp s H=>(aW (aN (K:=K)) (pv 2) ag (fun _ _=>rfl))))
     (af (bc (PW.pt (mX (aq (xb (K:=K) hr) (gq T.k_Bus (mx T) hr aw (pv 2) (aa (pv 8) ac)) (pv 12) (au _)) (iP (aq mY (gq T.k_Bus (kX T) hr aw (pv 2) (aa (pv 8) ac)) ag (au _)))))
      (af (ay qK))
      aG)))))))
   (af (ay (oA (cb t7 (g4 T.k_Bus (dF T) hr aw (pv 2)) (pv 5) (au _)) (oz (ax (nc rfl) rfl T.all PyProof.Rows.boot_all (aa (ce ["_law_bus"] [2] (bN rfl T.range (aa (pv 1) ac)) (fun fp s H=>(cb (rS (K:=K) hr) (gq T.k_Bus (mB T) hr aw (pv 0) (aa (pv 1) ac)) (bd ac) (au _)))) ac)))))))))))))),?go⟩
 case dsp=>
  refine' ae ?h1 ?h2
  case h1=>
   refine' az (i:=9) ?hN ?hi ?hx ?he (hs := ?hs) (hf := ?hf)
   case he=>
    refine' aW (aY (K:=K)) ?ha ?hb ?hc
    case ha=>
     refine' bd ?l0
     case l0=>
      refine' aa ?a1 ?b1 (hs := ?c1)
      case a1=>exact ag
      case b1=>
       refine' aa ?a2 ?b2 (hs := ?c2)
       case a2=>exact ag
       case b2=>
        refine' aa ?a3 ?b3 (hs := ?c3)
        case a3=>exact ag
        case b3=>
         refine' aa ?a4 ?b4 (hs := ?c4)
         case a4=>exact ag
         case b4=>
          refine' aa ?a5 ?b5 (hs := ?c5)
          case a5=>exact ag
          case b5=>exact (aa (av bQ (av dO (cj (bK T) hr aw (aa (pv 0) (aa (av bA ag (av gu ag (pv 6))) ac))) ag) ag) ac)
          case c5=>rfl
         case c4=>rfl
        case c3=>rfl
       case c2=>rfl
      case c1=>rfl
    case hb=>exact (av bQ (cj (bK T) hr aw (aa (pv 0) (aa (av bA ag (av gu ag (pv 6))) ac))) ag)
    case hc=>exact fun _ _=>rfl
   case hN=>exact sc_law.nd
   case hi=>rfl
   case hx=>first | exact Or.inl rfl | exact Or.inr rfl
   case hs=>rfl
   case hf=>first | exact Or.inl rfl | exact Or.inr rfl
  case h2=>exact (ae (aC (cj (vO T) hr aw (aa (pv 2) (aa (av lC (bd (aa ag ac)) (pv 9)) ac)))) (af (az (i:=5) sc_law.nd rfl (by first | exact Or.inl rfl | exact Or.inr rfl) (av bA (pv 5) (pv 9)))))
 try dsimp only [bv,Cx.nox,Cx.wish]
 refine ak (s2:=[some v0,none,none,none,none,none,none,none,none,none,none,none,none]) rfl ?_
 obtain ⟨a,ns,rfl,hS,q⟩:=h
 wtm_at "wp"
 refine ⟨a,ns,0,rfl,rfl,hS,fun z0 y0 y1 => ?_⟩
 obtain ⟨m,hm⟩:∃ m:Nat,2+z0 % 4=(m:Int):=⟨(2+z0 % 4).toNat,by omega⟩
 have m1:2≤m:=by omega
 have m3:m≤5:=by omega
 wtm_at "wp"
 rw [hm]
 wtm_at "wp"
 intro b dx hb hdx ndx
 refine ⟨_,_,rfl,b,dx,m,rfl,rfl,ad,by omega,by omega,fun H1 F as k1 f1 la h1=>⟨rfl,?_⟩⟩
 have U1:Bu c H H1 b F as (List.replicate m Nd.new) 0:=⟨Chg.made hb hdx k1,h1,fun x hx=>by
  rcases f1 x hx with rfl | z
  ·exact hb
  ·exact vD z⟩
 clear k1 f1 h1
 have hne:as≠[]:=fun z=>by rw [z] at la;have la:0=m:=la;omega
 wtm_at "wp"
 refine ⟨small (show 0≤1000 by decide),fun S hS1 => ?_⟩
 wtm_at "wp"
 intro N hN
 have fS:aI H S:=U1.same.fr hS1
 have fN:aI H N:=(U1.same.new (o := .lst []) hS1).fr hN
 have L:Lw c H (upd (upd H1 S (.lst [])) N (.dK [])) b S N F as (List.replicate m Nd.new) 0 [] [] []:=⟨(U1.more (ap hS1 (.lst []))).more (ap hN _),aA hN ad,U1.nF hS1,.nil,ad,(U1.more (ap hS1 (.lst []))).nF hN⟩
 generalize upd (upd H1 S (.lst [])) N (.dK [])=H2 at *
 wtm_at "wp"
 refine g5 ?_
 wtm_at "wp"
 refine ⟨a,ns,1,rfl,rfl,L.bu.same.seq hS,fun z1 x0 x1 => ?_⟩
 wtm_at "wp"
 refine eK (z1 % 7).toNat (fun i σ H4=>∃ (F:List Addr) (ds:List Nd) (t:Nat) (vs:List V) (sent:List Snd) (kvs:List (Key×V)) (v6 v7 v8 v9:Option V),σ=[some (.ref a),some (.int (m:Int)),some (.ref b),some (.ref S),some (.ref N),some (.int (t:Nat)),v6,v7,v8,v9,none,none,none]∧Lw c H H4 b S N F as ds t vs sent kvs∧Pu ds sent kvs m t i) rfl (by omega) ⟨F,_,0,[],[],[],none,none,none,none,rfl,L,Pu.start m⟩ ?_ ?_
 rotate_left
 ·rintro σ H4 ⟨F4,ds,t,vs,sent,kvs,v6,v7,v8,v9,rfl,L4,P4⟩
  have hn6:(z1 % 7).toNat≤6:=by omega
  have sl:=P4.sl
  have tl:=P4.tl
  have vl:vs.length=sent.length:=Paired.length L4.sds
  clear L U1
  wtm_at "wp"
  refine ⟨S,vs,sent,rfl,At.sqL L4.eS,L4.sds,P4.tm,P4.ks,by omega,P4.row,fun P us found now H5 s5 fP eP pP pin hfl hnow => ?_⟩
  have now1:=hnow t P4.bt.past
  have hfb:∀ e∈found,e.1≤4000:=fun e he=>by have:=pin.past e he;omega
  have U5:=L4.bu.more s5
  have nP:=L4.bu.nF fP
  have ul:=Paired.length pP
  have bt:=P4.bt
  have dl:=P4.dl
  have tm:=P4.tm
  clear L4 P4 hnow
  wtm_at "wp"
  refine cW ?_
  wtm_at "wp"
  refine ⟨small (show 1≤1000 by decide),fun p1 hp1 => ?_⟩
  have s6:=ap (o := .lst [.int (t:Nat)]) hp1
  have e16:At (upd H5 p1 (.lst [.int (t:Nat)])) p1 (.lst [.int (t:Nat)]):=ad
  generalize upd H5 p1 (.lst [.int (t:Nat)])=H6 at *
  have eP6:=s6.get eP
  have pP6:=jx (S:=[]) pP (Same.kp s6)
  wtm_at "wp"
  refine bB ?_
  wtm_at "wp"
  refine c7 (xs:=us) (fun D i ys H7=>Same H6 H7∧aI H6 D∧At H7 D (.lst ys)∧ys=((found.take i).map (fun e=>(e.1:Int) - 1)).map V.int∧ys.length≤i) (At.sqL eP6) (small (by omega)) (fun D hD=>⟨ap hD _,hD,ad,rfl,Nat.le_refl _⟩) (fun D i ys H7 hi ⟨s7,f7,e7,ey,hy⟩=>⟨e7,At.sqL (s7.get eP6),hy⟩) (fun D i x ys H7 hx ⟨s7,f7,e7,ey,hy⟩ => ?_) (fun D ys H7 ⟨s7,f7,e7,ey,hy⟩ => ?_)
  ·obtain ⟨e,he,t2,ft,r,o,rfl,a1,a2,a3⟩:=cT pP6 hx
   have hi:i < us.length:=(List.getElem?_eq_some_iff.mp hx).1
   have b1:=s7.get a1
   show tOp _ _ _ [some (.ref t2)] _ _
   wtm_at "wp"
   refine iB hi e7 ⟨s7.upF f7,f7,ad,?_,by rw [List.length_append,List.length_singleton];omega⟩
   rw [aL he,List.map_append,List.map_append,← ey]
   rfl
  rw [ul,List.take_of_length_le (Nat.le_refl _)] at ey
  wtm_at "wp"
  have yl:ys.length=found.length:=by rw [ey,List.length_map,List.length_map]
  refine dJ (s7.get e16) e7 (by rw [List.length_singleton];exact small (by omega)) (fun p2 hp2 => ?_)
  have s8:=(s6.trans s7).new (o := .lst ([.int (t:Nat)]++ys)) hp2
  have e28:At (upd H7 p2 (.lst ([.int (t:Nat)]++ys))) p2 (.lst ([.int (t:Nat)]++ys)):=ad
  generalize upd H7 p2 (.lst ([.int (t:Nat)]++ys))=H8 at *
  have eP8:=s8.get eP
  have pP8:=jx (S:=[]) pP (Same.kp s8)
  wtm_at "wp"
  refine bB ?_
  wtm_at "wp"
  refine c7 (xs:=us) (fun D i zs H9=>Same H8 H9∧aI H8 D∧At H9 D (.lst zs)∧zs=((found.take i).map (fun e=>(e.1:Int))).map V.int∧zs.length≤i) (At.sqL eP8) (small (by omega)) (fun D hD=>⟨ap hD _,hD,ad,rfl,Nat.le_refl _⟩) (fun D i zs H9 hi ⟨s9,f9,e9,ez,hz⟩=>⟨e9,At.sqL (s9.get eP8),hz⟩) (fun D i x zs H9 hx ⟨s9,f9,e9,ez,hz⟩ => ?_) (fun D2 zs H9 ⟨s9,f9,e9,ez,hz⟩ => ?_)
  ·obtain ⟨e,he,t2,ft,r,o,rfl,a1,a2,a3⟩:=cT pP8 hx
   have hi:i < us.length:=(List.getElem?_eq_some_iff.mp hx).1
   have b1:=s9.get a1
   show tOp _ _ _ [some (.ref t2)] _ _
   wtm_at "wp"
   refine iB hi e9 ⟨s9.upF f9,f9,ad,?_,by rw [List.length_append,List.length_singleton];omega⟩
   rw [aL he,List.map_append,List.map_append,← ez]
   rfl
  rw [ul,List.take_of_length_le (Nat.le_refl _)] at ez
  have zl:zs.length=found.length:=by rw [ez,List.length_map,List.length_map]
  wtm_at "wp"
  refine dJ (s9.get e28) e9 (by rw [List.length_append,List.length_singleton];exact small (by omega)) (fun p3 hp3 => ?_)
  have el:[V.int (t:Nat)]++ys++zs=([(t:Int)]++found.map (fun e=>(e.1:Int) - 1)++found.map (fun e=>(e.1:Int))).map V.int:=by rw [ey,ez,List.map_append,List.map_append];rfl
  rw [el]
  have sA:=(s8.trans s9).new (o := .lst (([(t:Int)]++found.map (fun e=>(e.1:Int) - 1)++found.map (fun e=>(e.1:Int))).map V.int)) hp3
  have e3A:At (upd H9 p3 (.lst (([(t:Int)]++found.map (fun e=>(e.1:Int) - 1)++found.map (fun e=>(e.1:Int))).map V.int))) p3 _:=ad
  generalize upd H9 p3 (.lst (([(t:Int)]++found.map (fun e=>(e.1:Int) - 1)++found.map (fun e=>(e.1:Int))).map V.int))=HA at *
  clear e28 e9 e7 e16 el eP8 eP6 pP8 pP6
  wtm_at "wp"
  refine ⟨p3,_,rfl,At.sqL e3A,by simp only [List.length_append,List.length_map,List.length_singleton];omega,fun W ms fW hperm _ => ?_⟩
  have inA:∀ w:Int,w∈ms↔w∈[(t:Int)]++found.map (fun e=>(e.1:Int) - 1)++found.map (fun e=>(e.1:Int)):=fun w=>hperm.mem_iff
  have hms:∀ w∈ms,w≤4000:=fun w hw=>by
   rcases List.mem_append.mp ((inA w).mp hw) with z | z
   ·rcases List.mem_append.mp z with z | z
    ·rw [List.mem_singleton.mp z];omega
    ·obtain ⟨e,he,rfl⟩:=List.mem_map.mp z
     have:=hfb e he
     omega
   ·obtain ⟨e,he,rfl⟩:=List.mem_map.mp z
    have:=hfb e he
    omega
  have ht:(t:Int)∈ms:=(inA _).mpr (by simp)
  have hfm:∀ e∈found,(e.1:Int)∈ms:=fun e he=>(inA _).mpr (List.mem_append.mpr (.inr (List.mem_map.mpr ⟨e,he,rfl⟩)))
  have UA:=U5.more sA
  have sW:=sA.new (o := .lst (ms.map V.int)) fW
  have L0:Pl c H (upd HA W (.lst (ms.map V.int))) b P W F4 as ds t us found ms:=⟨U5.more sW,sW.get eP,nP,jx (S:=[]) pP (Same.kp sW),ad,UA.nF fW⟩
  generalize upd HA W (.lst (ms.map V.int))=HB at *
  clear inA hperm e3A sA sW UA U5 pP eP s8 s9 s6 s7
  refine bU (xs:=ms.map V.int) (fun j σ HC=>∃ (F:List Addr) (ds:List Nd) (T:Nat) (v8 v11 v12:Option V),σ=[some (.ref a),some (.int (m:Int)),some (.ref b),some (.ref S),some (.ref N),some (.int (t:Nat)),v6,v7,v8,v9,some (.ref P),v11,v12]∧Pl c H HC b P W F as ds T us found ms∧BusAtT ds sent T∧ds.length=m∧T≤4000∧∀ w∈ms.take j,w≤(T:Int)) (At.sqL L0.eW) ⟨F4,ds,t,v8,none,none,rfl,L0,bt,dl,by omega,fun w hw=>(by cases hw)⟩ (fun j σ HC _ ⟨_,_,_,_,_,_,_,L,_⟩=>At.sqL L.eW) ?_ ?_
  ·rintro j x σ HC hx ⟨FC,ds,T,v8,v11,v12,rfl,LC,bt,dl,hT,hj⟩
   obtain ⟨wn,hwn,rfl⟩:=cC hx
   have hw4:=hms wn (List.mem_of_getElem? hwn)
   clear L0
   obtain ⟨_,_,_,_,e1,_⟩:=id LC.bu.bus.ex
   wtm_at "wp"
   refine fJ (fun σ HD=>∃ (F:List Addr) (ds:List Nd) (T:Nat),σ=[some (.ref a),some (.int (m:Int)),some (.ref b),some (.ref S),some (.ref N),some (.int (t:Nat)),v6,v7,v8,v9,some (.ref P),some (.int wn),v12]∧Pl c H HD b P W F as ds T us found ms∧BusAtT ds sent T∧ds.length=m∧T≤4000∧∀ w∈ms.take (j+1),w≤(T:Int)) ?_ ?_
   ·wtm_at "wp"
    refine ⟨b,FC,as,ds,T,rfl,LC.bu.bus,?_⟩
    wtm_at "wp"
    refine aJ (fun c1 => ?_) (fun c1 => ?_)
    ·wtm_at "wp"
     refine ⟨small (show 1≤1000 by decide),fun p4 hp4 => ?_⟩
     have LD:=LC.more (ap hp4 (.lst [.int 0]))
     have e04:At (upd HC p4 (.lst [.int 0])) p4 (.lst [.int 0]):=ad
     generalize upd HC p4 (.lst [.int 0])=HD at *
     clear e1
     obtain ⟨_,_,_,_,e1,_⟩:=id LD.bu.bus.ex
     wtm_at "wp"
     refine ⟨b,FC,as,ds,T,rfl,LD.bu.bus,?_⟩
     wtm_at "wp"
     refine lL e04 (by omega) (by omega) (Nat.le_of_lt (eY (by rw [List.length_singleton];omega))) (fun f hf => ?_)
     obtain ⟨k,hk⟩:∃ k:Nat,wn - (T:Int)=(k:Int):=⟨(wn - T).toNat,by omega⟩
     rw [Ce,hk,Int.toNat_natCast]
     have LE:=LD.more (ap hf (.lst ((List.replicate k (0:Int)).map V.int)))
     have nf:=LD.bu.nF hf
     have ef:At (upd HD f (.lst ((List.replicate k (0:Int)).map V.int))) f _:=ad
     generalize upd HD f (.lst ((List.replicate k (0:Int)).map V.int))=HE at *
     have al:=LE.bu.bus.len
     wtm_at "wp"
     refine ⟨b,f,FC,as,ds,T,List.replicate k 0,rfl,rfl,LE.bu.bus,hne,by omega,bt.ok,⟨T,(bt.few tm).mono (by omega) (Nat.le_refl _),by rw [List.length_replicate];omega⟩,At.sqL ef,fun xs _=>nf,fun D3 HF FF kF fD3 eD3 nD3 hF fF => ?_⟩
     rw [List.length_replicate] at hF
     wtm_at "wp"
     refine ⟨FF,_,T+k,rfl,LE.busTo kF hF fF,BusAtT.run k bt (by omega),by rw [j6];exact dl,by omega,fun w hw => ?_⟩
     rw [aL hwn] at hw
     rcases List.mem_append.mp hw with z | z
     ·have:=hj w z
      omega
     ·rw [List.mem_singleton.mp z]
      omega
    ·wtm_at "wp"
     refine ⟨FC,ds,T,rfl,LC,bt,dl,hT,fun w hw => ?_⟩
     rw [aL hwn] at hw
     rcases List.mem_append.mp hw with z | z
     ·exact hj w z
     ·rw [List.mem_singleton.mp z]
      omega
   clear hj bt dl hT LC e1
   rintro σ HD ⟨FD,ds,T,rfl,LD,bt,dl,hT,hj⟩
   have al:=LD.bu.bus.len
   wtm_at "wp"
   refine g5 ?_
   wtm_at "wp"
   refine eK m (fun i σ HE=>∃ v8 v12:Option V,σ=[some (.ref a),some (.int (m:Int)),some (.ref b),some (.ref S),some (.ref N),some (.int (t:Nat)),v6,v7,v8,v9,some (.ref P),some (.int wn),v12]∧Same HD HE) (by omega) (by omega) ⟨v8,v12,rfl,Same.refl _⟩ ?_ ?_
   rotate_left
   ·rintro σ HE ⟨v8',v12',rfl,sE⟩
    exact ⟨FD,ds,T,v8',_,v12',rfl,LD.more sE,bt,dl,hT,hj⟩
   rintro i σ HE hi ⟨v8',v12',rfl,sE⟩
   have LE:=LD.more sE
   have hid:i < ds.length:=by omega
   have ed:=List.getElem?_eq_getElem hid
   obtain ⟨f1,f2⟩:=bt.few tm _ (List.getElem_mem hid)
   have hh:=bt.heard pin ed
   have hfc:=bt.bm.fc _ (List.getElem_mem hid)
   clear LD bt hj
   generalize ds[i]=d at *
   have ePE:=LE.eP
   have plE:=LE.pl
   wtm_at "wp"
   refine bB ?_
   wtm_at "wp"
   refine gG (xs:=us) (fun D2 i2 ys H8=>Same HE H8∧aI HE D2∧At H8 D2 (.lst ys)∧Frs H8 ys (((found.take i2).filter fun e=>decide (e.2.at_≠i) && decide (e.1≤T)).map (·.2.f))∧ys.length≤i2) (At.sqL ePE) (small (by omega)) (fun D2 hD2=>⟨ap hD2 _,hD2,ad,.nil,Nat.le_refl _⟩) (fun D2 i2 ys H8 hi2 ⟨s8,f8,e8,sy,hy⟩=>⟨e8,At.sqL (s8.get ePE),hy⟩) (fun D2 i2 x ys H8 hx ⟨s8,f8,e8,sy,hy⟩ => ?_) (fun D2 ys H8 ⟨s8,f8,e8,sy,hy⟩ => ?_)
   ·obtain ⟨e,he,t2,ft,r,o,rfl,a1,a2,a3⟩:=cT plE hx
    have hi2:i2 < us.length:=(List.getElem?_eq_some_iff.mp hx).1
    have b1:=s8.get a1
    have bu8:=LE.bu.bus.same s8
    obtain ⟨_,_,_,_,e1,_⟩:=id bu8.ex
    show zS _ _ [some (.ref b),some (.int (i:Int)),some (.ref t2)] _ _
    wtm_at "wp"
    refine ⟨_,rfl,b,FD,as,ds,T,rfl,bu8,?_⟩
    wtm_at "wp"
    refine aJ (fun c1 => ?_) (fun c1 => ?_)
    ·wtm_at "wp"
     refine dR (fun c2 => ?_) (fun c2 => ?_)
     ·show tOp _ _ _ [some (.ref b),some (.int (i:Int)),some (.ref t2)] _ _
      wtm_at "wp"
      have kD:Kp [D2] H8 (upd H8 D2 (.lst (ys++[.ref ft]))):=(Kp.refl _ _).upd (by simp) e8 (fun z=>z)
      refine iB hi2 e8 ⟨s8.upF f8,f8,ad,?_,by rw [List.length_append,List.length_singleton];omega⟩
      rw [aL he,List.filter_append,List.filter_cons_of_pos (by show (decide (e.2.at_≠i) && decide (e.1≤T))=true;rw [decide_eq_true (show e.2.at_≠i by omega),decide_eq_true (show e.1≤T by omega)];rfl),List.map_append]
      exact fO (sy.kp kD) (.cons ⟨ft,r,o,rfl,kD.tup (s8.get a2),kD.frz (s8.get a3)⟩ .nil)
     ·refine sk hi2 e8 ⟨s8,f8,e8,?_,by omega⟩
      rw [aL he,List.filter_append,List.filter_cons_of_neg (by show ¬ (decide (e.2.at_≠i) && decide (e.1≤T))=true;rw [decide_eq_false (show ¬ e.2.at_≠i by omega),Bool.false_and];decide),List.filter_nil,List.append_nil]
      exact sy
    ·refine vv ?_
     refine sk hi2 e8 ⟨s8,f8,e8,?_,by omega⟩
     rw [aL he,List.filter_append,List.filter_cons_of_neg (by show ¬ (decide (e.2.at_≠i) && decide (e.1≤T))=true;rw [decide_eq_false (show ¬ e.1≤T by omega),Bool.and_false];decide),List.filter_nil,List.append_nil]
     exact sy
   rw [ul,List.take_of_length_le (Nat.le_refl _),← hh] at sy
   have L8:=LE.more s8
   obtain ⟨_,_,_,_,e1,_⟩:=id L8.bu.bus.ex
   wtm_at "wp"
   refine ⟨b,FD,as,ds,T,i,d,rfl,rfl,L8.bu.bus,by omega,ed,by omega,fun D4 us4 H9 s9 fD4 eD4 pD4 => ?_⟩
   have e19:=s9.get e1
   wtm_at "wp"
   refine tT eD4 pD4 (s9.get e8) (sy.kp (S:=[]) (Same.kp s9)) ?_
   wtm_at "wp"
   refine ⟨b,FD,as,ds,T,i,d,rfl,rfl,L8.bu.bus.same s9,by omega,ed,?_⟩
   wtm_at "wp"
   rw [hfc]
   refine dR (fun z=>absurd rfl z) (fun _ => ?_)
   wtm_at "wp"
   exact ⟨_,_,rfl,sE.trans (s8.trans s9)⟩
  ·rintro σ HC ⟨FC,ds,T,v8,v11,v12,rfl,LC,bt,dl,hT,hj⟩
   rw [List.length_map,List.take_of_length_le (Nat.le_refl _)] at hj
   have hp:∀ e∈found,e.1≤T:=fun e he=>by have:=hj _ (hfm e he);omega
   have hT2:(t:Int)≤T:=hj _ ht
   obtain ⟨_,_,_,_,e1,_⟩:=id LC.bu.bus.ex
   have al:=LC.bu.bus.len
   wtm_at "wp"
   refine ⟨b,FC,as,ds,T,rfl,LC.bu.bus,?_⟩
   wtm_at "wp"
   refine aJ (fun _ => ?_) (fun c=>absurd hT2 c)
   wtm_at "wp"
   refine kz ?_
   wtm_at "wp"
   refine lO m (fun D i ys H7=>Same HC H7∧aI HC D∧At H7 D (.lst ys)∧ys=(List.replicate i true).map V.bl∧ys.length≤i) (by omega) (by omega) (small (by omega)) (fun D hD=>⟨ap hD _,hD,ad,rfl,Nat.le_refl _⟩) (fun D i ys H7 hi ⟨s7,f7,e7,ey,hy⟩=>⟨e7,hy⟩) (fun D i ys H7 hi ⟨s7,f7,e7,ey,hy⟩ => ?_) (fun D ys H7 ⟨s7,f7,e7,ey,hy⟩ => ?_)
   ·have L7:=LC.more s7
    have hid:i < ds.length:=by omega
    have ed:=List.getElem?_eq_getElem hid
    have hq:=bt.none pin hp ed
    generalize ds[i]=d at *
    obtain ⟨_,_,_,_,e17,_⟩:=id L7.bu.bus.ex
    show tOp _ _ _ [some (.ref b),some (.int (i:Int))] _ _
    wtm_at "wp"
    refine ⟨_,_,rfl,b,FC,as,ds,T,i,d,rfl,rfl,L7.bu.bus,by omega,ed,by rw [hq];exact Nat.zero_le _,fun D4 us4 H9 s9 fD4 eD4 pD4 => ?_⟩
    rw [hq] at pD4
    cases pD4
    wtm_at "wp"
    refine ⟨small (show 0≤1000 by decide),fun p5 hp5 => ?_⟩
    refine wY (xs:=[]) (ys:=[]) (At.sqL (aA hp5 eD4)) (At.sqL ad) ?_
    refine iB hi (aA hp5 (s9.get e7)) ⟨((s7.trans s9).new hp5).upF f7,f7,ad,?_,by rw [List.length_append,List.length_singleton];omega⟩
    rw [ey,List.replicate_succ',List.map_append]
    rfl
   ·rw [ey] at e7
    wtm_at "wp"
    refine ⟨D,List.replicate m true,rfl,e7,?_⟩
    rw [show (List.replicate m true).all id=true by simp]
    wtm_at "wp"
    exact q _
 rintro i σ H4 hi ⟨F4,ds,t,vs,sent,kvs,v6,v7,v8,v9,rfl,L4,P4⟩
 clear L U1
 wtm_at "wp"
 refine ⟨a,ns,_,3,rfl,rfl,rfl,L4.bu.same.seq hS,by decide,fun name row tr r H5 s5 ft fr et er g hl => ?_⟩
 refine xq er (fun o => ?_)
 rw [show (([some (.ref a),some (.int (m:Int)),some (.ref b),some (.ref S),some (.ref N),some (.int (t:Nat)),some (.int (i:Int)),v7,v8,v9,none,none,none]:St).set 7 (some (.ref tr)))=[some (.ref a),some (.int (m:Int)),some (.ref b),some (.ref S),some (.ref N),some (.int (t:Nat)),some (.int (i:Int)),some (.ref tr),v8,v9,none,none,none] from rfl]
 have s6:Same H4 (upd H5 r (.frz o (.lst (row.map V.int)))):=s5.upF fr
 have et6:At (upd H5 r (.frz o (.lst (row.map V.int)))) tr _:=aP (et.ne er (by intro z;cases z)) et
 have er6:At (upd H5 r (.frz o (.lst (row.map V.int)))) r _:=ad
 generalize upd H5 r (.frz o (.lst (row.map V.int)))=H6 at *
 have L6:=L4.more s6
 clear L4 s5 et er ft fr s6
 wtm_at "wp"
 refine ⟨a,ns,_,rfl,rfl,L6.bu.same.seq hS,fun z2 u0 u1 => ?_⟩
 wtm_at "wp"
 obtain ⟨p0,hp0,hpm⟩:∃ p:Nat,z2 / 4 % (m:Int)=(p:Int)∧p < m:=by
  have h1:=Int.emod_nonneg (z2 / 4) (show (m:Int)≠0 by omega)
  have h2:=Int.emod_lt_of_pos (z2 / 4) (show (0:Int) < m by omega)
  exact ⟨(z2 / 4 % (m:Int)).toNat,by omega,by omega⟩
 rw [hp0]
 have hbl:=L6.bu.bus.len
 have hdl:=P4.dl
 have hkl:=P4.kl
 have hsl:=P4.sl
 have htl:=P4.tl
 have hi6:i≤5:=by omega
 refine fJ (fun σ H7=>∃ (kvs':List (Key×V)) (p:Nat),σ=[some (.ref a),some (.int (m:Int)),some (.ref b),some (.ref S),some (.ref N),some (.int (t:Nat)),some (.int (i:Int)),some (.ref tr),some (.int (p:Nat)),v9,none,none,none]∧Lw c H H7 b S N F4 as ds t vs sent kvs'∧At H7 tr (.tup [.int name,.ref r])∧At H7 r (.frz o (.lst (row.map V.int)))∧Nm sent kvs' m i name p) ?_ ?_
 ·have eN6:=L6.eN
  wtm_at "wp"
  refine ⟨xo eN6,?_⟩
  wtm_at "wp"
  refine ⟨N,kvs,.inl name,.int (p0:Nat),rfl,rfl,L6.eN,by omega,fun w hw => ?_,fun hw => ?_⟩
  ·obtain ⟨p,rfl,n⟩:=P4.old hw
   wtm_at "wp"
   exact ⟨kvs,p,rfl,L6,et6,er6,n⟩
  ·have k7:Kp [N] H6 (upd H6 N (.dK (pY kvs (.inl name) (.int (p0:Nat))))):=(Kp.refl _ _).upd (by simp) L6.eN (fun z=>z)
   wtm_at "wp"
   exact ⟨_,p0,rfl,L6.put fN,k7.tup et6,k7.frz er6,P4.fresh hw hpm⟩
 clear L6 et6 er6 hp0 hpm
 rintro σ H7 ⟨kvs',p,rfl,L7,et7,er7,n7⟩
 have hpm:=n7.lt
 wtm_at "wp"
 intro x8 hx8
 have L8:=L7.more (ap hx8 (.lst (row.map V.int)))
 have et8:=aA (x := .lst (row.map V.int)) hx8 et7
 have er8:=aA (x := .lst (row.map V.int)) hx8 er7
 have e8:At (upd H7 x8 (.lst (row.map V.int))) x8 _:=ad
 generalize upd H7 x8 (.lst (row.map V.int))=H8 at *
 clear L7 et7 er7
 have few8:=P4.bt.few P4.tm
 wtm_at "wp"
 refine ⟨b,x8,F4,as,ds,t,(p:Nat),name,row,rfl,rfl,rfl,rfl,L8.bu.bus,by omega,fun d hd=>by have:=(few8 d hd).1;omega,At.sqL e8,b6 (by omega) (by omega),b6 (by have:=g.1;omega) (by have:=g.1;omega),fun y hy=>b6 (by have:=g.2.2 y hy;omega) (by have:=g.2.2 y hy;omega),fun z=>absurd ⟨by omega,by omega⟩ z,fun k d ek ed => ?_⟩
 have ekp:k=p:=by omega
 subst ekp
 refine ⟨fun z => ?_,fun g' e' H9 F9 k9 h9 f9 => ?_⟩
 ·rcases z with y | y
  ·exact absurd g y
  ·rw [P4.else_no n7] at y
   cases y
 have L9:=L8.busTo k9 h9 f9
 have et9:=k9.tup et8
 have er9:=k9.frz er8
 have P9:=P4.send n7 g (by omega) ed
 have vl:vs.length=sent.length:=Paired.length L9.sds
 have eS9:=L9.eS
 clear L8 et8 er8 e8 k9 h9 f9
 wtm_at "wp"
 refine dR (fun z=>absurd rfl z) (fun _ => ?_)
 wtm_at "wp"
 refine ⟨small (show 4≤1000 by decide),fun n hn => ?_⟩
 have LA:=L9.more (ap hn (.tup [.int (t:Nat),.int (k:Nat),.ref tr,.int (i:Nat)]))
 have sx:SndAt (upd H9 n (.tup [.int (t:Nat),.int (k:Nat),.ref tr,.int (i:Nat)])) (.ref n) ⟨t,k,(name,row),i⟩:=⟨n,tr,r,o,rfl,ad,aA hn et9,aA hn er9⟩
 generalize upd H9 n (.tup [.int (t:Nat),.int (k:Nat),.ref tr,.int (i:Nat)])=HA at *
 wtm_at "wp"
 refine bF LA.eS (bg (by omega)) ?_
 have LB:=LA.add fS sx
 generalize upd HA S (.lst (vs++[.ref n]))=HB at *
 clear LA L9 sx et9 er9
 wtm_at "wp"
 refine ⟨a,ns,_,rfl,rfl,LB.bu.same.seq hS,fun z3 _ _ => ?_⟩
 wtm_at "wp"
 refine ⟨small (show 6≤1000 by decide),fun pc hpc => ?_⟩
 wtm_at "wp"
 refine ⟨a,ns,_,rfl,rfl,(LB.bu.same.new hpc).seq hS,fun z4 _ _ => ?_⟩
 wtm_at "wp"
 obtain ⟨y,hy,hy9⟩:=By z4 (z3 / 8 % 150) (by omega) (by omega)
 refine bL (At.sqL ad) hy ?_
 have LC:=LB.more (ap hpc (.lst [.int 0,.int 0,.int 1,.int 40,.int 100,.int (z3 / 8 % 150)]))
 generalize upd HB pc (.lst [.int 0,.int 0,.int 1,.int 40,.int 100,.int (z3 / 8 % 150)])=HC at *
 clear LB hy
 wtm_at "wp"
 refine ⟨small (show 1≤1000 by decide),fun pd hpd => ?_⟩
 wtm_at "wp"
 refine lL ad (by omega) (by omega) (small (by rw [List.length_singleton];omega)) (fun f hf => ?_)
 rw [Ce,Int.toNat_natCast]
 have LD:=(LC.more (ap hpd (.lst [.int 0]))).more (ap hf (.lst ((List.replicate y (0:Int)).map V.int)))
 have nf:=(LC.more (ap hpd (.lst [.int 0]))).bu.nF hf
 have ef:At (upd (upd HC pd (.lst [.int 0])) f (.lst ((List.replicate y (0:Int)).map V.int))) f _:=ad
 generalize upd (upd HC pd (.lst [.int 0])) f (.lst ((List.replicate y (0:Int)).map V.int))=HD at *
 clear LC
 have sl9:=P9.sl
 have PE:=P9.run y (by omega) m1
 wtm_at "wp"
 refine ⟨b,f,F9,as,_,t,List.replicate y 0,rfl,rfl,LD.bu.bus,hne,by omega,P9.bt.ok,⟨t,(P9.bt.few P9.tm).mono (by omega) (Nat.le_refl _),by rw [List.length_replicate];omega⟩,At.sqL ef,fun xs _=>nf,fun D3 HE FE kE fD3 eD3 nD3 hE fE => ?_⟩
 rw [List.length_replicate] at hE
 wtm_at "wp"
 rw [show (t:Int)+(y:Int)=((t+y:Nat):Int) by omega]
 exact ⟨FE,_,t+y,_,_,_,_,_,_,_,rfl,LD.busTo kE hE fE,PE⟩
end BB
set_option maxHeartbeats 4000000
set_option maxRecDepth 100000
set_option linter.unusedVariables false
namespace BB
open PySem L2
theorem ik {K:PySem.W.Frag} {C:Addr} {b:Value} {r:Bool} (h:PySem.W.mroIn K C b=some r):(PySem.W.clsIn K C).isSome=true:=by
 obtain ⟨cd,a,_⟩:=Option.bind_eq_some_iff.mp h
 rw [a]
 rfl
def Fd (K:PySem.W.Frag) (f:Addr) (x q:Str) (st:Stmt):Prop:=∃ fd,Fun K x q st f fd
section
variable {K:PySem.W.Frag} {h:Heap} {mg:Str→Option Value} {f C:Addr} {x q:Str} {st:Stmt}
theorem fd_mk {oc:Value} {od an:Option Addr} {sl:Array (Option Value)} {kV dc pm cd ct:Value} (l:K.lookup f=some ⟨oc,od,.func (PySem.W.fnOf x q (gZ st) (bR st) (ai st) .none kV dc pm an cd ct),sl⟩) (c:PySem.W.codeIn K cd q=true) (k:PySem.W.keepIn K (.ref f)=true):Fd K f x q st:=⟨_,yn (st:=st) l c k⟩
theorem Fd.df (l:Fd K f x x st) (X:K.In h) (G:h.Ns mainGlobals mg) (a:PySem.W.nsIn K mainGlobals x=some (some (.ref f))):DefAt K mg x st:=let ⟨_,F⟩:=l;⟨_,_,F,PySem.W.mg_of X G a⟩
theorem Fd.mt (l:Fd K f x q st) (a:PySem.W.findIn K (.ref C) x=some (some (.ref f))) (b:PySem.W.isFn K (.ref f)=true):MethAt K C x q st:=let ⟨_,F⟩:=l;⟨_,_,F,⟨a,b,F.kp⟩⟩
theorem Fd.ini (l:Fd K f "__init__" q st) (z:PySem.W.makesIn K C=true) (a:PySem.W.findIn K (.ref C) "__init__" = some (some (.ref f))) (b:PySem.W.isFn K (.ref f)=true) (p:PySem.W.keepIn K (.ref C)=true):InitAt K C q st:=let ⟨_,F⟩:=l;⟨_,_,F,⟨z,a,b,p⟩⟩
end
open PySem.W in
theorem txt_mk {K:PySem.W.Frag} {h:Heap} {mg:Str→Option Value} {cE cF cN cB cR cD cU:Addr} (X:K.In h) (G:h.Ns mainGlobals mg)
  {t13 t14 t15 t16 t17 t18 t19 t20 t21 t22 t23 t24 t25 t26 t27 t28 t29 t30 t31 t32 t33 t34 t35 t36:Tok} {f44 f45 f46 f47 f48 f49 f50 f51 f52 f53 f54 f55 f56 f57 f58 f59 f60 f61 f62 f63 f64 f65 f66 f67 f68 f69 f70 f71 f72 f73 f74 f75 f76 f77 f78 f79 f80 f81 f82 f83 f84 f85 f86 f87 f88 f89 f90 f91 f92 f93 f94 f95 f96 f97 f98 f99 f100 f101 f102:Addr}
  (z1:nsIn K mainGlobals "range" = some none)
  (z2:nsIn K mainGlobals "len" = some none)
  (z3:nsIn K mainGlobals "isinstance" = some none)
  (z4:nsIn K mainGlobals "all" = some none)
  (z5:nsIn K mainGlobals "any" = some none)
  (z6:nsIn K mainGlobals "int" = some none)
  (z7:nsIn K mainGlobals "bool" = some none)
  (z8:nsIn K mainGlobals "list" = some none)
  (z9:nsIn K mainGlobals "set" = some none)
  (z10:nsIn K mainGlobals "min" = some none)
  (z11:nsIn K mainGlobals "sorted" = some none)
  (z12:nsIn K mainGlobals "ValueError" = some none)
  (g13:nsIn K mainGlobals "HIGHEST_NAME" = some (some (.int 2047 t13)))
  (g14:nsIn K mainGlobals "HIGHEST_BYTE" = some (some (.int 255 t14)))
  (g15:nsIn K mainGlobals "MOST_BYTES" = some (some (.int 8 t15)))
  (g16:nsIn K mainGlobals "NAME_BITS" = some (some (.int 11 t16)))
  (g17:nsIn K mainGlobals "COUNT_BITS" = some (some (.int 4 t17)))
  (g18:nsIn K mainGlobals "BYTE_BITS" = some (some (.int 8 t18)))
  (g19:nsIn K mainGlobals "CHECK_BITS" = some (some (.int 15 t19)))
  (g20:nsIn K mainGlobals "CHECK_TURNS" = some (some (.int 17817 t20)))
  (g21:nsIn K mainGlobals "CHECK_HIGHEST" = some (some (.int 32767 t21)))
  (g22:nsIn K mainGlobals "MOST_LIKE_BITS" = some (some (.int 5 t22)))
  (g23:nsIn K mainGlobals "NAME_AT" = some (some (.int 1 t23)))
  (g24:nsIn K mainGlobals "COUNT_AT" = some (some (.int 12 t24)))
  (g25:nsIn K mainGlobals "ROW_AT" = some (some (.int 16 t25)))
  (g26:nsIn K mainGlobals "FREE" = some (some (.str "free" t26)))
  (g27:nsIn K mainGlobals "FRAME" = some (some (.str "frame" t27)))
  (g28:nsIn K mainGlobals "CRY" = some (some (.str "cry" t28)))
  (g29:nsIn K mainGlobals "DAZED" = some (some (.str "dazed" t29)))
  (g30:nsIn K mainGlobals "REST" = some (some (.str "rest" t30)))
  (g31:nsIn K mainGlobals "CRIED_BITS" = some (some (.int 6 t31)))
  (g32:nsIn K mainGlobals "DAZED_ONES" = some (some (.int 8 t32)))
  (g33:nsIn K mainGlobals "REST_ONES" = some (some (.int 3 t33)))
  (g34:nsIn K mainGlobals "ANSWER_AT" = some (some (.int 1 t34)))
  (g35:nsIn K mainGlobals "BITS_BEHIND" = some (some (.int 10 t35)))
  (g36:nsIn K mainGlobals "MOST_NODES" = some (some (.int 8 t36)))
  (m37:nsIn K mainGlobals "BusError" = some (some (.ref cE)))
  (m38:nsIn K mainGlobals "BadFrame" = some (some (.ref cF)))
  (m39:nsIn K mainGlobals "NoNode" = some (some (.ref cN)))
  (m40:nsIn K mainGlobals "BadBits" = some (some (.ref cB)))
  (m41:nsIn K mainGlobals "Reading" = some (some (.ref cR)))
  (m42:nsIn K mainGlobals "Node" = some (some (.ref cD)))
  (m43:nsIn K mainGlobals "Bus" = some (some (.ref cU)))
  (a44:nsIn K mainGlobals "in_bits" = some (some (.ref f44)))
  (l44:Fd K f44 "in_bits" "in_bits" (top 20))
  (a45:nsIn K mainGlobals "number_of" = some (some (.ref f45)))
  (l45:Fd K f45 "number_of" "number_of" (top 21))
  (a46:nsIn K mainGlobals "check_of" = some (some (.ref f46)))
  (l46:Fd K f46 "check_of" "check_of" (top 22))
  (a47:nsIn K mainGlobals "refuse_bad_frame" = some (some (.ref f47)))
  (l47:Fd K f47 "refuse_bad_frame" "refuse_bad_frame" (top 23))
  (a48:nsIn K mainGlobals "bits_of" = some (some (.ref f48)))
  (l48:Fd K f48 "bits_of" "bits_of" (top 24))
  (a49:nsIn K mainGlobals "is_one_due" = some (some (.ref f49)))
  (l49:Fd K f49 "is_one_due" "is_one_due" (top 25))
  (a50:nsIn K mainGlobals "stuffed" = some (some (.ref f50)))
  (l50:Fd K f50 "stuffed" "stuffed" (top 26))
  (a51:nsIn K mainGlobals "head_choices" = some (some (.ref f51)))
  (l51:Fd K f51 "head_choices" "head_choices" (top 27))
  (a52:nsIn K mainGlobals "check_place" = some (some (.ref f52)))
  (l52:Fd K f52 "check_place" "check_place" (top 28))
  (a53:nsIn K mainGlobals "plain_choices" = some (some (.ref f53)))
  (l53:Fd K f53 "plain_choices" "plain_choices" (top 29))
  (a54:nsIn K mainGlobals "choices_behind" = some (some (.ref f54)))
  (l54:Fd K f54 "choices_behind" "choices_behind" (top 30))
  (a55:nsIn K mainGlobals "parts_of" = some (some (.ref f55)))
  (l55:Fd K f55 "parts_of" "parts_of" (top 31))
  (a56:findIn K (.ref cR) "__init__" = some (some (.ref f56)))
  (b56:isFn K (.ref f56)=true)
  (q56:makesIn K cR=true)
  (p56:keepIn K (.ref cR)=true)
  (l56:Fd K f56 "__init__" "Reading.__init__" (aj (top 32) 0))
  (a57:findIn K (.ref cR) "take" = some (some (.ref f57)))
  (b57:isFn K (.ref f57)=true)
  (l57:Fd K f57 "take" "Reading.take" (aj (top 32) 1))
  (a58:findIn K (.ref cR) "is_over" = some (some (.ref f58)))
  (b58:isFn K (.ref f58)=true)
  (l58:Fd K f58 "is_over" "Reading.is_over" (aj (top 32) 2))
  (a59:findIn K (.ref cR) "is_at_name" = some (some (.ref f59)))
  (b59:isFn K (.ref f59)=true)
  (l59:Fd K f59 "is_at_name" "Reading.is_at_name" (aj (top 32) 3))
  (a60:findIn K (.ref cD) "__init__" = some (some (.ref f60)))
  (b60:isFn K (.ref f60)=true)
  (q60:makesIn K cD=true)
  (p60:keepIn K (.ref cD)=true)
  (l60:Fd K f60 "__init__" "Node.__init__" (aj (top 44) 0))
  (a61:findIn K (.ref cD) "has_waiting" = some (some (.ref f61)))
  (b61:isFn K (.ref f61)=true)
  (l61:Fd K f61 "has_waiting" "Node.has_waiting" (aj (top 44) 1))
  (a62:findIn K (.ref cD) "let_wait" = some (some (.ref f62)))
  (b62:isFn K (.ref f62)=true)
  (l62:Fd K f62 "let_wait" "Node.let_wait" (aj (top 44) 2))
  (a63:findIn K (.ref cD) "begin_if_free" = some (some (.ref f63)))
  (b63:isFn K (.ref f63)=true)
  (l63:Fd K f63 "begin_if_free" "Node.begin_if_free" (aj (top 44) 3))
  (a64:findIn K (.ref cD) "put" = some (some (.ref f64)))
  (b64:isFn K (.ref f64)=true)
  (l64:Fd K f64 "put" "Node.put" (aj (top 44) 4))
  (a65:findIn K (.ref cD) "put_in_frame" = some (some (.ref f65)))
  (b65:isFn K (.ref f65)=true)
  (l65:Fd K f65 "put_in_frame" "Node.put_in_frame" (aj (top 44) 5))
  (a66:findIn K (.ref cD) "hear" = some (some (.ref f66)))
  (b66:isFn K (.ref f66)=true)
  (l66:Fd K f66 "hear" "Node.hear" (aj (top 44) 6))
  (a67:findIn K (.ref cD) "hear_in_frame" = some (some (.ref f67)))
  (b67:isFn K (.ref f67)=true)
  (l67:Fd K f67 "hear_in_frame" "Node.hear_in_frame" (aj (top 44) 7))
  (a68:findIn K (.ref cD) "hear_stuffed" = some (some (.ref f68)))
  (b68:isFn K (.ref f68)=true)
  (l68:Fd K f68 "hear_stuffed" "Node.hear_stuffed" (aj (top 44) 8))
  (a69:findIn K (.ref cD) "hears_another" = some (some (.ref f69)))
  (b69:isFn K (.ref f69)=true)
  (l69:Fd K f69 "hears_another" "Node.hears_another" (aj (top 44) 9))
  (a70:findIn K (.ref cD) "hear_behind" = some (some (.ref f70)))
  (b70:isFn K (.ref f70)=true)
  (l70:Fd K f70 "hear_behind" "Node.hear_behind" (aj (top 44) 10))
  (a71:findIn K (.ref cD) "is_wrong_behind" = some (some (.ref f71)))
  (b71:isFn K (.ref f71)=true)
  (l71:Fd K f71 "is_wrong_behind" "Node.is_wrong_behind" (aj (top 44) 11))
  (a72:findIn K (.ref cD) "hear_dazed" = some (some (.ref f72)))
  (b72:isFn K (.ref f72)=true)
  (l72:Fd K f72 "hear_dazed" "Node.hear_dazed" (aj (top 44) 12))
  (a73:findIn K (.ref cD) "hear_between" = some (some (.ref f73)))
  (b73:isFn K (.ref f73)=true)
  (l73:Fd K f73 "hear_between" "Node.hear_between" (aj (top 44) 13))
  (a74:findIn K (.ref cD) "enter_frame" = some (some (.ref f74)))
  (b74:isFn K (.ref f74)=true)
  (l74:Fd K f74 "enter_frame" "Node.enter_frame" (aj (top 44) 14))
  (a75:findIn K (.ref cD) "end_frame" = some (some (.ref f75)))
  (b75:isFn K (.ref f75)=true)
  (l75:Fd K f75 "end_frame" "Node.end_frame" (aj (top 44) 15))
  (a76:findIn K (.ref cD) "drop_first" = some (some (.ref f76)))
  (b76:isFn K (.ref f76)=true)
  (l76:Fd K f76 "drop_first" "Node.drop_first" (aj (top 44) 16))
  (a77:findIn K (.ref cD) "cry_out" = some (some (.ref f77)))
  (b77:isFn K (.ref f77)=true)
  (l77:Fd K f77 "cry_out" "Node.cry_out" (aj (top 44) 17))
  (a78:findIn K (.ref cD) "pass_one" = some (some (.ref f78)))
  (b78:isFn K (.ref f78)=true)
  (l78:Fd K f78 "pass_one" "Node.pass_one" (aj (top 44) 18))
  (a79:findIn K (.ref cD) "turn_to" = some (some (.ref f79)))
  (b79:isFn K (.ref f79)=true)
  (l79:Fd K f79 "turn_to" "Node.turn_to" (aj (top 44) 19))
  (a80:nsIn K mainGlobals "copies_of" = some (some (.ref f80)))
  (l80:Fd K f80 "copies_of" "copies_of" (top 47))
  (a81:findIn K (.ref cU) "__init__" = some (some (.ref f81)))
  (b81:isFn K (.ref f81)=true)
  (q81:makesIn K cU=true)
  (p81:keepIn K (.ref cU)=true)
  (l81:Fd K f81 "__init__" "Bus.__init__" (aj (top 48) 0))
  (a82:findIn K (.ref cU) "node_at" = some (some (.ref f82)))
  (b82:isFn K (.ref f82)=true)
  (l82:Fd K f82 "node_at" "Bus.node_at" (aj (top 48) 1))
  (a83:findIn K (.ref cU) "time" = some (some (.ref f83)))
  (b83:isFn K (.ref f83)=true)
  (l83:Fd K f83 "time" "Bus.time" (aj (top 48) 2))
  (a84:findIn K (.ref cU) "heard" = some (some (.ref f84)))
  (b84:isFn K (.ref f84)=true)
  (l84:Fd K f84 "heard" "Bus.heard" (aj (top 48) 3))
  (a85:findIn K (.ref cU) "waits" = some (some (.ref f85)))
  (b85:isFn K (.ref f85)=true)
  (l85:Fd K f85 "waits" "Bus.waits" (aj (top 48) 4))
  (a86:findIn K (.ref cU) "faults" = some (some (.ref f86)))
  (b86:isFn K (.ref f86)=true)
  (l86:Fd K f86 "faults" "Bus.faults" (aj (top 48) 5))
  (a87:nsIn K mainGlobals "waits_elsewhere" = some (some (.ref f87)))
  (l87:Fd K f87 "waits_elsewhere" "waits_elsewhere" (top 49))
  (a88:nsIn K mainGlobals "send" = some (some (.ref f88)))
  (l88:Fd K f88 "send" "send" (top 50))
  (a89:nsIn K mainGlobals "step" = some (some (.ref f89)))
  (l89:Fd K f89 "step" "step" (top 51))
  (a90:nsIn K mainGlobals "run" = some (some (.ref f90)))
  (l90:Fd K f90 "run" "run" (top 52))
  (a91:nsIn K mainGlobals "_law_cell" = some (some (.ref f91)))
  (l91:Fd K f91 "_law_cell" "_law_cell" (top 54))
  (a92:nsIn K mainGlobals "_law_mix" = some (some (.ref f92)))
  (l92:Fd K f92 "_law_mix" "_law_mix" (top 55))
  (a93:nsIn K mainGlobals "_law_digits" = some (some (.ref f93)))
  (l93:Fd K f93 "_law_digits" "_law_digits" (top 57))
  (a94:nsIn K mainGlobals "_law_check" = some (some (.ref f94)))
  (l94:Fd K f94 "_law_check" "_law_check" (top 58))
  (a95:nsIn K mainGlobals "_law_bits" = some (some (.ref f95)))
  (l95:Fd K f95 "_law_bits" "_law_bits" (top 59))
  (a96:nsIn K mainGlobals "_law_stuffed" = some (some (.ref f96)))
  (l96:Fd K f96 "_law_stuffed" "_law_stuffed" (top 60))
  (a97:nsIn K mainGlobals "_law_run" = some (some (.ref f97)))
  (l97:Fd K f97 "_law_run" "_law_run" (top 61))
  (a98:nsIn K mainGlobals "_law_frame" = some (some (.ref f98)))
  (l98:Fd K f98 "_law_frame" "_law_frame" (top 62))
  (a99:nsIn K mainGlobals "_law_told" = some (some (.ref f99)))
  (l99:Fd K f99 "_law_told" "_law_told" (top 63))
  (a100:nsIn K mainGlobals "_law_size" = some (some (.ref f100)))
  (l100:Fd K f100 "_law_size" "_law_size" (top 64))
  (a101:nsIn K mainGlobals "_law_plan" = some (some (.ref f101)))
  (l101:Fd K f101 "_law_plan" "_law_plan" (top 65))
  (a102:nsIn K mainGlobals "law" = some (some (.ref f102)))
  (l102:Fd K f102 "law" "law" (top 66))
  (w103a:plainGet K cR Str.empty=true)
  (w103b:hasDictIn K cR=true)
  (w103c:plainOver K cR=true)
  (w103d:findIn K (.ref cR) "__setattr__" = some (some (.builtin "object.__setattr__")))
  (n104:findIn K (.ref cR) "wire" = some none)
  (n105:findIn K (.ref cR) "plain" = some none)
  (n106:findIn K (.ref cR) "choices" = some none)
  (w107a:plainGet K cD Str.empty=true)
  (w107b:hasDictIn K cD=true)
  (w107c:plainOver K cD=true)
  (w107d:findIn K (.ref cD) "__setattr__" = some (some (.builtin "object.__setattr__")))
  (n108:findIn K (.ref cD) "state" = some none)
  (n109:findIn K (.ref cD) "passed" = some none)
  (n110:findIn K (.ref cD) "reading" = some none)
  (n111:findIn K (.ref cD) "sending" = some none)
  (n112:findIn K (.ref cD) "queue" = some none)
  (n113:findIn K (.ref cD) "taken" = some none)
  (n114:findIn K (.ref cD) "fault_count" = some none)
  (w115a:plainGet K cU Str.empty=true)
  (w115b:hasDictIn K cU=true)
  (w115c:plainOver K cU=true)
  (w115d:findIn K (.ref cU) "__setattr__" = some (some (.builtin "object.__setattr__")))
  (n116:findIn K (.ref cU) "nodes" = some none)
  (n117:findIn K (.ref cU) "bits_past" = some none)
  (y118:kitOne K (.type "int") (.type "bool")=some false)
  (x119:excIn K cF [.type "ValueError",.type "Exception",.type "BaseException",.type "object"] "ValueError.__new__" = true)
  (u120:mroIn K cF (.ref cE)=some true)
  (e121_0:findIn K (.ref cF) "__getattribute__" = some (some (.builtin "BaseException.__getattribute__")))
  (e121_1:findIn K (.ref cF) "__getattr__" = some none)
  (e121_2:findIn K (.ref cF) "__class__" = some (some (.builtin "object.__class__")))
  (e121_3:specialIn K (.builtin "object.__class__") "__get__" = some (some (.builtin "getset_descriptor.__get__")))
  (e121_4:takesIn K (.builtin "object.__class__")=some true)
  (e121_5:mroIn K cF (.type "object")=some true)
  (e121_6:mroIn K cF (.type "BaseException")=some true)
  (x122:excIn K cN [.type "ValueError",.type "Exception",.type "BaseException",.type "object"] "ValueError.__new__" = true)
  (u123:mroIn K cN (.ref cE)=some true)
  (e124_0:findIn K (.ref cN) "__getattribute__" = some (some (.builtin "BaseException.__getattribute__")))
  (e124_1:findIn K (.ref cN) "__getattr__" = some none)
  (e124_2:findIn K (.ref cN) "__class__" = some (some (.builtin "object.__class__")))
  (e124_3:specialIn K (.builtin "object.__class__") "__get__" = some (some (.builtin "getset_descriptor.__get__")))
  (e124_4:takesIn K (.builtin "object.__class__")=some true)
  (e124_5:mroIn K cN (.type "object")=some true)
  (e124_6:mroIn K cN (.type "BaseException")=some true)
  (y125:kitOne K (.ref cF) (.ref cF)=some true)
  (y126:kitOne K (.ref cF) (.ref cN)=some false)
  (y127:kitOne K (.ref cF) (.ref cB)=some false)
  (y128:kitOne K (.ref cF) (.type "ValueError")=some true)
  (y129:kitOne K (.ref cN) (.ref cF)=some false)
  (y130:kitOne K (.ref cN) (.ref cN)=some true)
  (y131:kitOne K (.ref cN) (.ref cB)=some false)
  (y132:kitOne K (.ref cN) (.type "ValueError")=some true)
  (y133:kitAny K (.ref cF) [.ref cB,.ref cN]=some false)
  (u134:typeIn K (.ref cE)=some (.type "type"))
  (u135:mroIn K cE (.type "object")=some true)
  (u136:mroIn K cE (.type "BaseException")=some true)
  : ∃ (c:Cs) (f:Addr) (fd:FuncData),Txt K mg c∧Fun K "law" "law" (top 66) f fd∧mg "law" = some (.ref f)∧(∀ (s:Shared) (v:Value),BindsTo s fd ⟨[v],[]⟩ [("_law_script",v)]):=by
 have T:Txt K mg ⟨cE,cF,cN,cB,cR,cD,cU⟩:=by
  constructor
  ·exact PySem.W.mg_none_of X G z1
  ·exact PySem.W.mg_none_of X G z2
  ·exact PySem.W.mg_none_of X G z3
  ·exact PySem.W.mg_none_of X G z4
  ·exact PySem.W.mg_none_of X G z5
  ·exact PySem.W.mg_none_of X G z6
  ·exact PySem.W.mg_none_of X G z7
  ·exact PySem.W.mg_none_of X G z8
  ·exact PySem.W.mg_none_of X G z9
  ·exact PySem.W.mg_none_of X G z10
  ·exact PySem.W.mg_none_of X G z11
  ·exact PySem.W.mg_none_of X G z12
  ·exact ⟨_,PySem.W.mg_of X G g13⟩
  ·exact ⟨_,PySem.W.mg_of X G g14⟩
  ·exact ⟨_,PySem.W.mg_of X G g15⟩
  ·exact ⟨_,PySem.W.mg_of X G g16⟩
  ·exact ⟨_,PySem.W.mg_of X G g17⟩
  ·exact ⟨_,PySem.W.mg_of X G g18⟩
  ·exact ⟨_,PySem.W.mg_of X G g19⟩
  ·exact ⟨_,PySem.W.mg_of X G g20⟩
  ·exact ⟨_,PySem.W.mg_of X G g21⟩
  ·exact ⟨_,PySem.W.mg_of X G g22⟩
  ·exact ⟨_,PySem.W.mg_of X G g23⟩
  ·exact ⟨_,PySem.W.mg_of X G g24⟩
  ·exact ⟨_,PySem.W.mg_of X G g25⟩
  ·exact ⟨_,PySem.W.mg_of X G g26⟩
  ·exact ⟨_,PySem.W.mg_of X G g27⟩
  ·exact ⟨_,PySem.W.mg_of X G g28⟩
  ·exact ⟨_,PySem.W.mg_of X G g29⟩
  ·exact ⟨_,PySem.W.mg_of X G g30⟩
  ·exact ⟨_,PySem.W.mg_of X G g31⟩
  ·exact ⟨_,PySem.W.mg_of X G g32⟩
  ·exact ⟨_,PySem.W.mg_of X G g33⟩
  ·exact ⟨_,PySem.W.mg_of X G g34⟩
  ·exact ⟨_,PySem.W.mg_of X G g35⟩
  ·exact ⟨_,PySem.W.mg_of X G g36⟩
  ·exact PySem.W.mg_of X G m37
  ·exact PySem.W.mg_of X G m38
  ·exact PySem.W.mg_of X G m39
  ·exact PySem.W.mg_of X G m40
  ·exact PySem.W.mg_of X G m41
  ·exact PySem.W.mg_of X G m42
  ·exact PySem.W.mg_of X G m43
  ·exact l44.df X G a44
  ·exact l45.df X G a45
  ·exact l46.df X G a46
  ·exact l47.df X G a47
  ·exact l48.df X G a48
  ·exact l49.df X G a49
  ·exact l50.df X G a50
  ·exact l51.df X G a51
  ·exact l52.df X G a52
  ·exact l53.df X G a53
  ·exact l54.df X G a54
  ·exact l55.df X G a55
  ·exact l56.ini q56 a56 b56 p56
  ·exact l57.mt a57 b57
  ·exact l58.mt a58 b58
  ·exact l59.mt a59 b59
  ·exact l60.ini q60 a60 b60 p60
  ·exact l61.mt a61 b61
  ·exact l62.mt a62 b62
  ·exact l63.mt a63 b63
  ·exact l64.mt a64 b64
  ·exact l65.mt a65 b65
  ·exact l66.mt a66 b66
  ·exact l67.mt a67 b67
  ·exact l68.mt a68 b68
  ·exact l69.mt a69 b69
  ·exact l70.mt a70 b70
  ·exact l71.mt a71 b71
  ·exact l72.mt a72 b72
  ·exact l73.mt a73 b73
  ·exact l74.mt a74 b74
  ·exact l75.mt a75 b75
  ·exact l76.mt a76 b76
  ·exact l77.mt a77 b77
  ·exact l78.mt a78 b78
  ·exact l79.mt a79 b79
  ·exact l80.df X G a80
  ·exact l81.ini q81 a81 b81 p81
  ·exact l82.mt a82 b82
  ·exact l83.mt a83 b83
  ·exact l84.mt a84 b84
  ·exact l85.mt a85 b85
  ·exact l86.mt a86 b86
  ·exact l87.df X G a87
  ·exact l88.df X G a88
  ·exact l89.df X G a89
  ·exact l90.df X G a90
  ·exact l91.df X G a91
  ·exact l92.df X G a92
  ·exact l93.df X G a93
  ·exact l94.df X G a94
  ·exact l95.df X G a95
  ·exact l96.df X G a96
  ·exact l97.df X G a97
  ·exact l98.df X G a98
  ·exact l99.df X G a99
  ·exact l100.df X G a100
  ·exact l101.df X G a101
  ·exact l102.df X G a102
  ·exact ⟨w103a,w103b,w103c,w103d⟩
  ·exact n104
  ·exact n105
  ·exact n106
  ·exact ⟨w107a,w107b,w107c,w107d⟩
  ·exact n108
  ·exact n109
  ·exact n110
  ·exact n111
  ·exact n112
  ·exact n113
  ·exact n114
  ·exact ⟨w115a,w115b,w115c,w115d⟩
  ·exact n116
  ·exact n117
  ·exact y118
  ·exact x119
  ·exact u120
  ·exact ⟨e121_0,e121_1,e121_2,e121_3,e121_4,e121_5,e121_6,ik e121_6⟩
  ·exact x122
  ·exact u123
  ·exact ⟨e124_0,e124_1,e124_2,e124_3,e124_4,e124_5,e124_6,ik e124_6⟩
  ·exact y125
  ·exact y126
  ·exact y127
  ·exact y128
  ·exact y129
  ·exact y130
  ·exact y131
  ·exact y132
  ·exact y133
  ·exact u134
  ·exact ik u135
  ·exact u136
 obtain ⟨fd,F⟩:=l102
 obtain ⟨⟨oc,od,kV,dc,pm,an,cd,ct,sl,rfl,e⟩,_⟩:=id F
 exact ⟨_,_,_,T,F,PySem.W.mg_of X G a102,fun s v => .of_eq rfl⟩
theorem law_fn {l:PySem.W.OpenLaw} {w:World} {K:PySem.W.Frag} {mg:Str→Option Value} {fa:Addr} (hfa:mg "law" = some (.ref fa))
  (Z:∃ (c:Cs) (f:Addr) (fd:FuncData),Txt K mg c∧Fun K "law" "law" (top 66) f fd∧mg "law" = some (.ref f)∧(∀ (s:Shared) (v:Value),BindsTo s fd ⟨[v],[]⟩ [("_law_script",v)])) :
  ∃ (c:Cs) (fd:FuncData),(∀ (s:Shared) (v:Value),BindsTo s fd ⟨[v],[]⟩ [("_law_script",v)])∧∀ base:Heap,K.In base→base.Ns mainGlobals mg→FnOk l.prog w K mg base CX0 12 fa fd ["_law_script"] (tU K c):=by
 obtain ⟨c,f,fd,T,F,m,b⟩:=Z
 have e:=hfa.symm.trans m
 cases e
 exact ⟨c,fd,b,fun base _ _=>zR T F⟩
def Bz (K:PySem.W.Frag):Sp:=sp1 fun v H Q _=>∃ (a:Addr) (ns:List Int),v = .ref a∧SqL K H a (ns.map V.int)∧ns.length≤63∧∀ H',Q (.bl true) H'
theorem walk {l:PySem.W.OpenLaw} {q:Program} {loose:List Str} {XP:(Str→Option Value)→Heap→Prop} {YP:World→Heap→Prop} {d:DefRec} {K:Params→PySem.W.Frag} (hn:l.most=some 63) (hdf:d.params.defaults=[])
  (hY:∀ (w:World) (h:Heap),YP w h→(K w.params).In h)
  (F:∀ (w:World) (mg:Str→Option Value) (fa:Addr) (h:Heap),(K w.params).In h→h.Ns mainGlobals mg→mg d.name=some (.ref fa) →
   ∃ (c:Cs) (fd:FuncData),(∀ (s:Shared) (u:Value),BindsTo s fd ⟨[u],[]⟩ [("_law_script",u)])∧∀ base:Heap,(K w.params).In base→base.Ns mainGlobals mg→FnOk l.prog w (K w.params) mg base CX0 12 fa fd ["_law_script"] (tU (K w.params) c)) :
  PySem.W.WalkO q loose XP YP l.row.toRowW d [] (fun f vs=>PySem.call f vs):=
 L2.walk_of (n:=63) (k:=12) (x := "_law_script") (CX:=fun _=>CX0) (sp:=fun w=>Bz (K w.params)) hn (by decide) hdf ⟨rfl,by decide,by decide⟩ hY
  (fun w mg fa h a b m=>let ⟨_,fd,e,f⟩:=F w mg fa h a b m;⟨fd,e,fun base x y=>(f base x y).imp fun vs H Q E ⟨v,e1,a,ns,e2,e3,_,e4⟩=>⟨v,e1,a,ns,e2,e3,e4⟩⟩)
  (fun _ _ a ns hl _ hS=>⟨_,rfl,a,ns,rfl,hS,hl,fun _=>rfl⟩) fun _ _ _ _ _ z=>z
end BB
set_option Elab.async true
namespace PySem.Challenge.cw_bitbus_k20_whole_least_first_holds
theorem tw4987582393141440512:0=0:=rfl
theorem tw6554472675482690624:0=0:=rfl
theorem tw6401690922007990368:0=0:=rfl
theorem tw17137004261784248448:0=0:=rfl
theorem tw17874141027905213600:0=0:=rfl
theorem tw2371026583849108672:0=0:=rfl
theorem tw5509454103851861184:0=0:=rfl
theorem tw12063395386765584608:0=0:=rfl
theorem tw8708367405838428416:0=0:=rfl
theorem tw11913270513370310016:0=0:=rfl
theorem tw17333099256679781760:0=0:=rfl
theorem tw10007145669804025216:0=0:=rfl
theorem tw5589154566431380896:0=0:=rfl
theorem tw12726610736718590368:0=0:=rfl
theorem tw1706537939161809344:0=0:=rfl
theorem tw11707516227319941600:0=0:=rfl
theorem tw4761188037217943008:0=0:=rfl
theorem tw17079612742749394432:0=0:=rfl
theorem tw6255287312793518624:0=0:=rfl
theorem tw2082893637292693152:0=0:=rfl
theorem tw5999483097164556032:0=0:=rfl
theorem tw1703293120142246688:0=0:=rfl
theorem tw2393076180333119296:0=0:=rfl
theorem tw12717220889407329152:0=0:=rfl
theorem tw12100749210250665856:0=0:=rfl
theorem tw15325836574082115585:0=0:=rfl
theorem tw2265123146826982465:0=0:=rfl
theorem tw15255229101832202337:0=0:=rfl
theorem tw6874760737210871937:0=0:=rfl
theorem tw14947976624290244769:0=0:=rfl
theorem tw12238011090641095873:0=0:=rfl
theorem tw4885884786800308417:0=0:=rfl
theorem tw1566294329275852001:0=0:=rfl
theorem tw798306246432007457:0=0:=rfl
theorem tw6810982158265089345:0=0:=rfl
theorem tw894417655321934241:0=0:=rfl
theorem tw3479965957407825345:0=0:=rfl
theorem tw973525026867079649:0=0:=rfl
theorem tw15809005522820378145:0=0:=rfl
theorem tw2367755777869412929:0=0:=rfl
theorem tw828224137733718625:0=0:=rfl
theorem tw17434641198051957537:0=0:=rfl
theorem tw30223094033678145:0=0:=rfl
theorem tw3446753001204098945:0=0:=rfl
theorem tw10099942845156032417:0=0:=rfl
theorem tw14385251269917082561:0=0:=rfl
theorem tw16139543685344935938:0=0:=rfl
theorem tw16451614788016835618:0=0:=rfl
theorem tw9596268970157475906:0=0:=rfl
theorem tw14430172297700460610:0=0:=rfl
theorem tw5672990081117337826:0=0:=rfl
theorem tw12079745508001699234:0=0:=rfl
theorem tw1467213366658220482:0=0:=rfl
theorem tw7159427275348694466:0=0:=rfl
theorem tw1326271151123110466:0=0:=rfl
theorem tw9134326534055978562:0=0:=rfl
theorem tw9887395152053836418:0=0:=rfl
theorem tw13297948048408455874:0=0:=rfl
theorem tw2807888133180372802:0=0:=rfl
theorem tw8621193507827738530:0=0:=rfl
theorem tw1126584472005606306:0=0:=rfl
theorem tw14133245653564131266:0=0:=rfl
theorem tw4273134794357264322:0=0:=rfl
theorem tw7553067067931855939:0=0:=rfl
theorem tw17784789997159191651:0=0:=rfl
theorem tw1354530662420713603:0=0:=rfl
theorem tw18419593088242799747:0=0:=rfl
theorem tw15312984519188416739:0=0:=rfl
theorem tw4309943387289405763:0=0:=rfl
theorem tw13134522979352192355:0=0:=rfl
theorem tw13519869574985559555:0=0:=rfl
theorem tw472159785594649091:0=0:=rfl
theorem tw2742798888362771011:0=0:=rfl
theorem tw5746961149437850211:0=0:=rfl
theorem tw17869706550588007043:0=0:=rfl
theorem tw1860268677706400419:0=0:=rfl
theorem tw2490338950764703587:0=0:=rfl
theorem tw9317555716786744259:0=0:=rfl
theorem tw4856465640167358435:0=0:=rfl
theorem tw10788419390787775459:0=0:=rfl
theorem tw15843618882085030916:0=0:=rfl
theorem tw15806175444336126980:0=0:=rfl
theorem tw6865433855863800836:0=0:=rfl
theorem tw17856597048168834052:0=0:=rfl
theorem tw7086053268515392548:0=0:=rfl
theorem tw17581396678276154436:0=0:=rfl
theorem tw2725718355219225700:0=0:=rfl
theorem tw11365177450740032612:0=0:=rfl
theorem tw11616073095009803492:0=0:=rfl
theorem tw10447718984577829092:0=0:=rfl
theorem tw18129428320559864164:0=0:=rfl
theorem tw13841002662630206948:0=0:=rfl
theorem tw832107172048332260:0=0:=rfl
theorem tw8720373635599405604:0=0:=rfl
theorem tw9413936822291852868:0=0:=rfl
theorem tw17252776782502533732:0=0:=rfl
theorem tw9208114247903907460:0=0:=rfl
theorem tw2734183027301405316:0=0:=rfl
theorem tw9855027943264117412:0=0:=rfl
theorem tw14494150947715051172:0=0:=rfl
theorem tw4157319843879818980:0=0:=rfl
theorem tw12985606297258353476:0=0:=rfl
theorem tw5310065788114027364:0=0:=rfl
theorem tw820424352796045252:0=0:=rfl
theorem tw8522765784510603269:0=0:=rfl
theorem tw17384653216111026181:0=0:=rfl
theorem tw2311717638383175717:0=0:=rfl
theorem tw8308949538476621957:0=0:=rfl
theorem tw3191947209486827813:0=0:=rfl
theorem tw3849998438526143845:0=0:=rfl
theorem tw12614675282450536005:0=0:=rfl
theorem tw12176660737202273957:0=0:=rfl
theorem tw16944648249070411461:0=0:=rfl
theorem tw3857643455604185861:0=0:=rfl
theorem tw6076510461249162021:0=0:=rfl
theorem tw16822149845214837541:0=0:=rfl
theorem tw7802234185123138405:0=0:=rfl
theorem tw9572507615424296933:0=0:=rfl
theorem tw14658052014101326854:0=0:=rfl
theorem tw3580618701563163654:0=0:=rfl
theorem tw5221178497168056390:0=0:=rfl
theorem tw18311104137952754758:0=0:=rfl
theorem tw8856567622708424870:0=0:=rfl
theorem tw12508830578058403014:0=0:=rfl
theorem tw11228845147085753542:0=0:=rfl
theorem tw13311720518536163622:0=0:=rfl
theorem tw6399220430986141030:0=0:=rfl
theorem tw4014333339094478182:0=0:=rfl
theorem tw9747858748441302406:0=0:=rfl
theorem tw1597757026510254470:0=0:=rfl
theorem tw14874176611355669926:0=0:=rfl
theorem tw8453675832018591142:0=0:=rfl
theorem tw6906449095492575686:0=0:=rfl
theorem tw17313215948378663366:0=0:=rfl
theorem tw17714846134316477062:0=0:=rfl
theorem tw15971466600833219206:0=0:=rfl
theorem tw829213199928376998:0=0:=rfl
theorem tw6064248395424196294:0=0:=rfl
theorem tw14332588976487525094:0=0:=rfl
theorem tw7126340946628145894:0=0:=rfl
theorem tw18423943930994756390:0=0:=rfl
theorem tw15367895736659737382:0=0:=rfl
theorem tw11149581393980158790:0=0:=rfl
theorem tw17553935830258198406:0=0:=rfl
theorem tw13246263742281586855:0=0:=rfl
theorem tw12248527306145439047:0=0:=rfl
theorem tw12808179200218989927:0=0:=rfl
theorem tw5194866949613980007:0=0:=rfl
theorem tw4626306575849542087:0=0:=rfl
theorem tw15492497465623422439:0=0:=rfl
theorem tw1071041905189583335:0=0:=rfl
theorem tw10877446230641815047:0=0:=rfl
theorem tw10699223533736744519:0=0:=rfl
theorem tw7805077122515627591:0=0:=rfl
theorem tw9954983733028822631:0=0:=rfl
theorem tw16782351467843442407:0=0:=rfl
theorem tw7878283865360707335:0=0:=rfl
theorem tw13770951110400102215:0=0:=rfl
theorem tw11114041374512567143:0=0:=rfl
theorem tw2865740387195524039:0=0:=rfl
theorem tw2152079386707076039:0=0:=rfl
theorem tw1461263377288881224:0=0:=rfl
theorem tw9762020760468864104:0=0:=rfl
theorem tw9530013590136521896:0=0:=rfl
theorem tw8436526325312549032:0=0:=rfl
theorem tw10614060394151151816:0=0:=rfl
theorem tw5241154202341717192:0=0:=rfl
theorem tw14553969433921562856:0=0:=rfl
theorem tw17096359095912360200:0=0:=rfl
theorem tw7058419317654601096:0=0:=rfl
theorem tw15162784428476214824:0=0:=rfl
theorem tw2346026009054793256:0=0:=rfl
theorem tw17906032718303058472:0=0:=rfl
theorem tw7013300352950921800:0=0:=rfl
theorem tw17001471788554553992:0=0:=rfl
theorem tw7812431926747321992:0=0:=rfl
theorem tw9522708285147750120:0=0:=rfl
theorem tw6876016755616403176:0=0:=rfl
theorem tw13283340319950363368:0=0:=rfl
theorem tw54283857589035816:0=0:=rfl
theorem tw16082529092465941448:0=0:=rfl
theorem tw13434805908297919464:0=0:=rfl
theorem tw8336076424874823689:0=0:=rfl
theorem tw656401675874803785:0=0:=rfl
theorem tw5575090801429063817:0=0:=rfl
theorem tw14934411846246536361:0=0:=rfl
theorem tw16693932540122557641:0=0:=rfl
theorem tw11742098583956748489:0=0:=rfl
theorem tw14251184303298102505:0=0:=rfl
theorem tw12568487434071721257:0=0:=rfl
theorem tw18126706368773248297:0=0:=rfl
theorem tw4463419387930616233:0=0:=rfl
theorem tw3693002943353451977:0=0:=rfl
theorem tw12575810837777561065:0=0:=rfl
theorem tw16497622549944469033:0=0:=rfl
theorem tw13232180376460073513:0=0:=rfl
theorem tw18236486655820743369:0=0:=rfl
theorem tw2791232166848667369:0=0:=rfl
theorem tw13099176609624973033:0=0:=rfl
theorem tw11051529192230309641:0=0:=rfl
theorem tw1206146213035934569:0=0:=rfl
theorem tw11608789478598361961:0=0:=rfl
theorem tw2739665701183000682:0=0:=rfl
theorem tw15573356555723162730:0=0:=rfl
theorem tw18412724553206930570:0=0:=rfl
theorem tw18210038746447459466:0=0:=rfl
theorem tw8768270544379697354:0=0:=rfl
theorem tw5143239781958447306:0=0:=rfl
theorem tw15762600458337096938:0=0:=rfl
theorem tw10705434217811191018:0=0:=rfl
theorem tw16702807247223619882:0=0:=rfl
theorem tw724269899925232970:0=0:=rfl
theorem tw165685094137370090:0=0:=rfl
theorem tw14793213161861347850:0=0:=rfl
theorem tw6363258425863041610:0=0:=rfl
theorem tw10831889180211445354:0=0:=rfl
theorem tw4027273061605648202:0=0:=rfl
theorem tw9106873010501995402:0=0:=rfl
theorem tw3201364799692944330:0=0:=rfl
theorem tw16543662009460583435:0=0:=rfl
theorem tw150821386230128715:0=0:=rfl
theorem tw6716289364342761547:0=0:=rfl
theorem tw16763507464087831691:0=0:=rfl
theorem tw7498580429364432011:0=0:=rfl
theorem tw7886028124553148555:0=0:=rfl
theorem tw11370293006759865515:0=0:=rfl
theorem tw8465288880528553131:0=0:=rfl
theorem tw10615637171777578187:0=0:=rfl
theorem tw13390098639446157547:0=0:=rfl
theorem tw12050405860715888907:0=0:=rfl
theorem tw1231531124036217099:0=0:=rfl
theorem tw15085200140659774731:0=0:=rfl
theorem tw5451573286890932523:0=0:=rfl
theorem tw5897870274494851371:0=0:=rfl
theorem tw5322916896762464587:0=0:=rfl
theorem tw4876651399547557195:0=0:=rfl
theorem tw7679819096109617515:0=0:=rfl
theorem tw15453527035635949995:0=0:=rfl
theorem tw7673625060434565579:0=0:=rfl
theorem tw8368392238023358027:0=0:=rfl
theorem tw16063670538153051755:0=0:=rfl
theorem tw8800725611817892523:0=0:=rfl
theorem tw1569621824892065483:0=0:=rfl
theorem tw8939983467812477867:0=0:=rfl
theorem tw4306269504179574731:0=0:=rfl
theorem tw2589858187863169995:0=0:=rfl
theorem tw3754527720259131404:0=0:=rfl
theorem tw9181077116849094700:0=0:=rfl
theorem tw10102910070744177772:0=0:=rfl
theorem tw10948461174298130572:0=0:=rfl
theorem tw17732572396522513644:0=0:=rfl
theorem tw16436024534297771308:0=0:=rfl
theorem tw5902196337051421036:0=0:=rfl
theorem tw11703893412744976780:0=0:=rfl
theorem tw7156549677946468748:0=0:=rfl
theorem tw9789755771927277004:0=0:=rfl
theorem tw15634806005456726476:0=0:=rfl
theorem tw882196944812656140:0=0:=rfl
theorem tw1179540663717572172:0=0:=rfl
theorem tw14748575458444809836:0=0:=rfl
theorem tw9844740454093810284:0=0:=rfl
theorem tw12867849549783602828:0=0:=rfl
theorem tw7382085638166166156:0=0:=rfl
theorem tw14033375065150623404:0=0:=rfl
theorem tw6285367192253486828:0=0:=rfl
theorem tw18407376184672719628:0=0:=rfl
theorem tw15727249668512127756:0=0:=rfl
theorem tw12838436571055431436:0=0:=rfl
theorem tw408137175877317388:0=0:=rfl
theorem tw9280440488949663532:0=0:=rfl
theorem tw10476830334323953484:0=0:=rfl
theorem tw4696760704716332908:0=0:=rfl
theorem tw2977792671030059916:0=0:=rfl
theorem tw16139484076836983788:0=0:=rfl
theorem tw16769053210367816749:0=0:=rfl
theorem tw17380733139843601549:0=0:=rfl
theorem tw17444668453559189677:0=0:=rfl
theorem tw18195736288804972749:0=0:=rfl
theorem tw1473149402216625389:0=0:=rfl
theorem tw16243694309004758381:0=0:=rfl
theorem tw15910811761903559021:0=0:=rfl
theorem tw16543232494355928461:0=0:=rfl
theorem tw15279751588732894605:0=0:=rfl
theorem tw17740018039485435405:0=0:=rfl
theorem tw3204322211099940365:0=0:=rfl
theorem tw12422172624241342989:0=0:=rfl
theorem tw11282130807148324397:0=0:=rfl
theorem tw16591688564249716269:0=0:=rfl
theorem tw9730290377732169325:0=0:=rfl
theorem tw16987066622178559661:0=0:=rfl
theorem tw10982812725429925549:0=0:=rfl
theorem tw9639184055582526221:0=0:=rfl
theorem tw2720929385416676109:0=0:=rfl
theorem tw15573668253820733229:0=0:=rfl
theorem tw15396193269309660973:0=0:=rfl
theorem tw5507383470226363277:0=0:=rfl
theorem tw6754212800295540653:0=0:=rfl
theorem tw17732886732854810541:0=0:=rfl
theorem tw1282306234820712526:0=0:=rfl
theorem tw2225990459061836910:0=0:=rfl
theorem tw1324707596439582862:0=0:=rfl
theorem tw11999562880257679534:0=0:=rfl
theorem tw1790881558175787214:0=0:=rfl
theorem tw13290489041619842254:0=0:=rfl
theorem tw18119332548897688846:0=0:=rfl
theorem tw14778272375565734254:0=0:=rfl
theorem tw2039662900878058926:0=0:=rfl
theorem tw8398801598709104110:0=0:=rfl
theorem tw7220003040674012686:0=0:=rfl
theorem tw5601104481878937134:0=0:=rfl
theorem tw15444841570002014798:0=0:=rfl
theorem tw7154162209131848270:0=0:=rfl
theorem tw5437269073136008814:0=0:=rfl
theorem tw13545321210353009262:0=0:=rfl
theorem tw704618904876013262:0=0:=rfl
theorem tw14765306538039317230:0=0:=rfl
theorem tw7805945873218065262:0=0:=rfl
theorem tw9352750239841124270:0=0:=rfl
theorem tw14079332468281239534:0=0:=rfl
theorem tw4315332740080632911:0=0:=rfl
theorem tw8920950425906691183:0=0:=rfl
theorem tw18058325517473393807:0=0:=rfl
theorem tw6403063060147711119:0=0:=rfl
theorem tw18110636389199674607:0=0:=rfl
theorem tw6233612279961018639:0=0:=rfl
theorem tw14465993233538916655:0=0:=rfl
theorem tw17911858903031063855:0=0:=rfl
theorem tw4386408244807925103:0=0:=rfl
theorem tw17614852778222553487:0=0:=rfl
theorem tw15961955779567234543:0=0:=rfl
theorem tw1434233773453379151:0=0:=rfl
theorem tw11222260747110854319:0=0:=rfl
theorem tw931959328001474287:0=0:=rfl
theorem tw16152673139207817039:0=0:=rfl
theorem tw12153394053892872047:0=0:=rfl
theorem tw1748954674086865775:0=0:=rfl
theorem tw4330369515442302863:0=0:=rfl
theorem tw16675243884590077935:0=0:=rfl
theorem tw11579546882132130896:0=0:=rfl
theorem tw6806628280336448592:0=0:=rfl
theorem tw11253287031259024496:0=0:=rfl
theorem tw9917786504671089872:0=0:=rfl
theorem tw6591459378934275344:0=0:=rfl
theorem tw15828011624660226352:0=0:=rfl
theorem tw10046647450160602512:0=0:=rfl
theorem tw3224724072773757424:0=0:=rfl
theorem tw11313493299251823120:0=0:=rfl
theorem tw13790900376967408176:0=0:=rfl
theorem tw5285445544401152656:0=0:=rfl
theorem tw17474440197622373072:0=0:=rfl
theorem tw181353007085551312:0=0:=rfl
theorem tw9141690321329987312:0=0:=rfl
theorem tw14053879954692855536:0=0:=rfl
theorem tw7535915521989740304:0=0:=rfl
theorem tw4938379027158391632:0=0:=rfl
theorem tw17612122117449273232:0=0:=rfl
theorem tw9540761800247777232:0=0:=rfl
theorem tw13897481528884210640:0=0:=rfl
theorem tw13881217425300474832:0=0:=rfl
theorem tw8398760451995322385:0=0:=rfl
theorem tw15510127826090087537:0=0:=rfl
theorem tw17214799169420490865:0=0:=rfl
theorem tw14795672433327176817:0=0:=rfl
theorem tw13159759005340385425:0=0:=rfl
theorem tw3314181652126198929:0=0:=rfl
theorem tw13361754940647993489:0=0:=rfl
theorem tw12670192021909762193:0=0:=rfl
theorem tw12702229444349284529:0=0:=rfl
theorem tw1103945398228335889:0=0:=rfl
theorem tw2672369037691329841:0=0:=rfl
theorem tw17495307605348082001:0=0:=rfl
theorem tw8841160260494261585:0=0:=rfl
theorem tw16229412921290129905:0=0:=rfl
theorem tw11314858985471515185:0=0:=rfl
theorem tw4274030885200339633:0=0:=rfl
theorem tw7369038252735240977:0=0:=rfl
theorem tw3437453784177522513:0=0:=rfl
theorem tw16045187346891751313:0=0:=rfl
theorem tw11811975909130163089:0=0:=rfl
theorem tw1649021809087409:0=0:=rfl
theorem tw10955497796842047441:0=0:=rfl
theorem tw14945344732163216466:0=0:=rfl
theorem tw16144273156630236242:0=0:=rfl
theorem tw5070909841632304242:0=0:=rfl
theorem tw746439020148140146:0=0:=rfl
theorem tw544519822157474962:0=0:=rfl
theorem tw17254531179851430130:0=0:=rfl
theorem tw8032810897095687442:0=0:=rfl
theorem tw15599603832653769042:0=0:=rfl
theorem tw6936573341438497138:0=0:=rfl
theorem tw14442093782397173234:0=0:=rfl
theorem tw5071649154623235570:0=0:=rfl
theorem tw15366601075651247602:0=0:=rfl
theorem tw9581399395858422290:0=0:=rfl
theorem tw9229480876110892626:0=0:=rfl
theorem tw17478229316156391026:0=0:=rfl
theorem tw9293488295927646866:0=0:=rfl
theorem tw6860409903131727506:0=0:=rfl
theorem tw18254227800639812242:0=0:=rfl
theorem tw17531552265112547122:0=0:=rfl
theorem tw6744652977314069298:0=0:=rfl
theorem tw1233058996666718034:0=0:=rfl
theorem tw10019986645078490994:0=0:=rfl
theorem tw16873118855922900914:0=0:=rfl
theorem tw17372925771448579091:0=0:=rfl
theorem tw5830945874062706963:0=0:=rfl
theorem tw15268272658151556499:0=0:=rfl
theorem tw10199873007194752435:0=0:=rfl
theorem tw9033471662566776275:0=0:=rfl
theorem tw12193931815912034771:0=0:=rfl
theorem tw11181568327219702227:0=0:=rfl
theorem tw9267462458297686515:0=0:=rfl
theorem tw1460015480769449491:0=0:=rfl
theorem tw5855341438460796467:0=0:=rfl
theorem tw11911445910465480307:0=0:=rfl
theorem tw8264320281746349779:0=0:=rfl
theorem tw18366046378007553747:0=0:=rfl
theorem tw9553997532987896563:0=0:=rfl
theorem tw4431642022241285907:0=0:=rfl
theorem tw6506128229476670323:0=0:=rfl
theorem tw13655228464224807795:0=0:=rfl
theorem tw3704485071487523699:0=0:=rfl
theorem tw16235512005648202643:0=0:=rfl
theorem tw7736453004566906771:0=0:=rfl
theorem tw7196469003281612723:0=0:=rfl
theorem tw4327379308241878963:0=0:=rfl
theorem tw13776462905686539284:0=0:=rfl
theorem tw12118226594775390420:0=0:=rfl
theorem tw9618239977302886676:0=0:=rfl
theorem tw11158461454806532404:0=0:=rfl
theorem tw11191960855332049268:0=0:=rfl
theorem tw12795783849703121268:0=0:=rfl
theorem tw7679054043822388692:0=0:=rfl
theorem tw3591191781017656884:0=0:=rfl
theorem tw194328719997537908:0=0:=rfl
theorem tw18376718212308412116:0=0:=rfl
theorem tw10421460523589413588:0=0:=rfl
theorem tw7675124724617508628:0=0:=rfl
theorem tw1007169722316542772:0=0:=rfl
theorem tw17346007657746533236:0=0:=rfl
theorem tw11536726774263801748:0=0:=rfl
theorem tw9185775164467452949:0=0:=rfl
theorem tw10059286621058394229:0=0:=rfl
theorem tw8881577235264946357:0=0:=rfl
theorem tw7822609531352160469:0=0:=rfl
theorem tw5625816446419190005:0=0:=rfl
theorem tw7738883919074460085:0=0:=rfl
theorem tw2854876696982790581:0=0:=rfl
theorem tw18223352777090442677:0=0:=rfl
theorem tw2166541103589224917:0=0:=rfl
theorem tw1552989205777511125:0=0:=rfl
theorem tw4860714194781554421:0=0:=rfl
theorem tw2603633416510576437:0=0:=rfl
theorem tw10881980112744230709:0=0:=rfl
theorem tw9031752664094901077:0=0:=rfl
theorem tw14424974823044295509:0=0:=rfl
theorem tw16939832387272640405:0=0:=rfl
theorem tw2811575691914216405:0=0:=rfl
theorem tw13159518613005341718:0=0:=rfl
theorem tw18340917889578288150:0=0:=rfl
theorem tw11467602167711894:0=0:=rfl
theorem tw9343974809579263158:0=0:=rfl
theorem tw6298799442520754390:0=0:=rfl
theorem tw11764661696222841078:0=0:=rfl
theorem tw14242542615036391670:0=0:=rfl
theorem tw4783100248193105142:0=0:=rfl
theorem tw14108895693749723542:0=0:=rfl
theorem tw5006052000825851382:0=0:=rfl
theorem tw15206756617320338966:0=0:=rfl
theorem tw814002806218451542:0=0:=rfl
theorem tw1848180055162700406:0=0:=rfl
theorem tw16194970394131625590:0=0:=rfl
theorem tw7906542992203635414:0=0:=rfl
theorem tw11152788458765976438:0=0:=rfl
theorem tw1806499125499518838:0=0:=rfl
theorem tw3212820922447209366:0=0:=rfl
theorem tw16084652371194529782:0=0:=rfl
theorem tw16079747454289221687:0=0:=rfl
theorem tw6333372927833315479:0=0:=rfl
theorem tw13239307993203552407:0=0:=rfl
theorem tw6245811397256025271:0=0:=rfl
theorem tw6921506075361649911:0=0:=rfl
theorem tw12760328949873016183:0=0:=rfl
theorem tw17135801084926430615:0=0:=rfl
theorem tw11021109890102433175:0=0:=rfl
theorem tw4272394832704809399:0=0:=rfl
theorem tw13201538861226806839:0=0:=rfl
theorem tw15728373844346639031:0=0:=rfl
theorem tw15366222656763940567:0=0:=rfl
theorem tw9389165374421712631:0=0:=rfl
theorem tw6427907592990426967:0=0:=rfl
theorem tw3762252163318186999:0=0:=rfl
theorem tw4507079721390109720:0=0:=rfl
theorem tw4113271628406361304:0=0:=rfl
theorem tw14050682686773582168:0=0:=rfl
theorem tw15005990455082151288:0=0:=rfl
theorem tw2745221111471642008:0=0:=rfl
theorem tw17355424539744852376:0=0:=rfl
theorem tw12164297233716818360:0=0:=rfl
theorem tw3770625603948565944:0=0:=rfl
theorem tw2552830744071921080:0=0:=rfl
theorem tw13490746355676488152:0=0:=rfl
theorem tw7097383823728158200:0=0:=rfl
theorem tw11977085312021810680:0=0:=rfl
theorem tw13584406206616336952:0=0:=rfl
theorem tw10565946365843446360:0=0:=rfl
theorem tw6864275138860175960:0=0:=rfl
theorem tw7723884617087284824:0=0:=rfl
theorem tw5447164145614247544:0=0:=rfl
theorem tw7136966613613180632:0=0:=rfl
theorem tw4687381377521721176:0=0:=rfl
theorem tw8336737816706990936:0=0:=rfl
theorem tw18355196356922010456:0=0:=rfl
theorem tw5779481913643079544:0=0:=rfl
theorem tw5764521677230591992:0=0:=rfl
theorem tw1882750043833260057:0=0:=rfl
theorem tw12645934237782769721:0=0:=rfl
theorem tw3342428097120372857:0=0:=rfl
theorem tw3251765084945615033:0=0:=rfl
theorem tw10822956308789332217:0=0:=rfl
theorem tw15178349945467358489:0=0:=rfl
theorem tw1368176593723164985:0=0:=rfl
theorem tw6005517970601918841:0=0:=rfl
theorem tw17107369594922035577:0=0:=rfl
theorem tw16316377296396169657:0=0:=rfl
theorem tw663604110283696569:0=0:=rfl
theorem tw7398384310917017081:0=0:=rfl
theorem tw7631732878832727609:0=0:=rfl
theorem tw13337686284750972505:0=0:=rfl
theorem tw7539197847421952633:0=0:=rfl
theorem tw4076166693719793273:0=0:=rfl
theorem tw11360909163779892889:0=0:=rfl
theorem tw15333704798956449433:0=0:=rfl
theorem tw11859041847425716921:0=0:=rfl
theorem tw12101141901781069529:0=0:=rfl
theorem tw9865533922710378233:0=0:=rfl
theorem tw2978747268944650041:0=0:=rfl
theorem tw18030302039626674009:0=0:=rfl
theorem tw16929590872006652825:0=0:=rfl
theorem tw10013914770123967417:0=0:=rfl
theorem tw13304123315743596570:0=0:=rfl
theorem tw4959282600938605722:0=0:=rfl
theorem tw9363112902586736794:0=0:=rfl
theorem tw2659095522369701082:0=0:=rfl
theorem tw4230471427685723354:0=0:=rfl
theorem tw15967712905169496314:0=0:=rfl
theorem tw616985604567112986:0=0:=rfl
theorem tw841869271179768090:0=0:=rfl
theorem tw7938816681207236922:0=0:=rfl
theorem tw9529740725680125242:0=0:=rfl
theorem tw7553650965350701370:0=0:=rfl
theorem tw8580690864294869338:0=0:=rfl
theorem tw10762519792609389914:0=0:=rfl
theorem tw2561082209124898234:0=0:=rfl
theorem tw2353406084556679642:0=0:=rfl
theorem tw6801517353081670202:0=0:=rfl
theorem tw5893115241445095002:0=0:=rfl
theorem tw3021929256262337210:0=0:=rfl
theorem tw2367405932287786746:0=0:=rfl
theorem tw937660414857499450:0=0:=rfl
theorem tw10346089733040977786:0=0:=rfl
theorem tw6172509046779264986:0=0:=rfl
theorem tw5480915243221577755:0=0:=rfl
theorem tw17727952232240686139:0=0:=rfl
theorem tw1726461876943707195:0=0:=rfl
theorem tw1202298621063289947:0=0:=rfl
theorem tw14666557186464029883:0=0:=rfl
theorem tw3960377297578861915:0=0:=rfl
theorem tw13431424066753444251:0=0:=rfl
theorem tw2042663817555002843:0=0:=rfl
theorem tw11421941457227267579:0=0:=rfl
theorem tw17488719800702193179:0=0:=rfl
theorem tw476951206833209947:0=0:=rfl
theorem tw11848025595754725051:0=0:=rfl
theorem tw193999277817632539:0=0:=rfl
theorem tw4897993964155895579:0=0:=rfl
theorem tw11497477981202245467:0=0:=rfl
theorem tw14644809191279131579:0=0:=rfl
theorem tw15233756936653396987:0=0:=rfl
theorem tw10676056113322383452:0=0:=rfl
theorem tw2011258552903325852:0=0:=rfl
theorem tw13704331852551233788:0=0:=rfl
theorem tw5658112063027080444:0=0:=rfl
theorem tw18263015917820456252:0=0:=rfl
theorem tw7758113439145375036:0=0:=rfl
theorem tw11717876968335818140:0=0:=rfl
theorem tw18155076082377246204:0=0:=rfl
theorem tw12670675861810541276:0=0:=rfl
theorem tw1766277532240155388:0=0:=rfl
theorem tw4871653071698318108:0=0:=rfl
theorem tw1187346246049430300:0=0:=rfl
theorem tw6907844877876490044:0=0:=rfl
theorem tw15769336371772874588:0=0:=rfl
theorem tw2044815854822084508:0=0:=rfl
theorem tw12381476615682671612:0=0:=rfl
theorem tw13494586195380328444:0=0:=rfl
theorem tw17798150801247413437:0=0:=rfl
theorem tw2573235172706498781:0=0:=rfl
theorem tw5117906944093661437:0=0:=rfl
theorem tw18363428160389111069:0=0:=rfl
theorem tw1543589840201931069:0=0:=rfl
theorem tw17250209045371688349:0=0:=rfl
theorem tw9111801931603447229:0=0:=rfl
theorem tw6105462779836675517:0=0:=rfl
theorem tw5985116705521960413:0=0:=rfl
theorem tw11448485710645833181:0=0:=rfl
theorem tw6162598722608953917:0=0:=rfl
theorem tw5049140341534802525:0=0:=rfl
theorem tw5760824109179455069:0=0:=rfl
theorem tw9253551780446784093:0=0:=rfl
theorem tw2064023995209486045:0=0:=rfl
theorem tw9077101417570615133:0=0:=rfl
theorem tw8367592790448120829:0=0:=rfl
theorem tw9758887689690648638:0=0:=rfl
theorem tw15668225157236106334:0=0:=rfl
theorem tw5329629645143395422:0=0:=rfl
theorem tw7026392451061154942:0=0:=rfl
theorem tw1132019075895824510:0=0:=rfl
theorem tw15550920854528244862:0=0:=rfl
theorem tw4723527935967564958:0=0:=rfl
theorem tw9027717423075400926:0=0:=rfl
theorem tw10614975263454939358:0=0:=rfl
theorem tw6257397655095236830:0=0:=rfl
theorem tw12015889127890417918:0=0:=rfl
theorem tw4982654955314094462:0=0:=rfl
theorem tw9460565876401812894:0=0:=rfl
theorem tw11469116438370823614:0=0:=rfl
theorem tw7860539052200576446:0=0:=rfl
theorem tw8858374945413157342:0=0:=rfl
theorem tw11922359358874866174:0=0:=rfl
theorem tw2033299824288290334:0=0:=rfl
theorem tw3883447689433782846:0=0:=rfl
theorem tw10333209821647755902:0=0:=rfl
theorem tw365945283091121854:0=0:=rfl
theorem tw8882732514003633886:0=0:=rfl
theorem tw16607465594963518270:0=0:=rfl
theorem tw8954782040930553726:0=0:=rfl
theorem tw12673942310404619134:0=0:=rfl
theorem tw13416358181528410078:0=0:=rfl
theorem tw2040112873007426687:0=0:=rfl
theorem tw9213800913663691935:0=0:=rfl
theorem tw7884842043135746271:0=0:=rfl
theorem tw305198906450367743:0=0:=rfl
theorem tw2644457589816006943:0=0:=rfl
theorem tw91408011037845855:0=0:=rfl
theorem tw12096620748804774239:0=0:=rfl
theorem tw13156900445658937727:0=0:=rfl
theorem tw12283978376317779391:0=0:=rfl
theorem tw16676685873131169279:0=0:=rfl
theorem tw14034984060888711711:0=0:=rfl
theorem tw4299924323581681215:0=0:=rfl
theorem tw13111288317759806047:0=0:=rfl
theorem tw4747227974299310687:0=0:=rfl
theorem tw2261670451098103519:0=0:=rfl
theorem tw6405512775024665471:0=0:=rfl
theorem tw14898133877782732258:0=0:=rfl
end PySem.Challenge.cw_bitbus_k20_whole_least_first_holds
open PySem PySem.W PyProof.Rows
set_option maxRecDepth 100000 in
set_option maxHeartbeats 0 in
theorem PySem.Challenge.cw_bitbus_k20_whole_least_first_holds : PySem.Challenge.rw_bitbus_k20_whole_least_first.Holds := by
 w_on;o_law;k_head;(case hw=>w_witness2)
 k_fill
 refine BB.walk (l:=PySem.Challenge.rw_bitbus_k20_whole_least_first) rfl rfl (fun w h Y=>PySem.W.kIn_of Y) ?F
 case F=>
  intro w mg fa h KX G hmg
  refine BB.law_fn hmg ?_
  refine' BB.txt_mk KX G ?_ ?_ ?_ ?_ ?_ ?_ ?_ ?_ ?_ ?_ ?_ ?_ ?_ ?_ ?_ ?_ ?_ ?_ ?_ ?_ ?_ ?_ ?_ ?_ ?_ ?_ ?_ ?_ ?_ ?_ ?_ ?_ ?_ ?_ ?_ ?_ ?_ ?_ ?_ ?_ ?_ ?_ ?_ ?_ ?_ ?_ ?_ ?_ ?_ ?_ ?_ ?_ ?_ ?_ ?_ ?_ ?_ ?_ ?_ ?_ ?_ ?_ ?_ ?_ ?_ ?_ ?_ ?_ ?_ ?_ ?_ ?_ ?_ ?_ ?_ ?_ ?_ ?_ ?_ ?_ ?_ ?_ ?_ ?_ ?_ ?_ ?_ ?_ ?_ ?_ ?_ ?_ ?_ ?_ ?_ ?_ ?_ ?_ ?_ ?_ ?_ ?_ ?_ ?_ ?_ ?_ ?_ ?_ ?_ ?_ ?_ ?_ ?_ ?_ ?_ ?_ ?_ ?_ ?_ ?_ ?_ ?_ ?_ ?_ ?_ ?_ ?_ ?_ ?_ ?_ ?_ ?_ ?_ ?_ ?_ ?_ ?_ ?_ ?_ ?_ ?_ ?_ ?_ ?_ ?_ ?_ ?_ ?_ ?_ ?_ ?_ ?_ ?_ ?_ ?_ ?_ ?_ ?_ ?_ ?_ ?_ ?_ ?_ ?_ ?_ ?_ ?_ ?_ ?_ ?_ ?_ ?_ ?_ ?_ ?_ ?_ ?_ ?_ ?_ ?_ ?_ ?_ ?_ ?_ ?_ ?_ ?_ ?_ ?_ ?_ ?_ ?_ ?_ ?_ ?_ ?_ ?_ ?_ ?_ ?_ ?_ ?_ ?_ ?_ ?_ ?_ ?_ ?_ ?_ ?_ ?_ ?_ ?_ ?_ ?_ ?_ ?_ ?_ ?_ ?_ ?_ ?y118 ?x119 ?_ ?_ ?_ ?_ ?_ ?_ ?_ ?_ ?x122 ?_ ?_ ?_ ?_ ?_ ?_ ?_ ?_ ?y125 ?y126 ?y127 ?y128 ?y129 ?y130 ?y131 ?y132 ?y133 ?_ ?_ ?_
  all_goals first | k_is | exact BB.fd_mk (by k_is) (by k_is) (by k_is) | skip
  (case y118=>kit_is)
  (case x119=>k_exc)
  (case x122=>k_exc)
  (case y125=>kit_is)
  (case y126=>kit_is)
  (case y127=>kit_is)
  (case y128=>kit_is)
  (case y129=>kit_is)
  (case y130=>kit_is)
  (case y131=>kit_is)
  (case y132=>kit_is)
  (case y133=>kit_is)
