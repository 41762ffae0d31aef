import PyProof.Rows.All
import Wide.All
import OpenK.AllK
import Wide.FinOn
import PyProof.EqAt
import PyProof.EqKinds
import PyProof.TupleCall
import KE.BitLaws
import Open.SpecLaws
import KE.OsHead
import KE.OsGo
import PyProof.FactsAll.int_6
import PyProof.AutoIntG2
import KE.IntBitsLaws
import KE.LcSums
import PyRd20
import PySem.Challenge.RW_ringreckon_s01_answers
set_option Elab.async false
set_option linter.all false
set_option maxRecDepth 100000
set_option maxHeartbeats 0
section
namespace L2
open PySem PySem.Spec PyProof.Rows
abbrev Key := Sum Int Str
def keyIs : Key → Value → Bool
 | .inl k,v => Value.isInt k v
 | .inr x,v => Value.isStrOf x v
def keyH (w : World) : Key → Int
 | .inl k => hashInt k
 | .inr x => hashStr w x
theorem keyIs_shape : ∀ {k : Key} {v : Value},keyIs k v = true → (∃ i t,k = Sum.inl i ∧ v = Value.int i t) ∨ (∃ x t,k = Sum.inr x ∧ v = Value.str x t)
 | .inl i,v,h => by
  obtain ⟨t,e⟩ := Value.isInt_shape (k := i) (v := v) h
  exact .inl ⟨i,t,rfl,e⟩
 | .inr x,v,h => by
  obtain ⟨t,e⟩ := Value.isStrOf_shape (x := x) (v := v) h
  exact .inr ⟨x,t,rfl,e⟩
theorem keyIs_int (i : Int) (t : Tok) : keyIs (.inl i) (.int i t) = true := by simp [keyIs,Value.isInt]
theorem key_ll (a b : Int) : decide ((Sum.inl a : Key) = Sum.inl b) = (a == b) := by
 by_cases e : a = b
 ·subst e; simp
 ·have h : ¬ (Sum.inl a : Key) = Sum.inl b := fun q => e (Sum.inl.inj q)
  rw [decide_eq_false h]
  exact (beq_eq_false_iff_ne.mpr e).symm
theorem key_rr (a b : Str) : decide ((Sum.inr a : Key) = Sum.inr b) = decide (a = b) := by
 by_cases e : a = b
 ·subst e; simp
 ·have h : ¬ (Sum.inr a : Key) = Sum.inr b := fun q => e (Sum.inr.inj q)
  rw [decide_eq_false h,decide_eq_false e]
theorem key_lr (a : Int) (b : Str) : decide ((Sum.inl a : Key) = Sum.inr b) = false := decide_eq_false (fun q => nomatch q)
theorem key_rl (a : Str) (b : Int) : decide ((Sum.inr a : Key) = Sum.inl b) = false := decide_eq_false (fun q => nomatch q)
def mixKind (prog : Program) (w : World) : PySem.KeyKind prog w Key where
 is := keyIs
 hash := keyH w
 inj := fun v a b ha hb => by
  rcases keyIs_shape ha with ⟨i,t,rfl,rfl⟩ | ⟨x,t,rfl,rfl⟩
  ·rcases keyIs_shape hb with ⟨j,u,rfl,e⟩ | ⟨y,u,rfl,e⟩
   ·injection e with e1 _; rw [e1]
   ·exact nomatch e
  ·rcases keyIs_shape hb with ⟨j,u,rfl,e⟩ | ⟨y,u,rfl,e⟩
   ·exact nomatch e
   ·injection e with e1 _; rw [e1]
 byValue := fun k v h => by
  rcases keyIs_shape h with ⟨i,t,rfl,rfl⟩ | ⟨x,t,rfl,rfl⟩ <;> rfl
 pyHash := fun hv h => by
  rcases keyIs_shape hv with ⟨i,t,rfl,rfl⟩ | ⟨x,t,rfl,rfl⟩
  ·exact wpAny_pyHash_int h
  ·exact wpAny_pyHash_str h
 eqBool := fun hu hv h => by
  rcases keyIs_shape hu with ⟨i,t,rfl,rfl⟩ | ⟨x,t,rfl,rfl⟩
  ·rcases keyIs_shape hv with ⟨j,u,rfl,rfl⟩ | ⟨y,u,rfl,rfl⟩
   ·rw [key_ll] at h; exact wpAny_eqBool_int h
   ·rw [key_lr] at h; exact SeqAt.EqAt.int_str i t y u _ _ _ _ h
  ·rcases keyIs_shape hv with ⟨j,u,rfl,rfl⟩ | ⟨y,u,rfl,rfl⟩
   ·rw [key_rl] at h; exact SeqAt.EqAt.str_int x t j u _ _ _ _ h
   ·rw [key_rr] at h; exact wpAny_eqBool_str h
 «strs» := fun k x t v h => by
  rcases keyIs_shape h with ⟨i,u,rfl,e⟩ | ⟨y,u,rfl,e⟩
  ·exact nomatch e
  ·injection e with e1 _
   subst e1
   cases v <;> rfl
theorem mixKind_int (prog : Program) (w : World) (i : Int) (t : Tok) : (mixKind prog w).is (.inl i) (.int i t) = true := keyIs_int i t
end L2
namespace L2
open PySem PySem.Spec PyProof.Rows
inductive V where
 | non | bl (b : Bool) | int (i : Int) | str (x : Str) | byt (b : Array UInt8) | flt (b : UInt64) | ref (a : Addr) | ty (n : String)
 deriving DecidableEq
def RelV : V → Value → Prop
 | .non,u => u = Value.none
 | .bl b,u => u = Value.bool b
 | .int i,u => ∃ t,u = Value.int i t
 | .str x,u => ∃ t,u = Value.str x t
 | .byt b,u => ∃ t,u = Value.bytes b t
 | .flt b,u => ∃ t,u = Value.float b t
 | .ref a,u => u = Value.ref a
 | .ty n,u => u = Value.type n
abbrev Vals : List V → List Value → Prop := Paired RelV
theorem Vals.length {xs : List V} {us : List Value} (r : Vals xs us) : xs.length = us.length := Paired.length r
theorem Vals.get : ∀ {xs : List V} {us : List Value} {i : Nat} {x : V},Vals xs us → xs[i]? = some x → ∃ u,us[i]? = some u ∧ RelV x u
 | _,_,_,_,.nil,e => by simp at e
 | _,_,0,_,.cons r _,e => by simp at e; subst e; exact ⟨_,rfl,r⟩
 | _,_,i + 1,x,.cons _ t,e => by
  obtain ⟨u,h1,h2⟩ := Vals.get (i := i) (x := x) t (by simpa using e)
  exact ⟨u,by simpa using h1,h2⟩
theorem Vals.set {x : V} {u : Value} (r : RelV x u) : ∀ {xs : List V} {us : List Value} (i : Nat),Vals xs us → Vals (xs.set i x) (us.set i u)
 | _,_,_,.nil => .nil
 | _,_,0,.cons _ t => .cons r t
 | _,_,i + 1,.cons q t => .cons q (Vals.set r i t)
theorem Vals.append : ∀ {xs ys : List V} {us ws : List Value},Vals xs us → Vals ys ws → Vals (xs ++ ys) (us ++ ws)
 | _,_,_,_,.nil,s => s
 | _,_,_,_,.cons r t,s => .cons r (Vals.append t s)
theorem Vals.take : ∀ {xs : List V} {us : List Value} (n : Nat),Vals xs us → Vals (xs.take n) (us.take n)
 | _,_,0,_ => .nil
 | _,_,_ + 1,.nil => .nil
 | _,_,n + 1,.cons r t => .cons r (Vals.take n t)
theorem Vals.drop : ∀ {xs : List V} {us : List Value} (n : Nat),Vals xs us → Vals (xs.drop n) (us.drop n)
 | _,_,0,r => r
 | _,_,_ + 1,.nil => .nil
 | _,_,n + 1,.cons _ t => Vals.drop n t
def RelO : Option V → Option Value → Prop
 | some v,some u => RelV v u
 | none,none => True
 | _,_ => False
def KV {κ : Type} : List (κ × V) → List (κ × Value) → Prop := Paired fun (p : κ × V) (q : κ × Value) => p.1 = q.1 ∧ RelV p.2 q.2
def kV : Key → V
 | .inl i => .int i
 | .inr x => .str x
inductive HO where
 /-- a list -/
 | lst (xs : List V)
 /-- a tuple (never changes) -/
 | tup (xs : List V)
 /-- a dict whose keys are ints and texts; one whose keys are tuples of ints and texts (the empty one is both) -/
 | dK (kvs : List (Key × V)) | dT (kvs : List (List Key × V))
 /-- a set of ints: its members,its size -/
 | set (S : Int → Bool) (n : Nat)
 /-- an instance of the class at C,its dict at dx,its attributes -/
 | ins (C dx : Addr) (fs : List (Str × V))
 /-- the dict of the instance at x -/
 | own (x : Addr)
 /-- the dict of an exception -/
 | xd (fs : List (Str × V))
 /-- a bound method,f of x -/
 | met (f x : Addr)
 /-- a range object lo,lo + 1,.. below hi -/
 | rng (lo hi : Int)
 /-- a thing that is known to the object (the script; a dict while a loop walks it): read,never written while it is so -/
 | frz (o : Obj) (u : HO)
 /-- a code object's table -/
 | tbl (ps : Array Value)
 /-- any other thing,by what is true of its one object (a def of one's own: SetO a S n := HO.ext fun h => ..) -/
 | ext (φ : Heap → Prop)
abbrev Hp := Addr → Option HO
def upd (H : Hp) (a : Addr) (o : HO) : Hp := fun b => if b = a then some o else H b
theorem upd_same {H : Hp} {a : Addr} {o : HO} : upd H a o a = some o := by unfold upd; rw [if_pos rfl]
theorem upd_ne {H : Hp} {a b : Addr} {o : HO} (h : b ≠ a) : upd H a o b = H b := by unfold upd; rw [if_neg h]
theorem ne_of {H : Hp} {a b : Addr} {o u : HO} (h : H a = some o) (h' : H b = some u) (d : o ≠ u) : a ≠ b := by
 intro e; subst e; rw [h] at h'; exact d (Option.some.inj h')
theorem ne_of_none {H : Hp} {a b : Addr} {o : HO} (h : H a = some o) (h' : H b = none) : a ≠ b := by
 intro e; subst e; rw [h] at h'; cases h'
section
variable (P : Program) (w : World)
def ObjOk (H : Hp) (h : Heap) (a : Addr) : HO → Prop
 | .lst xs => xs.length ≤ sizeLine ∧ ∃ (its : List Value) (n : Nat),Vals xs its ∧ h.get? a = some { cls := .type "list",data := .seq its.toArray n }
 | .tup xs => xs.length ≤ sizeLine ∧ ∃ its : List Value,Vals xs its ∧ IsTup h a its.toArray
 | .dK kvs => kvs.length ≤ sizeLine ∧ (a == sysModules) = false ∧ ∃ vs,KV kvs vs ∧ h.DictOf (mixKind P w) a vs
 | .dT kvs => kvs.length ≤ sizeLine ∧ (a == sysModules) = false ∧ ∃ xs : List (List Key × Addr × Value),
   Paired (fun (p : List Key × V) (q : List Key × Addr × Value) => p.1 = q.1 ∧ H q.2.1 = some (.tup (p.1.map kV)) ∧ RelV p.2 q.2.2) kvs xs ∧
   ∃ o es ep,h.get? a = some o ∧ o.ExactDict ∧ o.data = .dict es ep ∧ es.toList = xs.map (entryOfKey (tupleKind (mixKind P w))) ∧ (xs.map (·.1)).Nodup
 | .set S n => h.SetOf (intKind P w) a S n
 | .ins C dx fs => H dx = some (.own a) ∧ fs.length ≤ 1000 ∧ dx ≠ a ∧ h.get? a = some (PySem.W.instObj C dx) ∧
   ∃ mA,h.Ns1 dx mA ∧ (∀ f,RelO (fs.lookup f) (mA f)) ∧ PySem.Within mA (fs.map (·.1))
 | .own _ => ∃ o,h.get? a = some o
 | .xd fs => ∃ mA,h.Ns1 a mA ∧ ∀ f,RelO (fs.lookup f) (mA f)
 | .rng lo hi => ∃ t u v,h.get? a = some { cls := .type "range",data := .fields #[.int lo t,.int hi u,.int 1 v] }
 | .frz o u => h.get? a = some o ∧ ObjOk H h a u
 | .tbl ps => h.get? a = some { cls := .none,data := .fields ps }
 | .met f x => h.get? a = some (PySem.W.methodObj (.ref f) (.ref x))
 | .ext φ => φ h ∧ (∃ o,h.get? a = some o) ∧ ∀ h1 h2 : Heap,φ h1 → (∀ o,h1.get? a = some o → h2.get? a = some o) → φ h2
def HOk (H : Hp) (h : Heap) : Prop := ∀ a o,H a = some o → ObjOk P w H h a o
end
section
variable {P : Program} {w : World} {H H' : Hp} {h h' : Heap} {a : Addr} {o : HO}
theorem ObjOk.lt (x : ObjOk P w H h a o) : a < h.objs.size := by
 cases o with
 | lst xs => obtain ⟨_,_,_,_,e⟩ := x; exact Heap.lt_size e
 | tup xs => obtain ⟨_,_,_,p⟩ := x; exact p.lt
 | dK kvs => obtain ⟨_,_,_,_,o,_,_,e,_⟩ := x; exact Heap.lt_size e
 | dT kvs => obtain ⟨_,_,_,_,o,_,_,e,_⟩ := x; exact Heap.lt_size e
 | set S n => obtain ⟨o,_,_,_,e,_⟩ := x; exact Heap.lt_size e
 | ins C dx fs => obtain ⟨_,_,_,e,_⟩ := x; exact Heap.lt_size e
 | own y => obtain ⟨_,e⟩ := x; exact Heap.lt_size e
 | xd fs => obtain ⟨_,⟨_,_,_,e,_⟩,_⟩ := x; exact Heap.lt_size e
 | rng lo hi => obtain ⟨_,_,_,e⟩ := x; exact Heap.lt_size e
 | frz ob u => obtain ⟨e,_⟩ := x; exact Heap.lt_size e
 | tbl ps => exact Heap.lt_size (show h.get? a = some _ from x)
 | met f y => exact Heap.lt_size (show h.get? a = some _ from x)
 | ext φ => obtain ⟨_,⟨_,e⟩,_⟩ := x; exact Heap.lt_size e
theorem Paired.mapP {α β : Type} {F G : α → β → Prop} : ∀ {l₁ : List α} {l₂ : List β},Paired F l₁ l₂ → (∀ a b,F a b → G a b) → Paired G l₁ l₂
 | _,_,.nil,_ => .nil
 | _,_,.cons r t,f => .cons (f _ _ r) (Paired.mapP t f)
theorem ObjOk.stay (x : ObjOk P w H h a o) (k : ∀ b u,(b = a ∨ H b = some (.own a)) → h.get? b = some u → h'.get? b = some u)
  (ho : ∀ b,H b = some (.own a) → H' b = some (.own a)) (ht : ∀ b xs,H b = some (.tup xs) → H' b = some (.tup xs)) : ObjOk P w H' h' a o := by
 induction o with
 | lst xs => obtain ⟨z,its,n,r,e⟩ := x; exact ⟨z,its,n,r,k _ _ (.inl rfl) e⟩
 | tup xs => obtain ⟨z,its,r,ob,e,c⟩ := x; exact ⟨z,its,r,ob,k _ _ (.inl rfl) e,c⟩
 | dK kvs => obtain ⟨z,y,vs,r,ob,es,ep,e,c⟩ := x; exact ⟨z,y,vs,r,ob,es,ep,k _ _ (.inl rfl) e,c⟩
 | dT kvs =>
  obtain ⟨z,y,xs,r,ob,es,ep,e,c⟩ := x
  exact ⟨z,y,xs,Paired.mapP r fun p q z => ⟨z.1,ht _ _ z.2.1,z.2.2⟩,ob,es,ep,k _ _ (.inl rfl) e,c⟩
 | set S n => obtain ⟨ob,es,ep,t,e,c⟩ := x; exact ⟨ob,es,ep,t,k _ _ (.inl rfl) e,c⟩
 | ins C dx fs =>
  obtain ⟨d,z,ne,e,mA,⟨od,es,ep,e2,c⟩,r⟩ := x
  exact ⟨ho _ d,z,ne,k _ _ (.inl rfl) e,mA,⟨od,es,ep,k _ _ (.inr d) e2,c⟩,r⟩
 | own y => obtain ⟨ob,e⟩ := x; exact ⟨ob,k _ _ (.inl rfl) e⟩
 | xd fs => obtain ⟨mA,⟨od,es,ep,e,c⟩,r⟩ := x; exact ⟨mA,⟨od,es,ep,k _ _ (.inl rfl) e,c⟩,r⟩
 | rng lo hi => obtain ⟨t,u,v,e⟩ := x; exact ⟨t,u,v,k _ _ (.inl rfl) e⟩
 | frz ob u ih => obtain ⟨e,q⟩ := x; exact ⟨k _ _ (.inl rfl) e,ih q⟩
 | tbl ps =>
  have e : h.get? a = some { cls := .none,data := .fields ps } := x
  show h'.get? a = some { cls := .none,data := .fields ps }
  exact k a _ (.inl rfl) e
 | met f y =>
  have e : h.get? a = some (PySem.W.methodObj (.ref f) (.ref y)) := x
  show h'.get? a = some (PySem.W.methodObj (.ref f) (.ref y))
  exact k a _ (.inl rfl) e
 | ext φ => obtain ⟨p,⟨o,e⟩,st⟩ := x; exact ⟨st _ _ p fun o q => k _ _ (.inl rfl) q,⟨o,k _ _ (.inl rfl) e⟩,st⟩
theorem HOk.lt (x : HOk P w H h) (e : H a = some o) : a < h.objs.size := (x a o e).lt
theorem HOk.fresh (x : HOk P w H h) (e : h.objs.size ≤ a) : H a = none := by
 cases q : H a with
 | none => rfl
 | some u => exact absurd (Nat.lt_of_lt_of_le (x.lt q) e) (Nat.lt_irrefl _)
theorem HOk.kept (x : HOk P w H h) (k : ∀ b u,h.get? b = some u → h'.get? b = some u) : HOk P w H h' := fun a o e =>
 (x a o e).stay (fun b u _ q => k b u q) (fun _ q => q) fun _ _ q => q
theorem HOk.laid (x : HOk P w H h) (k : ∀ b u,h.get? b = some u → h'.get? b = some u) (hp : h.objs.size ≤ a) (new : ObjOk P w (upd H a o) h' a o) : HOk P w (upd H a o) h' := fun b u e => by
 have hn := x.fresh hp
 by_cases hb : b = a
 ·subst hb; rw [upd_same] at e; cases e; exact new
 ·rw [upd_ne hb] at e
  exact (x b u e).stay (fun c v _ q => k c v q) (fun c q => by rw [upd_ne (ne_of_none q hn)]; exact q) fun c xs q => by rw [upd_ne (ne_of_none q hn)]; exact q
end
def Rd (H : Hp) (a : Addr) (u : HO) : Prop := H a = some u ∨ ∃ o,H a = some (.frz o u)
theorem Rd.ok {P : Program} {w : World} {H : Hp} {h : Heap} {a : Addr} {u : HO} (r : Rd H a u) (x : HOk P w H h) : ObjOk P w H h a u := by
 rcases r with r | ⟨o,r⟩
 ·exact x a u r
 ·obtain ⟨_,q⟩ := x a _ r
  exact q
def Mut : Option HO → Prop
 | some (.lst _) => True
 | some (.dK _) => True
 | some (.dT _) => True
 | some (.set _ _) => True
 | some (.ins _ _ _) => True
 | some (.ext _) => True
 | _ => False
section
variable {P : Program} {w : World} {H : Hp} {h h' : Heap} {x e : Addr} {o' : HO}
theorem HOk.write (ok : HOk P w H h) (mu : Mut (H x)) (he : e = x ∨ H e = some (.own x)) (k : ∀ b u,b ≠ e → h.get? b = some u → h'.get? b = some u) (heo : ∃ u,h'.get? e = some u)
  (new : ObjOk P w (upd H x o') h' x o') : HOk P w (upd H x o') h' := fun b u q => by
 have nown : ∀ c y,H c = some (.own y) → c ≠ x := fun c y r z => by subst z; rw [r] at mu; exact mu
 have ntup : ∀ c xs,H c = some (.tup xs) → c ≠ x := fun c xs r z => by subst z; rw [r] at mu; exact mu
 by_cases hb : b = x
 ·subst hb; rw [upd_same] at q; cases q; exact new
 ·rw [upd_ne hb] at q
  by_cases hbe : b = e
  ·have q' : H b = some (.own x) := by
    rcases he with z | z
    ·exact absurd (hbe.trans z) hb
    ·rw [hbe]; exact z
   rw [q] at q'; cases q'
   obtain ⟨v,hv⟩ := heo
   exact ⟨v,by rw [hbe]; exact hv⟩
  ·refine (ok b u q).stay (fun c v hc r => k c v ?_ r) (fun c r => by rw [upd_ne (nown c b r)]; exact r) fun c xs r => by rw [upd_ne (ntup c xs r)]; exact r
   rcases hc with rfl | hc
   ·exact hbe
   ·rintro rfl
    rcases he with z | z
    ·exact nown c b hc z
    ·rw [hc] at z; cases z; exact hb rfl
end
structure Un (fs ex : List Addr) (H H' : Hp) (h h' : Heap) : Prop where
 keep : ∀ b o,h.get? b = some o → H b = none → b ∉ fs → b ∉ ex → h'.get? b = some o
 slot : ∀ b o,h.get? b = some o → H b = none → b ∈ fs → b ∉ ex → ∃ sl,h'.get? b = some { o with slots := sl }
 free : ∀ b o,h.get? b = some o → H b = none → b ∉ ex → H' b = none
 there : ∀ b o,h.get? b = some o → b ∉ ex → ∃ o',h'.get? b = some o'
 tups : ∀ b xs,H b = some (.tup xs) → H' b = some (.tup xs)
 frzs : ∀ b o u,H b = some (.frz o u) → H' b = some (.frz o u)
 tbls : ∀ b ps,H b = some (.tbl ps) → ∃ more,H' b = some (.tbl (ps ++ more))
section
variable {fs fs' ex ex' : List Addr} {H H1 H2 : Hp} {h h1 h2 h' : Heap} {a x e : Addr} {o : HO}
theorem Un.any (u : Un fs ex H H1 h h1) {b : Addr} {ob : Obj} (q : h.get? b = some ob) (n : H b = none) (hx : b ∉ ex) : ∃ sl,h1.get? b = some { ob with slots := sl } := by
 by_cases hb : b ∈ fs
 ·exact u.slot b ob q n hb hx
 ·exact ⟨ob.slots,u.keep b ob q n hb hx⟩
theorem Un.kept (k : ∀ b u,h.get? b = some u → h'.get? b = some u) : Un fs ex H H h h' :=
 ⟨fun b ob q _ _ _ => k b ob q,fun b ob q _ _ _ => ⟨ob.slots,k b ob q⟩,fun _ _ _ n _ => n,fun b ob q _ => ⟨ob,k b ob q⟩,fun _ _ q => q,fun _ _ _ q => q,fun _ ps q => ⟨#[],by rw [q]; simp⟩⟩
theorem Un.refl : Un fs ex H H h h := Un.kept fun _ _ q => q
theorem Un.laid (k : ∀ b u,h.get? b = some u → h'.get? b = some u) (hp : h.objs.size ≤ a) (hn : H a = none) : Un fs ex H (upd H a o) h h' where
 keep := fun b u q _ _ _ => k b u q
 slot := fun b u q _ _ _ => ⟨u.slots,k b u q⟩
 free := fun b u q n _ => by rw [upd_ne (Nat.ne_of_lt (Nat.lt_of_lt_of_le (Heap.lt_size q) hp))]; exact n
 there := fun b u q _ => ⟨u,k b u q⟩
 tups := fun b xs q => by rw [upd_ne (ne_of_none q hn)]; exact q
 frzs := fun b u xs q => by rw [upd_ne (ne_of_none q hn)]; exact q
 tbls := fun b ps q => ⟨#[],by rw [upd_ne (ne_of_none q hn),q]; simp⟩
theorem Un.write (mu : Mut (H x)) (he : e = x ∨ H e = some (.own x)) (k : ∀ b u,b ≠ e → h.get? b = some u → h'.get? b = some u) (heo : ∃ u,h'.get? e = some u) : Un fs ex H (upd H x o) h h' := by
 have hx : ∀ b,H b = none → b ≠ x := fun b n z => by subst z; rw [n] at mu; exact mu
 have hb : ∀ b,H b = none → b ≠ e := fun b n z => by
  subst z
  rcases he with r | r
  ·exact hx b n r
  ·rw [n] at r; cases r
 have hm : ∀ b u,H b = some u → ¬ Mut (some u) → b ≠ x := fun b u q nm z => by subst z; rw [q] at mu; exact nm mu
 refine ⟨fun b u q n _ _ => k b u (hb b n) q,fun b u q n _ _ => ⟨u.slots,k b u (hb b n) q⟩,fun b u q n _ => by rw [upd_ne (hx b n)]; exact n,fun b u q _ => ?_,
  fun b xs q => by rw [upd_ne (hm b _ q fun z => z)]; exact q,fun b u xs q => by rw [upd_ne (hm b _ q fun z => z)]; exact q,fun b ps q => ⟨#[],by rw [upd_ne (hm b _ q fun z => z),q]; simp⟩⟩
 by_cases hbe : b = e
 ·subst hbe; exact heo
 ·exact ⟨u,k b u hbe q⟩
end
def trk (h : Heap) (H : Hp) : List Addr := (List.range h.objs.size).filter fun a => (H a).isSome
def hidT (h : Heap) (H : Hp) : Heap := PySem.W.hideAll h (trk h H)
theorem hidT_size (h : Heap) (H : Hp) : (hidT h H).objs.size = h.objs.size := PySem.W.hideAll_size _ _
theorem hidT_get {h : Heap} {H : Hp} {b : Addr} {o : Obj} (e : h.get? b = some o) (n : H b = none) : (hidT h H).get? b = some o :=
 PySem.W.hideAll_get _ e fun hm => by
  have q : (H b).isSome = true := (List.mem_filter.mp hm).2
  rw [n] at q; simp at q
theorem of_hidT {h : Heap} {H : Hp} {b : Addr} {o : Obj} (e : (hidT h H).get? b = some o) : h.get? b = some o ∧ H b = none := by
 have e' : h.get? b = some o := PySem.W.of_hideAll (trk h H) e
 refine ⟨e',?_⟩
 cases q : H b with
 | none => rfl
 | some x =>
  have hm : b ∈ trk h H := List.mem_filter.mpr ⟨List.mem_range.mpr (Heap.lt_size e'),by simp [q]⟩
  have z : (hidT h H).get? b = none := PySem.W.hideAll_none (trk h H) hm
  rw [z] at e; cases e
end L2
namespace L2
open PySem PySem.Spec PyProof.Rows
structure Mod (K : PySem.W.Frag) (mg : Str → Option Value) (base : Heap) : Prop where
 kin : K.In base
 glob : base.Ns mainGlobals mg
 blt : ∃ mb,base.Ns builtinsNs mb ∧ ∀ x : Str,x ≠ "__name__" → mb x = bootBuiltins x
 nolimit : base.NoLimit
structure Cx where
 prog : Program
 w : World
 K : PySem.W.Frag
 mg : Str → Option Value
 base : Heap
 A : Around
 N : List Str
 s_0 : Shared
 H_0 : Hp
 env : Env
 outer : List Env
 stack : List Env
 ex : List Addr
 fn : Str → Bool
 calm : Bool
 pn : List (Addr × Obj)
 xe : Value → Shared → Prop
def frs (l : List Env) : List Addr := l.filterMap (·.frame)
abbrev Cx.fs (X : Cx) : List Addr := frs X.outer
def Vis (sc : Scope) (x : Str) : Prop := sc.names.lookup x = some .local ∨ sc.names.lookup x = some .cell ∨ sc.names.lookup x = some .free
def Loc (sc : Scope) (x : Str) : Prop := sc.names.lookup x = some .local ∨ sc.names.lookup x = some .cell
def Look (env : Env) (h : Heap) (m : Str → Option Value) (x : Str) (u : Value) : Prop :=
 (env.kindOf x = some .local ∧ m x = some u) ∨ ((env.kindOf x = some .cell ∨ env.kindOf x = some .free) ∧ ∃ c,env.cells.lookup x = some c ∧ h.IsCell c (some u))
structure Cx.Ok (X : Cx) : Prop where
 mod : Mod X.K X.mg X.base
 kind : X.env.scope.kind = .function
 glob : X.env.globals = mainGlobals
 blt : X.env.builtins = builtinsNs
 above : X.s_0.heap.objs.size ≤ X.env.locals
 inj : ∀ x y c,X.env.cells.lookup x = some c → X.env.cells.lookup y = some c → x = y
 has : ∀ x,(X.env.kindOf x = some .cell ∨ X.env.kindOf x = some .free) → ∃ c,X.env.cells.lookup x = some c
 cab : ∀ x c,X.fn x = true → X.env.cells.lookup x = some c → X.s_0.heap.objs.size ≤ c
 hd : X.calm = true → X.A.handled = none
 frames : X.A.frames = some X.stack
 stk : X.stack = X.outer ∨ (X.stack = X.env :: X.outer ∧ X.env.frame = some X.env.locals)
 exf : ∀ b ∈ X.ex,b ≠ X.env.locals ∧ ∀ x c,X.env.cells.lookup x = some c → c ≠ b
 bs : ∀ b o,X.base.get? b = some o → X.s_0.heap.get? b = some o ∧ X.H_0 b = none
 bsz : X.base.objs.size ≤ X.s_0.heap.objs.size
 noex : ∀ b o,X.base.get? b = some o → b ∉ X.ex
 exfs : ∀ b ∈ X.ex,b ∉ X.fs
 funs : X.s_0.heap.FunFrames X.base X.outer
 frf : ∀ b ∈ X.fs,X.H_0 b = none
structure Inv (X : Cx) (pins : List (Addr × Obj)) (σ : List (Option V)) (H : Hp) (s : Shared) : Prop where
 ok : X.Ok
 os : s.os = X.s_0.os
 bare : AllBare s.gens
 base : Un X.fs X.ex X.H_0 H X.s_0.heap s.heap
 loc : ∃ m,s.heap.Ns X.env.locals m ∧ ∀ (i : Nat) (x : Str) (v : V),X.N[i]? = some x → σ[i]? = some (some v) → Vis X.env.scope x → ∃ u,RelV v u ∧ Look X.env s.heap m x u
 cell : ∀ x c,X.env.cells.lookup x = some c → ∃ v,s.heap.IsCell c v
 free : H X.env.locals = none
 freeC : ∀ x c,X.env.cells.lookup x = some c → H c = none
 pin : ∀ p ∈ X.pn ++ pins,s.heap.get? p.1 = some p.2 ∧ H p.1 = none ∧ p.1 ≠ X.env.locals ∧ p.1 ∉ X.fs ∧ ∀ v,p.2.data ≠ .cell v
 hok : HOk X.prog X.w H s.heap
 len : σ.length = X.N.length
section
variable {X : Cx} {pins : List (Addr × Obj)} {σ : List (Option V)} {H H' : Hp} {s : Shared} {h' : Heap}
theorem Cx.Ok.nofr (ok : X.Ok) {b : Addr} {o : Obj} (e : X.base.get? b = some o) : b ∉ X.fs := fun hb => by
 have := (ok.funs.mem hb).1
 rw [e] at this; cases this
theorem Inv.bs (I : Inv X pins σ H s) : ∀ b o,X.base.get? b = some o → s.heap.get? b = some o ∧ H b = none := fun b o e =>
 ⟨I.base.keep b o (I.ok.bs b o e).1 (I.ok.bs b o e).2 (I.ok.nofr e) (I.ok.noex b o e),I.base.free b o (I.ok.bs b o e).1 (I.ok.bs b o e).2 (I.ok.noex b o e)⟩
theorem Inv.bk (I : Inv X pins σ H s) : ∀ b o,X.base.get? b = some o → s.heap.get? b = some o := fun b o e => (I.bs b o e).1
theorem Inv.mod (I : Inv X pins σ H s) : Mod X.K X.mg X.base := I.ok.mod
theorem Inv.kIn (I : Inv X pins σ H s) : X.K.In s.heap := I.ok.mod.kin.keeps I.bk
theorem Inv.lt (I : Inv X pins σ H s) : X.env.locals < s.heap.objs.size := let ⟨_,hn,_⟩ := I.loc; hn.lt
theorem Inv.sz (I : Inv X pins σ H s) : X.s_0.heap.objs.size ≤ s.heap.objs.size := Nat.le_trans I.ok.above (Nat.le_of_lt I.lt)
theorem Inv.nofs (I : Inv X pins σ H s) {a : Addr} (h : s.heap.objs.size ≤ a) : a ∉ X.fs := fun hb => by
 obtain ⟨_,o,ho,_⟩ := I.ok.funs.mem hb
 exact absurd (Nat.lt_of_lt_of_le (Heap.lt_size ho) (Nat.le_trans I.sz h)) (Nat.lt_irrefl _)
theorem Inv.cne (I : Inv X pins σ H s) : ∀ x c,X.env.cells.lookup x = some c → c ≠ X.env.locals := fun x c e z => by
 obtain ⟨v,o,ho,hd⟩ := I.cell x c e
 obtain ⟨m,⟨o',es,ep,ho',hd',_⟩,_⟩ := I.loc
 rw [z,ho'] at ho; cases ho; rw [hd'] at hd; cases hd
theorem Inv.funs (I : Inv X pins σ H s) : s.heap.FunFrames X.base X.outer := by
 have all : ∀ (l : List Env),(∀ b ∈ frs l,b ∈ X.fs) → X.s_0.heap.FunFrames X.base l → s.heap.FunFrames X.base l := by
  intro l
  induction l with
  | nil => intro _ _; trivial
  | cons env r ih =>
   intro hs hl
   obtain ⟨hk,⟨L,o,hf,hn,ho,hd⟩,hr⟩ := hl
   have hL : L ∈ X.fs := hs L (by unfold frs; rw [List.filterMap_cons,hf]; exact List.mem_cons_self)
   obtain ⟨sl,e⟩ := I.base.slot L o ho (I.ok.frf L hL) hL fun z => I.ok.exfs L z hL
   exact ⟨hk,⟨L,_,hf,hn,e,hd⟩,ih (fun b hb => hs b (by unfold frs; rw [List.filterMap_cons,hf]; exact List.mem_cons_of_mem _ hb)) hr⟩
 exact all X.outer (fun _ hb => hb) I.ok.funs
theorem Inv.stack (I : Inv X pins σ H s) : s.heap.FunFrames X.base X.stack := by
 rcases I.ok.stk with e | ⟨e,hf⟩
 ·rw [e]; exact I.funs
 ·rw [e]
  obtain ⟨m,hn,_⟩ := I.loc
  refine .cons (by rw [I.ok.kind]; decide) hf hn ?_ I.funs
  exact Heap.get?_none_of_le (Nat.le_trans I.ok.bsz I.ok.above)
theorem Inv.stkSub (I : Inv X pins σ H s) : ∀ b ∈ frs X.stack,b ∈ X.env.locals :: X.fs := fun b hb => by
 rcases I.ok.stk with e | ⟨e,hf⟩
 ·rw [e] at hb; exact List.mem_cons_of_mem _ hb
 ·rw [e] at hb
  unfold frs at hb
  rw [List.filterMap_cons,hf] at hb
  exact hb
theorem Inv.stkFree (I : Inv X pins σ H s) : ∀ b ∈ frs X.stack,H b = none := fun b hb => by
 rcases List.mem_cons.mp (I.stkSub b hb) with e | hb
 ·rw [e]; exact I.free
 ·obtain ⟨_,o,ho,_⟩ := I.ok.funs.mem hb
  exact I.base.free b o ho (I.ok.frf b hb) fun z => I.ok.exfs b z hb
theorem Inv.step {g' : Array GenState} {t' : Nat} {d' : Drawn} {ch : List Addr} (I : Inv X pins σ H s)
  (hch : ∀ b ∈ ch,(b ∈ X.ex ∨ X.s_0.heap.objs.size ≤ b) ∧ b ≠ X.env.locals ∧ (∀ x c,X.env.cells.lookup x = some c → c ≠ b) ∧ ∀ p ∈ X.pn ++ pins,p.1 ≠ b)
  (keep : ∀ b o,b ≠ X.env.locals → b ∉ X.fs → b ∉ ch → s.heap.get? b = some o → H b = none → h'.get? b = some o)
  (slot : ∀ b o,b ≠ X.env.locals → b ∈ X.fs → b ∉ ch → s.heap.get? b = some o → H b = none → ∃ sl,h'.get? b = some { o with slots := sl }) (free : ∀ b o,b ∉ ch → s.heap.get? b = some o → H b = none → H' b = none)
  (there : ∀ b o,b ∉ ch → s.heap.get? b = some o → ∃ o',h'.get? b = some o')
  (tups : ∀ b xs,H b = some (.tup xs) → H' b = some (.tup xs)) (frzs : ∀ b o u,H b = some (.frz o u) → H' b = some (.frz o u)) (tbls : ∀ b ps,H b = some (.tbl ps) → ∃ more,H' b = some (.tbl (ps ++ more)))
  (ns : ∀ m,s.heap.Ns X.env.locals m → h'.Ns X.env.locals m) (hok : HOk X.prog X.w H' h') (hg : AllBare g') :
  Inv X pins σ H' { s with heap := h',gens := g',drawn := d',toks := t' } := by
 have neL : ∀ b o,X.s_0.heap.get? b = some o → b ≠ X.env.locals := fun b o e => Nat.ne_of_lt (Nat.lt_of_lt_of_le (Heap.lt_size e) I.ok.above)
 have neC : ∀ b o,X.s_0.heap.get? b = some o → b ∉ X.ex → b ∉ ch := fun b o e hx hb => by
  rcases (hch b hb).1 with z | z
  ·exact hx z
  ·exact absurd (Nat.lt_of_lt_of_le (Heap.lt_size e) z) (Nat.lt_irrefl _)
 have cellK : ∀ x c,X.env.cells.lookup x = some c → ∀ v,s.heap.IsCell c v → h'.IsCell c v := fun x c e v ⟨o,ho,hd⟩ => by
  have nch : c ∉ ch := fun z => (hch c z).2.2.1 x c e rfl
  by_cases hc : c ∈ X.fs
  ·obtain ⟨sl,q⟩ := slot c o (I.cne x c e) hc nch ho (I.freeC x c e)
   exact ⟨_,q,hd⟩
  ·exact ⟨o,keep c o (I.cne x c e) hc nch ho (I.freeC x c e),hd⟩
 refine ⟨I.ok,I.os,hg,⟨fun b o e n hb hx => ?_,fun b o e n hb hx => ?_,fun b o e n hx => ?_,fun b o e hx => ?_,fun b xs e => tups b xs (I.base.tups b xs e),fun b o xs e => frzs b o xs (I.base.frzs b o xs e),fun b ps e => ?_⟩,?_,fun x c e => ?_,?_,fun x c e => ?_,fun p hp => ?_,hok,I.len⟩
 ·exact keep b o (neL b o e) hb (neC b o e hx) (I.base.keep b o e n hb hx) (I.base.free b o e n hx)
 ·obtain ⟨sl,e1⟩ := I.base.slot b o e n hb hx
  obtain ⟨sl',e2⟩ := slot b _ (neL b o e) hb (neC b o e hx) e1 (I.base.free b o e n hx)
  exact ⟨sl',e2⟩
 ·obtain ⟨o',e1⟩ := I.base.there b o e hx
  exact free b o' (neC b o e hx) e1 (I.base.free b o e n hx)
 ·obtain ⟨o',e1⟩ := I.base.there b o e hx
  exact there b o' (neC b o e hx) e1
 ·obtain ⟨m1,e1⟩ := I.base.tbls b ps e
  obtain ⟨m2,e2⟩ := tbls b _ e1
  exact ⟨m1 ++ m2,by rw [e2,Array.append_assoc]⟩
 ·obtain ⟨m,hn,hl⟩ := I.loc
  refine ⟨m,ns m hn,fun i x v e1 e2 e3 => ?_⟩
  obtain ⟨u,r,l⟩ := hl i x v e1 e2 e3
  refine ⟨u,r,?_⟩
  rcases l with l | ⟨k,c,e,z⟩
  ·exact .inl l
  ·exact .inr ⟨k,c,e,cellK x c e _ z⟩
 ·obtain ⟨v,z⟩ := I.cell x c e
  exact ⟨v,cellK x c e v z⟩
 ·obtain ⟨m,⟨o,_,_,ho,_⟩,_⟩ := I.loc
  exact free _ o (fun z => (hch _ z).2.1 rfl) ho I.free
 ·obtain ⟨v,o,ho,hd⟩ := I.cell x c e
  exact free c o (fun z => (hch c z).2.2.1 x c e rfl) ho (I.freeC x c e)
 ·obtain ⟨e,n,ne,nf,d⟩ := I.pin p hp
  have nch : p.1 ∉ ch := fun z => (hch p.1 z).2.2.2 p hp rfl
  exact ⟨keep p.1 p.2 ne nf nch e n,free p.1 p.2 nch e n,ne,nf,d⟩
theorem Inv.un {t' : Nat} (I : Inv X pins σ H s) (u : Un X.fs [] H H' s.heap h') (hok : HOk X.prog X.w H' h') : Inv X pins σ H' { s with heap := h',toks := t' } := by
 obtain ⟨m,⟨o,es,ep,ho,r⟩,_⟩ := id I.loc
 obtain ⟨sl,hL⟩ := u.any ho I.free (by simp)
 exact I.step (g' := s.gens) (d' := s.drawn) (ch := []) (fun _ z => nomatch z) (fun b o _ hb _ e n => u.keep b o e n hb (by simp)) (fun b o _ hb _ e n => u.slot b o e n hb (by simp)) (fun b o _ e n => u.free b o e n (by simp)) (fun b o _ e => u.there b o e (by simp)) u.tups u.frzs u.tbls (fun m' hm => by
  obtain ⟨o',es',ep',ho',r'⟩ := hm
  rw [ho] at ho'; cases ho'
  exact ⟨_,es',ep',hL,r'⟩) hok I.bare
theorem Inv.call {g' : Array GenState} {t' : Nat} {d' : Drawn} {ch : List Addr} (I : Inv X pins σ H s) (u : Un (frs X.stack) ch H H' s.heap h') (hok : HOk X.prog X.w H' h') (hg : AllBare g')
  (hch : ∀ b ∈ ch,(b ∈ X.ex ∨ X.s_0.heap.objs.size ≤ b) ∧ b ≠ X.env.locals ∧ (∀ x c,X.env.cells.lookup x = some c → c ≠ b) ∧ ∀ p ∈ X.pn ++ pins,p.1 ≠ b) :
  Inv X pins σ H' { s with heap := h',gens := g',drawn := d',toks := t' } := by
 obtain ⟨m,⟨o,es,ep,ho,r⟩,_⟩ := id I.loc
 obtain ⟨sl,hL⟩ := u.any ho I.free fun z => (hch _ z).2.1 rfl
 exact I.step (ch := ch) hch (fun b o hL hb hc e n => u.keep b o e n (fun z => (List.mem_cons.mp (I.stkSub b z)).elim hL hb) hc) (fun b o _ _ hc e n => u.any e n hc) (fun b o hc e n => u.free b o e n hc) (fun b o hc e => u.there b o e hc) u.tups u.frzs u.tbls (fun m' hm => by
  obtain ⟨o',es',ep',ho',r'⟩ := hm
  rw [ho] at ho'; cases ho'
  exact ⟨_,es',ep',hL,r'⟩) hok hg
theorem Inv.turned {t' : Nat} {it : Addr} (I : Inv X pins σ H s) (k : ∀ b o,b ≠ it → s.heap.get? b = some o → h'.get? b = some o) (hn : H it = none) (hL : it ≠ X.env.locals)
  (h1 : it ∈ X.ex ∨ X.s_0.heap.objs.size ≤ it) (h2 : ∀ x c,X.env.cells.lookup x = some c → c ≠ it) (h3 : ∀ p ∈ X.pn ++ pins,p.1 ≠ it) : Inv X pins σ H { s with heap := h',toks := t' } := by
 have nit : ∀ b u,H b = some u → b ≠ it := fun b u e z => by rw [z,hn] at e; cases e
 refine I.step (g' := s.gens) (d' := s.drawn) (ch := [it]) (fun b hb => ?_) (fun b o _ _ hc e _ => k b o (fun z => hc (by simp [z])) e) (fun b o _ _ hc e _ => ⟨o.slots,k b o (fun z => hc (by simp [z])) e⟩) (fun _ _ _ _ n => n)
  (fun b o hc e => ⟨o,k b o (fun z => hc (by simp [z])) e⟩) (fun _ _ e => e) (fun _ _ _ e => e) (fun b ps e => ⟨#[],by rw [e]; simp⟩) (fun m hm => ?_) (fun b u e => ?_) I.bare
 ·have e : b = it := by simpa using hb
  subst e
  exact ⟨h1,hL,h2,h3⟩
 ·obtain ⟨o,es,ep,ho,r⟩ := hm
  exact ⟨o,es,ep,k _ o (Ne.symm hL) ho,r⟩
 ·refine (I.hok b u e).stay (fun c v hc q => k c v ?_ q) (fun _ q => q) fun _ _ q => q
  rcases hc with z | z
  ·rw [z]; exact nit b u e
  ·exact nit c _ z
theorem Inv.tok (I : Inv X pins σ H s) (t : Nat) : Inv X pins σ H { s with toks := t } := I.un (h' := s.heap) (t' := t) Un.refl I.hok
theorem Inv.kept {t' : Nat} (I : Inv X pins σ H s) (k : ∀ b u,s.heap.get? b = some u → h'.get? b = some u) : Inv X pins σ H { s with heap := h',toks := t' } := I.un (Un.kept k) (I.hok.kept k)
theorem Inv.laid {a : Addr} {o : HO} {t' : Nat} (I : Inv X pins σ H s) (k : ∀ b u,s.heap.get? b = some u → h'.get? b = some u) (hp : s.heap.objs.size ≤ a) (new : ObjOk X.prog X.w (upd H a o) h' a o) :
  Inv X pins σ (upd H a o) { s with heap := h',toks := t' } := I.un (Un.laid k hp (I.hok.fresh hp)) (I.hok.laid k hp new)
theorem Inv.write {x e : Addr} {o : HO} {t' : Nat} (I : Inv X pins σ H s) (mu : Mut (H x)) (he : e = x ∨ H e = some (.own x)) (k : ∀ b u,b ≠ e → s.heap.get? b = some u → h'.get? b = some u) (heo : ∃ u,h'.get? e = some u)
  (new : ObjOk X.prog X.w (upd H x o) h' x o) : Inv X pins σ (upd H x o) { s with heap := h',toks := t' } := I.un (Un.write mu he k heo) (I.hok.write mu he k heo new)
theorem Inv.weak {σ' : List (Option V)} (I : Inv X pins σ H s) (hl : σ'.length = σ.length) (w : ∀ (i : Nat) v,σ'[i]? = some (some v) → σ[i]? = some (some v)) : Inv X pins σ' H s :=
 ⟨I.ok,I.os,I.bare,I.base,let ⟨m,hn,hl'⟩ := I.loc; ⟨m,hn,fun i x v e1 e2 e3 => hl' i x v e1 (w i v e2) e3⟩,I.cell,I.free,I.freeC,I.pin,I.hok,hl.trans I.len⟩
theorem Inv.pins_of {pins' : List (Addr × Obj)} (I : Inv X pins σ H s) (h : ∀ p ∈ pins',s.heap.get? p.1 = some p.2 ∧ H p.1 = none ∧ p.1 ≠ X.env.locals ∧ p.1 ∉ X.fs ∧ ∀ v,p.2.data ≠ .cell v) : Inv X pins' σ H s :=
 ⟨I.ok,I.os,I.bare,I.base,I.loc,I.cell,I.free,I.freeC,fun p hp => (List.mem_append.mp hp).elim (fun z => I.pin p (List.mem_append_left _ z)) (h p),I.hok,I.len⟩
theorem nodup_ix {N : List Str} (hN : N.Nodup) {i j : Nat} {x : Str} (a : N[i]? = some x) (b : N[j]? = some x) : i = j := by
 obtain ⟨h1,e1⟩ := List.getElem?_eq_some_iff.mp a
 obtain ⟨h2,e2⟩ := List.getElem?_eq_some_iff.mp b
 exact (List.getElem_inj hN).mp (e1.trans e2.symm)
theorem store_ok2 {M : Model} {A : Around} {E : Value → Shared → Prop} {i : Nat} {x : Str} {v : V} {u : Value} {Q : Unit → Shared → Prop} (I : Inv X pins σ H s) (hN : X.N.Nodup) (hi : X.N[i]? = some x) (hx : Loc X.env.scope x) (r : RelV v u)
  (h : ∀ s',Inv X pins (σ.set i (some v)) H s' → (∃ a,Heap.SameBut a s.heap s'.heap ∧ (a = X.env.locals ∨ X.env.cells.lookup x = some a)) → Q () s') (hf : X.fn x = true ∨ X.env.scope.names.lookup x = some .local := by first | exact .inl rfl | exact .inr rfl | assumption) : wpAny M A (storeName X.env x u) Q E s := by
 obtain ⟨m,hn,hl⟩ := id I.loc
 have hcls : (X.env.scope.kind == .class || (X.env.scope.kind == .module && X.env.locals != X.env.globals)) = false := by rw [I.ok.kind]; rfl
 have hiσ : i < σ.length := by rw [I.len]; exact (List.getElem?_eq_some_iff.mp hi).1
 have cne := I.cne
 have tracked : ∀ {a : Addr} {h' : Heap},(∃ o,s.heap.get? a = some o ∧ H a = none) → Heap.SameBut a s.heap h' → HOk X.prog X.w H h' := fun {a h'} ha hs b ob e => by
  obtain ⟨_,_,hfree⟩ := ha
  refine (I.hok b ob e).stay (fun c w' hc q => (hs.2 c ?_).trans q) (fun _ q => q) fun _ _ q => q
  rintro rfl
  rcases hc with rfl | hc
  ·rw [hfree] at e; cases e
  ·rw [hfree] at hc; cases hc
 rcases hx with hk | hk
 ·refine wpAny_storeName_local hk hn (fun h' hn' hs => ?_) hcls
  obtain ⟨oL,_,_,hoL,_⟩ := id hn
  refine h _ ⟨I.ok,I.os,I.bare,⟨fun b o e n hb hx => ?_,fun b o e n hb hx => ?_,I.base.free,fun b o e hx => ?_,I.base.tups,I.base.frzs,I.base.tbls⟩,⟨_,hn',fun j y v' e1 e2 e3 => ?_⟩,fun y c e => ?_,I.free,I.freeC,fun p hp => ?_,tracked ⟨oL,hoL,I.free⟩ hs,by simpa using I.len⟩ ⟨_,hs,.inl rfl⟩
  ·exact (hs.2 b (Nat.ne_of_lt (Nat.lt_of_lt_of_le (Heap.lt_size e) I.ok.above))).trans (I.base.keep b o e n hb hx)
  ·obtain ⟨sl,e1⟩ := I.base.slot b o e n hb hx
   exact ⟨sl,(hs.2 b (Nat.ne_of_lt (Nat.lt_of_lt_of_le (Heap.lt_size e) I.ok.above))).trans e1⟩
  ·obtain ⟨o',e1⟩ := I.base.there b o e hx
   exact ⟨o',(hs.2 b (Nat.ne_of_lt (Nat.lt_of_lt_of_le (Heap.lt_size e) I.ok.above))).trans e1⟩
  ·by_cases hj : j = i
   ·subst hj
    rw [hi] at e1; cases e1
    rw [List.getElem?_set_self hiσ] at e2
    cases e2
    exact ⟨u,r,.inl ⟨hk,by simp⟩⟩
   ·rw [List.getElem?_set_ne (Ne.symm hj)] at e2
    obtain ⟨u',r',q⟩ := hl j y v' e1 e2 e3
    refine ⟨u',r',?_⟩
    rcases q with ⟨k,e⟩ | ⟨k,c,e,z⟩
    ·refine .inl ⟨k,?_⟩
     have : y ≠ x := fun e => hj (nodup_ix hN e1 (e ▸ hi))
     simp [this,e]
    ·exact .inr ⟨k,c,e,z.sameBut hs (cne y c e)⟩
  ·obtain ⟨w',z⟩ := I.cell y c e
   exact ⟨w',z.sameBut hs (cne y c e)⟩
  ·obtain ⟨e,n,ne,nf,d⟩ := I.pin p hp
   exact ⟨(hs.2 p.1 ne).trans e,n,ne,nf,d⟩
 ·have hfn : X.fn x = true := by
   rcases hf with z | z
   ·exact z
   ·rw [z] at hk; cases hk
  obtain ⟨c,hc⟩ := I.ok.has x (.inl hk)
  obtain ⟨w',z⟩ := I.cell x c hc
  refine wpAny_storeName_cell I.ok.kind hk hc z (fun h' hc' hs => ?_)
  obtain ⟨oc,hoc,hocd⟩ := id z
  refine h { s with heap := h' } ⟨I.ok,I.os,I.bare,⟨fun b o e n hb hx => ?_,fun b o e n hb hx => ?_,I.base.free,fun b o e hx => ?_,I.base.tups,I.base.frzs,I.base.tbls⟩,⟨m,hn.sameBut hs (Ne.symm (cne x c hc)),fun j y v' e1 e2 e3 => ?_⟩,fun y c' e => ?_,I.free,I.freeC,fun p hp => ?_,tracked ⟨oc,hoc,I.freeC x c hc⟩ hs,by simpa using I.len⟩ ⟨c,hs,.inr hc⟩
  ·exact (hs.2 b (Nat.ne_of_lt (Nat.lt_of_lt_of_le (Heap.lt_size e) (I.ok.cab x c hfn hc)))).trans (I.base.keep b o e n hb hx)
  ·obtain ⟨sl,e1⟩ := I.base.slot b o e n hb hx
   exact ⟨sl,(hs.2 b (Nat.ne_of_lt (Nat.lt_of_lt_of_le (Heap.lt_size e) (I.ok.cab x c hfn hc)))).trans e1⟩
  ·obtain ⟨o',e1⟩ := I.base.there b o e hx
   exact ⟨o',(hs.2 b (Nat.ne_of_lt (Nat.lt_of_lt_of_le (Heap.lt_size e) (I.ok.cab x c hfn hc)))).trans e1⟩
  ·by_cases hj : j = i
   ·subst hj
    rw [hi] at e1; cases e1
    rw [List.getElem?_set_self hiσ] at e2
    cases e2
    exact ⟨u,r,.inr ⟨.inl hk,c,hc,hc'⟩⟩
   ·rw [List.getElem?_set_ne (Ne.symm hj)] at e2
    obtain ⟨u',r',q⟩ := hl j y v' e1 e2 e3
    refine ⟨u',r',?_⟩
    rcases q with q | ⟨k,c',e,z'⟩
    ·exact .inl q
    ·refine .inr ⟨k,c',e,z'.sameBut hs ?_⟩
     rintro rfl
     exact hj (nodup_ix hN e1 (I.ok.inj _ _ _ e hc ▸ hi))
  ·by_cases hcc : c' = c
   ·subst hcc; exact ⟨_,hc'⟩
   ·obtain ⟨w2,z2⟩ := I.cell y c' e
    exact ⟨w2,z2.sameBut hs hcc⟩
  ·obtain ⟨e,n,ne,nf,d⟩ := I.pin p hp
   refine ⟨(hs.2 p.1 ?_).trans e,n,ne,nf,d⟩
   intro q
   rw [q,hoc] at e
   have q' : oc = p.2 := Option.some.inj e
   exact d w' (by rw [← q']; exact hocd)
theorem store_ok {M : Model} {A : Around} {E : Value → Shared → Prop} {i : Nat} {x : Str} {v : V} {u : Value} {Q : Unit → Shared → Prop} (I : Inv X pins σ H s) (hN : X.N.Nodup) (hi : X.N[i]? = some x) (hx : Loc X.env.scope x) (r : RelV v u)
  (h : ∀ s',Inv X pins (σ.set i (some v)) H s' → Q () s') (hf : X.fn x = true ∨ X.env.scope.names.lookup x = some .local := by first | exact .inl rfl | exact .inr rfl | assumption) : wpAny M A (storeName X.env x u) Q E s :=
 store_ok2 I hN hi hx r (fun s' I' _ => h s' I') hf
theorem Inv.call' {s' : Shared} {ch : List Addr} (I : Inv X pins σ H s) (ho : s'.os = s.os) (u : Un (frs X.stack) ch H H' s.heap s'.heap) (hok : HOk X.prog X.w H' s'.heap) (hg : AllBare s'.gens)
  (hch : ∀ b ∈ ch,(b ∈ X.ex ∨ X.s_0.heap.objs.size ≤ b) ∧ b ≠ X.env.locals ∧ (∀ x c,X.env.cells.lookup x = some c → c ≠ b) ∧ ∀ p ∈ X.pn ++ pins,p.1 ≠ b) : Inv X pins σ H' s' := by
 obtain ⟨h',g',d',t',o'⟩ := s'
 have e : o' = s.os := ho
 subst e
 exact I.call (g' := g') (t' := t') (d' := d') u hok hg hch
end
abbrev XK := Value → Option Addr → Hp → Prop
abbrev St := List (Option V)
abbrev VK := V → Hp → Prop
abbrev TE := St → Hp → VK → Prop
abbrev TT := St → Hp → (Bool → Hp → Prop) → Prop
abbrev TA := St → Hp → (List V → Hp → Prop) → Prop
structure Ends where
 nx : St → Hp → Prop
 rt : VK
 bk : St → Hp → Prop := fun _ _ => False
 ct : St → Hp → Prop := fun _ _ => False
abbrev TS := Ends → St → Hp → Prop
def EP (X : Cx) (pins : List (Addr × Obj)) (σ : St) (Q : VK) (u : Value) (s' : Shared) : Prop := ∃ v H',Inv X pins σ H' s' ∧ RelV v u ∧ Q v H'
def TP (X : Cx) (pins : List (Addr × Obj)) (σ : St) (Q : Bool → Hp → Prop) (b : Bool) (s' : Shared) : Prop := ∃ H',Inv X pins σ H' s' ∧ Q b H'
def AP (X : Cx) (pins : List (Addr × Obj)) (σ : St) (Q : List V → Hp → Prop) (us : List Value) (s' : Shared) : Prop := ∃ vs H',Inv X pins σ H' s' ∧ Vals vs us ∧ Q vs H'
def SP (X : Cx) (pins : List (Addr × Obj)) (D : Ends) (f : Flow) (s' : Shared) : Prop :=
 match f with
 | .next => ∃ σ' H',Inv X pins σ' H' s' ∧ D.nx σ' H'
 | .brk => ∃ σ' H',Inv X pins σ' H' s' ∧ D.bk σ' H'
 | .cont => ∃ σ' H',Inv X pins σ' H' s' ∧ D.ct σ' H'
 | .ret u => ∃ v σ' H',Inv X pins σ' H' s' ∧ RelV v u ∧ D.rt v H'
def PE (X : Cx) (e : Expr) (t : TE) : Prop :=
 ∀ (pins : List (Addr × Obj)) (s : Shared) (σ : St) (H : Hp) (Q : VK),Inv X pins σ H s → t σ H Q → wpAny (model X.prog X.w) X.A (eval e X.env) (EP X pins σ Q) X.xe s
def PT (X : Cx) (e : Expr) (t : TT) : Prop :=
 ∀ (pins : List (Addr × Obj)) (s : Shared) (σ : St) (H : Hp) (Q : Bool → Hp → Prop),Inv X pins σ H s → t σ H Q → wpAny (model X.prog X.w) X.A (isTrue e X.env (eval e X.env)) (TP X pins σ Q) X.xe s
def PW (X : Cx) (e : Expr) (t : TT) : Prop :=
 ∀ (whole : Sem Value) (pins : List (Addr × Obj)) (s : Shared) (σ : St) (H : Hp) (Q : Bool → Hp → Prop),Inv X pins σ H s → t σ H Q → wpAny (model X.prog X.w) X.A (isTrue e X.env whole) (TP X pins σ Q) X.xe s
theorem PW.pt {X : Cx} {e : Expr} {t : TT} (h : PW X e t) : PT X e t := h _
def PA (X : Cx) (es : List Expr) (t : TA) : Prop :=
 ∀ (pos : Pos) (pins : List (Addr × Obj)) (s : Shared) (σ : St) (H : Hp) (Q : List V → Hp → Prop),Inv X pins σ H s → t σ H Q → wpAny (model X.prog X.w) X.A (spliced (backTo pos (starEach es X.env))) (AP X pins σ Q) X.xe s
def PS (X : Cx) (st : Stmt) (t : TS) : Prop :=
 ∀ (pins : List (Addr × Obj)) (s : Shared) (σ : St) (H : Hp) (D : Ends),Inv X pins σ H s → t D σ H → wpAny (model X.prog X.w) X.A (exec st X.env) (SP X pins D) X.xe s
def PSs (X : Cx) (st : List Stmt) (t : TS) : Prop :=
 ∀ (pins : List (Addr × Obj)) (s : Shared) (σ : St) (H : Hp) (D : Ends),Inv X pins σ H s → t D σ H → wpAny (model X.prog X.w) X.A (execs st X.env) (SP X pins D) X.xe s
theorem thn {α : Type} {t : Sem α} {Q Q' : α → Shared → Prop} {M : Model} {A : Around} {E : Value → Shared → Prop} {s : Shared} (h : wpAny M A t Q E s) (hQ : ∀ a s,Q a s → Q' a s) : wpAny M A t Q' E s := wpAny_mono h hQ fun _ _ x => x
end L2
namespace L2
open PySem PySem.Spec PyProof.Rows
section
variable {X : Cx}
def tVar (i : Nat) : TE := fun σ H Q => ∃ v,σ[i]? = some (some v) ∧ Q v H
def tC (v : V) : TE := fun _ H Q => Q v H
theorem pe_var {i : Nat} {x : Str} {pos : Pos} (hN : X.N[i]? = some x) (hv : Vis X.env.scope x) (hd : (x == ("__debug__" : Str)) = false := by decide) (hcd : (x == ("__classdict__" : Str)) = false := by decide) : PE X (.Name x pos) (tVar i) := by
 intro pins s σ H Q I h
 obtain ⟨v,e,h⟩ := h
 obtain ⟨m,hn,hl⟩ := I.loc
 obtain ⟨u,r,l⟩ := hl i x v hN e hv
 have fin : EP X pins σ Q u s := ⟨v,H,I,r,h⟩
 rcases l with ⟨hk,hm⟩ | ⟨hk,c,hc,hcell⟩
 ·exact wpAny_Name (wpAny_loadName_local I.ok.kind hk hn hm fin) hd
 ·rcases hk with hk | hk
  ·exact wpAny_Name (wpAny_loadName_cell I.ok.kind hk hc hcell fin) hd
  ·exact wpAny_Name (wpAny_loadName_free I.ok.kind hk hc hcell fin hcd) hd
theorem pe_int {i j pos} : PE X (.Constant (.int i) j pos) (tC (.int i)) := fun _ _ _ H _ I h => wpAny_Constant_int ⟨.int i,H,I.tok _,⟨_,rfl⟩,h⟩
theorem pe_bl {b j pos} : PE X (.Constant (.bool b) j pos) (tC (.bl b)) := fun _ _ _ H _ I h => Constant_bool ⟨.bl b,H,I,rfl,h⟩
def Gl (X : Cx) (x : Str) : Prop := X.env.kindOf x = some .globalImplicit
theorem ld_glob {E : Value → Shared → Prop} {pins : List (Addr × Obj)} {s : Shared} {σ : St} {H : Hp} {x : Str} {u : Value} {pos : Pos} {Q : Value → Shared → Prop} (I : Inv X pins σ H s) (hg : Gl X x) (hm : X.mg x = some u) (h : Q u s)
  (hd : (x == ("__debug__" : Str)) = false := by decide) : wpAny (model X.prog X.w) X.A (eval (.Name x pos) X.env) Q E s :=
 Calls.Name_function_global I.ok.kind hg (Calls.loadGlobal_global (by rw [I.ok.glob]; exact I.mod.glob.keeps I.bk) hm h) hd
theorem ld_blt {E : Value → Shared → Prop} {pins : List (Addr × Obj)} {s : Shared} {σ : St} {H : Hp} {x : Str} {u : Value} {pos : Pos} {Q : Value → Shared → Prop} (I : Inv X pins σ H s) (hg : Gl X x) (hm : X.mg x = none) (hv : bootBuiltins x = some u) (h : Q u s)
  (hn : x ≠ "__name__" := by decide) (hd : (x == ("__debug__" : Str)) = false := by decide) : wpAny (model X.prog X.w) X.A (eval (.Name x pos) X.env) Q E s := by
 obtain ⟨mb,h1,h2⟩ := I.mod.blt
 exact Calls.Name_function_global I.ok.kind hg (Calls.loadGlobal_builtin (by rw [I.ok.glob]; exact I.mod.glob.keeps I.bk) hm (by rw [I.ok.blt]; exact h1.keeps I.bk) ((h2 x hn).trans hv) h) hd
theorem pe_glob {x : Str} {v : V} {u : Value} {pos : Pos} (hg : Gl X x) (hm : X.mg x = some u) (r : RelV v u) (hd : (x == ("__debug__" : Str)) = false := by decide) : PE X (.Name x pos) (tC v) :=
 fun _ _ _ H _ I h => ld_glob I hg hm ⟨v,H,I,r,h⟩ hd
variable {a b : Expr} {ta tb : TE} {pos : Pos}
def tB (t : TE) : TT := fun σ H Q => t σ H fun x H1 => ∃ c,x = .bl c ∧ Q c H1
theorem pt_val {e : Expr} {t : TE} (h : PE X e t) (he : ∀ whole,isTrue e X.env whole = (do let v ← whole; standAt e.pos; holding [v] (truthy v)) := by intro _; rfl) : PT X e (tB t) := by
 intro pins s σ H Q I hw
 refine isTrue_plain (thn (h pins s σ H _ I hw) fun v s1 ⟨x,H1,I1,r1,q1⟩ => ?_) (he _)
 obtain ⟨d,rfl,q⟩ := q1
 cases r1
 exact wpAny_truthy_bool ⟨H1,I1,q⟩
variable {tA tB' : TT} {rest : List Expr}
def tAnd (t u : TT) : TT := fun σ H Q => t σ H fun c H1 => if c = true then u σ H1 Q else Q false H1
def tOr (t u : TT) : TT := fun σ H Q => t σ H fun c H1 => if c = true then Q true H1 else u σ H1 Q
def tNot (t : TT) : TT := fun σ H Q => t σ H fun c H1 => Q (!c) H1
theorem pw_and1 (ha : PT X a tA) : PW X (.BoolOp .And [a] pos) tA := by
 intro wh pins s σ H Q I h
 refine isTrue_and (thn (ha pins s σ H Q I h) fun c s1 e => ?_)
 cases c with
 | true => exact isTrue_and_nil e
 | false => exact e
theorem pw_or1 (ha : PT X a tA) : PW X (.BoolOp .Or [a] pos) tA := by
 intro wh pins s σ H Q I h
 refine isTrue_or (thn (ha pins s σ H Q I h) fun c s1 e => ?_)
 cases c with
 | false => exact isTrue_or_nil e
 | true => exact e
theorem pw_and (ha : PT X a tA) (hb : PW X (.BoolOp .And (b :: rest) pos) tB') : PW X (.BoolOp .And (a :: b :: rest) pos) (tAnd tA tB') := by
 intro wh pins s σ H Q I h
 refine isTrue_and (thn (ha pins s σ H _ I h) fun c s1 ⟨H1,I1,q1⟩ => ?_)
 cases c with
 | true => exact hb wh pins s1 σ H1 Q I1 q1
 | false => exact ⟨H1,I1,q1⟩
theorem pw_or (ha : PT X a tA) (hb : PW X (.BoolOp .Or (b :: rest) pos) tB') : PW X (.BoolOp .Or (a :: b :: rest) pos) (tOr tA tB') := by
 intro wh pins s σ H Q I h
 refine isTrue_or (thn (ha pins s σ H _ I h) fun c s1 ⟨H1,I1,q1⟩ => ?_)
 cases c with
 | true => exact ⟨H1,I1,q1⟩
 | false => exact hb wh pins s1 σ H1 Q I1 q1
theorem pt_not (ha : PT X a tA) : PT X (.UnaryOp .Not a pos) (tNot tA) := by
 intro pins s σ H Q I h
 exact isTrue_not (ha pins s σ H (fun c H1 => Q (!c) H1) I h)
def tAndV (ta tb : TE) : TE := fun σ H Q => ta σ H fun x H1 => ∃ c,x = .bl c ∧ if c = true then tb σ H1 Q else Q (.bl false) H1
def tOrV (ta tb : TE) : TE := fun σ H Q => ta σ H fun x H1 => ∃ c,x = .bl c ∧ if c = true then Q (.bl true) H1 else tb σ H1 Q
def tNotV (ta : TE) : TE := fun σ H Q => ta σ H fun x H1 => ∃ c,x = .bl c ∧ Q (.bl (!c)) H1
theorem pe_one {op} {t : TE} (h : PE X a t) : PE X (.BoolOp op [a] pos) t := fun pins s σ H Q I hw => BoolOp_one (h pins s σ H Q I hw)
theorem pe_and (ha : PE X a ta) (hb : PE X (.BoolOp .And (b :: rest) pos) tb) : PE X (.BoolOp .And (a :: b :: rest) pos) (tAndV ta tb) := by
 intro pins s σ H Q I h
 refine BoolOp_and (thn (ha pins s σ H _ I h) fun v s1 ⟨x,H1,I1,r1,q1⟩ => ?_)
 obtain ⟨c,rfl,q1⟩ := q1
 cases r1
 refine wpAny_truthy_bool ?_
 cases c with
 | true => exact hb pins s1 σ H1 Q I1 q1
 | false => exact ⟨.bl false,H1,I1,rfl,q1⟩
theorem pe_or (ha : PE X a ta) (hb : PE X (.BoolOp .Or (b :: rest) pos) tb) : PE X (.BoolOp .Or (a :: b :: rest) pos) (tOrV ta tb) := by
 intro pins s σ H Q I h
 refine BoolOp_or (thn (ha pins s σ H _ I h) fun v s1 ⟨x,H1,I1,r1,q1⟩ => ?_)
 obtain ⟨c,rfl,q1⟩ := q1
 cases r1
 refine wpAny_truthy_bool ?_
 cases c with
 | false => exact hb pins s1 σ H1 Q I1 q1
 | true => exact ⟨.bl true,H1,I1,rfl,q1⟩
theorem pe_not (ha : PE X a ta) : PE X (.UnaryOp .Not a pos) (tNotV ta) := by
 intro pins s σ H Q I h
 refine UnaryOp_ (thn (ha pins s σ H _ I h) fun v s1 ⟨x,H1,I1,r1,q1⟩ => ?_)
 obtain ⟨c,rfl,q1⟩ := q1
 cases r1
 exact not_of (wpAny_truthy_bool ⟨.bl (!c),H1,I1,rfl,q1⟩)
def tIf (t : TT) (ta tb : TE) : TE := fun σ H Q => t σ H fun c H1 => if c = true then ta σ H1 Q else tb σ H1 Q
theorem pe_ifExp {c : Expr} (hc : PT X c tA) (ha : PE X a ta) (hb : PE X b tb) : PE X (.IfExp c a b pos) (tIf tA ta tb) := by
 intro pins s σ H Q I h
 refine wpAny_IfExp (thn (hc pins s σ H _ I h) fun d s1 ⟨H1,I1,q1⟩ => ?_)
 cases d with
 | true => exact ha pins s1 σ H1 Q I1 q1
 | false => exact hb pins s1 σ H1 Q I1 q1
end
end L2
namespace L2
open PySem PySem.Spec PyProof.Rows
def SqL (K : PySem.W.Frag) (H : Hp) (a : Addr) (xs : List V) : Prop :=
 Rd H a (.lst xs) ∨
  ∃ (o : Obj) (its : Array Value) (n : Nat),K.lookup a = some o ∧ o.cls = .type "list" ∧ o.dict = none ∧ o.data = .seq its n ∧ its.size ≤ sizeLine ∧ Vals xs its.toList
def SqT (K : PySem.W.Frag) (H : Hp) (a : Addr) (xs : List V) : Prop :=
 Rd H a (.tup xs) ∨
  ∃ (o : Obj) (its : Array Value) (n : Nat),K.lookup a = some o ∧ o.cls = .type "tuple" ∧ o.data = .seq its n ∧ its.size ≤ sizeLine ∧ Vals xs its.toList
def absV : Value → Option V
 | .none => some .non
 | .bool b => some (.bl b)
 | .int i _ => some (.int i)
 | .str x _ => some (.str x)
 | .bytes b _ => some (.byt b)
 | .float b _ => some (.flt b)
 | .ref a => some (.ref a)
 | .type n => some (.ty n)
 | _ => none
theorem RelV.abs {x : V} {u : Value} (r : RelV x u) : absV u = some x := by
 cases x with
 | non => cases r; rfl
 | bl _ => cases r; rfl
 | int _ => obtain ⟨t,rfl⟩ := r; rfl
 | str _ => obtain ⟨t,rfl⟩ := r; rfl
 | byt _ => obtain ⟨t,rfl⟩ := r; rfl
 | flt _ => obtain ⟨t,rfl⟩ := r; rfl
 | ref _ => cases r; rfl
 | ty _ => cases r; rfl
theorem RelV.inj {x y : V} {u : Value} (r : RelV x u) (q : RelV y u) : x = y := Option.some.inj (r.abs.symm.trans q.abs)
theorem Vals.inj : ∀ {xs ys : List V} {us : List Value},Vals xs us → Vals ys us → xs = ys
 | _,_,_,.nil,.nil => rfl
 | _,_,_,.cons r t,.cons r' t' => by rw [r.inj r',Vals.inj t t']
section
variable {X : Cx} {pins : List (Addr × Obj)} {σ : St} {H : Hp} {s : Shared} {a : Addr} {xs ys : List V}
theorem SqL.of {K : PySem.W.Frag} (h : H a = some (.lst xs)) : SqL K H a xs := .inl (.inl h)
theorem SqT.of {K : PySem.W.Frag} (h : H a = some (.tup xs)) : SqT K H a xs := .inl (.inl h)
theorem Inv.list (I : Inv X pins σ H s) (h : SqL X.K H a xs) : ∃ its : List Value,Vals xs its ∧ PlainL s.heap a its.toArray ∧ xs.length ≤ sizeLine := by
 rcases h with h | ⟨o,its,n,hk,hc,hd,hs,hz,r⟩
 ·obtain ⟨z,its,n,r,e⟩ := h.ok I.hok
  exact ⟨its,r,⟨_,n,e,rfl,rfl,rfl⟩,z⟩
 ·refine ⟨its.toList,r,⟨o,n,I.kIn a o hk,hc,hd,by simpa using hs⟩,?_⟩
  have e := r.length
  simp only [Array.length_toList] at e
  omega
theorem Inv.tuple (I : Inv X pins σ H s) (h : SqT X.K H a xs) : ∃ its : List Value,Vals xs its ∧ IsTup s.heap a its.toArray ∧ xs.length ≤ sizeLine := by
 rcases h with h | ⟨o,its,n,hk,hc,hs,hz,r⟩
 ·obtain ⟨z,its,r,p⟩ := h.ok I.hok
  exact ⟨its,r,p,z⟩
 ·refine ⟨its.toList,r,⟨o,I.kIn a o hk,hc,n,by simpa using hs⟩,?_⟩
  have e := r.length
  simp only [Array.length_toList] at e
  omega
theorem Inv.list_inj (I : Inv X pins σ H s) (h : SqL X.K H a xs) (h' : SqL X.K H a ys) : xs = ys := by
 obtain ⟨its,r,⟨o,n,e,_,_,d⟩,_⟩ := I.list h
 obtain ⟨its',r',⟨o',n',e',_,_,d'⟩,_⟩ := I.list h'
 rw [e] at e'; cases e'
 rw [d] at d'
 injection d' with d1 _
 have : its = its' := by simpa using congrArg Array.toList d1
 subst this
 exact r.inj r'
end
abbrev Cx.wish (X : Cx) (E : Value → Shared → Prop) : Cx := { X with xe := E }
abbrev Cx.nox (X : Cx) : Cx := X.wish fun _ _ => False
theorem Cx.Ok.wish {X : Cx} (ok : X.Ok) (E : Value → Shared → Prop) : (X.wish E).Ok :=
 ⟨ok.mod,ok.kind,ok.glob,ok.blt,ok.above,ok.inj,ok.has,ok.cab,ok.hd,ok.frames,ok.stk,ok.exf,ok.bs,ok.bsz,ok.noex,ok.exfs,ok.funs,ok.frf⟩
theorem Cx.Ok.unwish {X : Cx} {E : Value → Shared → Prop} (ok : (X.wish E).Ok) : X.Ok :=
 ⟨ok.mod,ok.kind,ok.glob,ok.blt,ok.above,ok.inj,ok.has,ok.cab,ok.hd,ok.frames,ok.stk,ok.exf,ok.bs,ok.bsz,ok.noex,ok.exfs,ok.funs,ok.frf⟩
section
variable {X : Cx} {pins : List (Addr × Obj)} {σ : St} {H : Hp} {s : Shared} {E : Value → Shared → Prop}
theorem Inv.wish (I : Inv X pins σ H s) (E : Value → Shared → Prop) : Inv (X.wish E) pins σ H s := ⟨I.ok.wish E,I.os,I.bare,I.base,I.loc,I.cell,I.free,I.freeC,I.pin,I.hok,I.len⟩
theorem Inv.unwish (I : Inv (X.wish E) pins σ H s) : Inv X pins σ H s := ⟨I.ok.unwish,I.os,I.bare,I.base,I.loc,I.cell,I.free,I.freeC,I.pin,I.hok,I.len⟩
theorem SP.unwish {D : Ends} {f : Flow} {s' : Shared} (h : SP (X.wish E) pins D f s') : SP X pins D f s' := by
 cases f with
 | next => obtain ⟨σ',H',I,q⟩ := h; exact ⟨σ',H',I.unwish,q⟩
 | brk => obtain ⟨σ',H',I,q⟩ := h; exact ⟨σ',H',I.unwish,q⟩
 | cont => obtain ⟨σ',H',I,q⟩ := h; exact ⟨σ',H',I.unwish,q⟩
 | ret u => obtain ⟨v,σ',H',I,r,q⟩ := h; exact ⟨v,σ',H',I.unwish,r,q⟩
theorem PSs.nox {st : List Stmt} {t : TS} (h : PSs X.nox st t) : PSs X st t := fun pins s σ H D I hw =>
 wpAny_mono (h pins s σ H D (I.wish _) hw) (fun _ _ q => q.unwish) fun _ _ z => False.elim z
end
section
variable {X : Cx} {st : Stmt} {rest : List Stmt} {t u : TS} {e : Expr} {te : TE} {pos : Pos}
def tNext : TS := fun D σ H => D.nx σ H
def tSeq (t u : TS) : TS := fun D σ H => t { D with nx := u D } σ H
theorem pss_nil : PSs X [] tNext := fun _ _ σ H _ I h => wpAny_execs_nil ⟨σ,H,I,h⟩
theorem pss_cons (h1 : PS X st t) (h2 : PSs X rest u) : PSs X (st :: rest) (tSeq t u) := by
 intro pins s σ H D I h
 refine wpAny_execs_cons (thn (h1 pins s σ H { D with nx := u D } I h) fun f s1 q => ?_)
 cases f with
 | next =>
  obtain ⟨σ',H',I',q⟩ := q
  exact h2 pins s1 σ' H' D I' q
 | ret v => exact q
 | brk => exact q
 | cont => exact q
theorem pss_one (h1 : PS X st t) : PSs X [st] t := by
 intro pins s σ H D I h
 refine wpAny_execs_cons (thn (h1 pins s σ H D I h) fun f s1 q => ?_)
 cases f with
 | next => exact wpAny_execs_nil q
 | ret v => exact q
 | brk => exact q
 | cont => exact q
theorem Inv.quiet {pins : List (Addr × Obj)} {σ : St} {H : Hp} {s : Shared} (I : Inv X pins σ H s) : interactive X.env = false := by simp [interactive,I.ok.kind]
def tDrop (te : TE) : TS := fun D σ H => te σ H fun _ H1 => D.nx σ H1
theorem ps_expr (he : PE X e te) (hs : swapsWith e none pos.line X.env = pure false := by rfl) : PS X (.Expr e pos) (tDrop te) := by
 intro pins s σ H D I h
 exact wpAny_Expr_any (thn (he pins s σ H _ I h) fun v s1 ⟨x,H1,I1,r1,q1⟩ => ⟨σ,H1,I1,q1⟩) I.quiet hs
def tRet (te : TE) : TS := fun D σ H => te σ H D.rt
theorem ps_ret (he : PE X e te) : PS X (.Return (some e) pos) (tRet te) := by
 intro pins s σ H D I h
 exact wpAny_Return_some (thn (he pins s σ H _ I h) fun v s1 ⟨x,H1,I1,r1,q1⟩ => ⟨x,σ,H1,I1,r1,q1⟩)
def tIfS (c : TT) (t u : TS) : TS := fun D σ H => c σ H fun b H1 => if b = true then t D σ H1 else u D σ H1
theorem ps_if {c : Expr} {a b : List Stmt} {tc : TT} (hc : PT X c tc) (ha : PSs X a t) (hb : PSs X b u) : PS X (.If c a b pos) (tIfS tc t u) := by
 intro pins s σ H D I h
 refine wpAny_If (thn (hc pins s σ H _ I h) fun d s1 ⟨H1,I1,q1⟩ => ?_)
 cases d with
 | true => exact ha pins s1 σ H1 D I1 q1
 | false => exact hb pins s1 σ H1 D I1 q1
end
abbrev TG := V → St → Hp → (St → Hp → Prop) → Prop
def PG (X : Cx) (target : Expr) (t : TG) : Prop :=
 ∀ (pins : List (Addr × Obj)) (s : Shared) (σ : St) (H : Hp) (v : V) (u : Value) (Q : St → Hp → Prop),Inv X pins σ H s → RelV v u → t v σ H Q →
  wpAny (model X.prog X.w) X.A (assign target X.env u) (fun _ s' => ∃ σ' H',Inv X pins σ' H' s' ∧ Q σ' H') X.xe s
abbrev TSet := V → V → V → Hp → (Hp → Prop) → Prop
def PSet (X : Cx) (t : TSet) : Prop :=
 ∀ (pins : List (Addr × Obj)) (s : Shared) (σ : St) (H : Hp) (o i v : V) (ov iv u : Value) (Q : Hp → Prop),Inv X pins σ H s → RelV o ov → RelV i iv → RelV v u → t o i v H Q →
  wpAny (model X.prog X.w) X.A (setItem ov iv u) (fun _ s' => ∃ H',Inv X pins σ H' s' ∧ Q H') X.xe s
section
variable {X : Cx} {pos : Pos}
def gName (i : Nat) : TG := fun v σ H Q => Q (σ.set i (some v)) H
theorem pg_name {i : Nat} {x : Str} (hN : X.N.Nodup) (hi : X.N[i]? = some x) (hx : Loc X.env.scope x) (hf : X.fn x = true ∨ X.env.scope.names.lookup x = some .local := by first | exact .inl rfl | exact .inr rfl | assumption) : PG X (.Name x pos) (gName i) := by
 intro pins s σ H v u Q I r h
 exact wpAny_assign_Name (store_ok I hN hi hx r (fun s' I' => ⟨_,H,I',h⟩) hf)
def gSub (to ti : TE) (t : TSet) : TG := fun v σ H Q => to σ H fun o H1 => ti σ H1 fun i H2 => t o i v H2 fun H3 => Q σ H3
theorem pg_sub {o i : Expr} {to ti : TE} {t : TSet} (ho : PE X o to) (hi : PE X i ti) (hs : PSet X t)
  (ha : ∀ v,assign (.Subscript o i pos) X.env v = (do
   let ov ← holding [v] (eval o X.env)
   let iv ← holding [v,ov] (eval i X.env)
   standAt pos
   holding [v,ov,iv] (setItem ov iv v)
   release [v,ov,iv] []) := by intro _; rfl) : PG X (.Subscript o i pos) (gSub to ti t) := by
 intro pins s σ H v u Q I r h
 rw [ha]
 refine wpAny_bind (wpAny_holding (thn (ho pins s σ H _ I h) fun ov s1 ⟨x,H1,I1,r1,q1⟩ => ?_))
 refine wpAny_bind (wpAny_holding (thn (hi pins s1 σ H1 _ I1 q1) fun iv s2 ⟨y,H2,I2,r2,q2⟩ => ?_))
 refine wpAny_bind (wpAny_standAt (wpAny_bind (wpAny_holding (thn (hs pins s2 σ H2 x y v ov iv u _ I2 r1 r2 r q2) fun _ s3 ⟨H3,I3,q3⟩ => ?_))))
 exact wpAny_release ⟨σ,H3,I3,q3⟩
def tAsg (te : TE) (g : TG) : TS := fun D σ H => te σ H fun x H1 => g x σ H1 D.nx
theorem ps_asg {tg e : Expr} {te : TE} {g : TG} (he : PE X e te) (hg : PG X tg g) (hs : swapsWithSole [tg] e pos.line X.env = pure false := by rfl) (hw : swappedStores [tg] e X.env = pure none := by rfl)
  (h1 : (assignEach [tg] X.env).map (·.2) = [assign tg X.env] := by rfl) : PS X (.Assign [tg] e pos) (tAsg te g) := by
 intro pins s σ H D I h
 refine wpAny_Assign_stores (thn (he pins s σ H _ I h) fun v s1 ⟨x,H1,I1,r1,q1⟩ => ?_) hs hw
 rw [h1]
 exact thn (hg pins s1 σ H1 x v _ I1 r1 q1) fun _ s2 q => q
theorem ps_set {i : Nat} {x : Str} {e : Expr} {te : TE} {pos' : Pos} (hN : X.N.Nodup) (hi : X.N[i]? = some x) (hx : Loc X.env.scope x) (he : PE X e te) (hs : swapsWith e (some (.Name x pos')) pos.line X.env = pure false := by rfl) (hf : X.fn x = true ∨ X.env.scope.names.lookup x = some .local := by first | exact .inl rfl | exact .inr rfl | assumption) :
  PS X (.Assign [.Name x pos'] e pos) (tAsg te (gName i)) := by
 intro pins s σ H D I h
 refine wpAny_Assign_Name (thn (he pins s σ H _ I h) fun v s1 ⟨y,H1,I1,r1,q1⟩ => ?_) hs
 exact store_ok I1 hN hi hx r1 (fun s2 I2 => ⟨_,H1,I2,q1⟩) hf
end
section
variable {X : Cx} {pos : Pos}
def tWhile (c : TT) (tb : TS) : TS := fun D σ H => ∃ W : Nat → St → Hp → Prop,(∃ m,W m σ H) ∧ ∀ m σ H,W m σ H →
 c σ H fun b H1 => if b = true then ∃ N : St → Hp → Prop,(∀ σ' H',N σ' H' → ∃ m',m' < m ∧ W m' σ' H') ∧ tb { D with nx := N,ct := N,bk := D.nx } σ H1 else D.nx σ H1
theorem ps_while {c : Expr} {body : List Stmt} {tc : TT} {tb : TS} (hp : PassesOwn (model X.prog X.w) X.A X.env X.xe) (hc : PT X c tc) (hb : PSs X body tb) : PS X (.While c body [] pos) (tWhile tc tb) := by
 intro pins s σ H D I h
 obtain ⟨W,⟨m0,w0⟩,turn⟩ := h
 refine wpAny_While (codeAny_whileLoop (fun n s' => ∃ σ' H',Inv X pins σ' H' s' ∧ W n σ' H') ?_ m0 ⟨σ,H,I,w0⟩)
 rintro n s1 ⟨σ1,H1,I1,w1⟩
 refine wpAny_passesOwn hp (thn (hc pins s1 σ1 H1 _ I1 (turn n σ1 H1 w1)) fun b s2 ⟨H2,I2,q2⟩ => ?_)
 cases b with
 | true =>
  obtain ⟨N,hN,q2⟩ := q2
  rw [if_pos rfl]
  refine wpAny_passesOwn hp (thn (hb pins s2 σ1 H2 _ I2 q2) fun f s3 q3 => ?_)
  cases f with
  | next =>
   obtain ⟨σ3,H3,I3,n3⟩ := q3
   obtain ⟨m',hm,w3⟩ := hN σ3 H3 n3
   exact ⟨m',hm,σ3,H3,I3,w3⟩
  | cont =>
   obtain ⟨σ3,H3,I3,n3⟩ := q3
   obtain ⟨m',hm,w3⟩ := hN σ3 H3 n3
   exact ⟨m',hm,σ3,H3,I3,w3⟩
  | brk => exact q3
  | ret v => exact q3
 | false =>
  rw [if_neg Bool.false_ne_true]
  exact wpAny_execs_nil ⟨σ1,H2,I2,q2⟩
end
structure It where
 go : Nat → Hp → Prop
 yld : Nat → Hp → V → Hp → Prop
 stop : Nat → Hp → Prop
def FpOk (X : Cx) (pins : List (Addr × Obj)) (H : Hp) (b : Addr) : Prop :=
 H b = none ∧ b ≠ X.env.locals ∧ b ∉ X.fs ∧ (b ∈ X.ex ∨ X.s_0.heap.objs.size ≤ b) ∧ (∀ x c,X.env.cells.lookup x = some c → c ≠ b) ∧ ∀ p ∈ X.pn ++ pins,p.1 ≠ b
theorem Inv.fpOk {X : Cx} {pins : List (Addr × Obj)} {σ : St} {H H' : Hp} {s : Shared} {b : Addr} (I : Inv X pins σ H s) (hb : s.heap.objs.size ≤ b) (hn : H' b = none) : FpOk X pins H' b := by
 refine ⟨hn,Nat.ne_of_gt (Nat.lt_of_lt_of_le I.lt hb),I.nofs hb,.inr (Nat.le_trans I.sz hb),fun x c e z => ?_,fun p hp z => ?_⟩
 ·obtain ⟨v,q⟩ := I.cell x c e
  exact absurd (Nat.lt_of_lt_of_le q.lt (by rw [z]; exact hb)) (Nat.lt_irrefl _)
 ·exact absurd (Nat.lt_of_lt_of_le (Heap.lt_size (I.pin p hp).1) (by rw [z]; exact hb)) (Nat.lt_irrefl _)
structure Turn (P : Program) (w : World) (K : PySem.W.Frag) (tg : Expr) (J : It) (fp : List Addr) (it : Addr) (tn : Nat → Heap → Prop) : Prop where
 mem : it ∈ fp
 obj : ∀ i h,tn i h → ∀ b ∈ fp,∃ o,h.get? b = some o ∧ ∀ v,o.data ≠ .cell v
 keep : ∀ i h h',tn i h → (∀ b ∈ fp,∀ o,h.get? b = some o → h'.get? b = some o) → tn i h'
 item : ∀ (X : Cx),X.prog = P → X.w = w → X.K = K → X.calm = true → ∀ (i : Nat) (pins : List (Addr × Obj)) (s : Shared) (σ : St) (H : Hp) (E : Value → Shared → Prop),Inv X pins σ H s → (∀ b ∈ fp,FpOk X pins H b) → tn i s.heap → J.go i H →
  wpAny (model P w) X.A (pyNext (.ref it)) (fun r s1 => ∃ u,r = some u ∧
   wpAny (model P w) X.A (letOwnedTupleGo tg (.ref it) u) (fun _ s2 => ∃ x H',Inv X pins σ H' s2 ∧ RelV x u ∧ J.yld i H x H' ∧ tn (i + 1) s2.heap ∧ ∀ b ∈ fp,H' b = none) E s1) E s
 done : ∀ (X : Cx),X.prog = P → X.w = w → X.K = K → X.calm = true → ∀ (i : Nat) (pins : List (Addr × Obj)) (s : Shared) (σ : St) (H : Hp) (E : Value → Shared → Prop),Inv X pins σ H s → (∀ b ∈ fp,FpOk X pins H b) → tn i s.heap → J.stop i H →
  wpAny (model P w) X.A (pyNext (.ref it)) (fun r s1 => r = none ∧ Inv X pins σ H s1) E s
 self : ∀ (A : Around) (i : Nat) (s : Shared) (Q : Value → Shared → Prop) (E : Value → Shared → Prop),tn i s.heap → Q (.ref it) s → wpAny (model P w) A (pyIter (.ref it)) Q E s
abbrev TI := St → Hp → (It → Hp → Prop) → Prop
def PIE (X : Cx) (pins : List (Addr × Obj)) (σ : St) (tg : Expr) (R : It → Hp → Prop) (itv : Value) (s2 : Shared) : Prop :=
 ∃ (it : Addr) (fp : List Addr) (tn : Nat → Heap → Prop) (J : It) (H' : Hp),itv = .ref it ∧ Inv X pins σ H' s2 ∧ Turn X.prog X.w X.K tg J fp it tn ∧ tn 0 s2.heap ∧ (∀ b ∈ fp,FpOk X pins H' b) ∧ R J H'
def PI (X : Cx) (tg iter : Expr) (wi : TI) : Prop :=
 ∀ (pins : List (Addr × Obj)) (s : Shared) (σ : St) (H : Hp) (R : It → Hp → Prop),Inv X pins σ H s → wi σ H R →
  wpAny (model X.prog X.w) X.A (eval iter X.env) (fun v s1 => wpAny (model X.prog X.w) X.A (pyIter v) (PIE X pins σ tg R) X.xe s1) X.xe s
theorem go_of {M : Model} {A : Around} {E : Value → Shared → Prop} {s : Shared} {tg : Expr} {it : Addr} {u : Value} {o : Obj} {n : String} {vs : Array Value} {Q : Unit → Shared → Prop} (ho : s.heap.get? it = some o) (hc : o.cls = .type n) (hd : o.data = .fields vs)
  (hn : ["enumerate","zip","dict_itemiterator","dict_reverseitemiterator","odict_iterator","itertools.zip_longest","itertools.pairwise"].contains n = false) (hQ : Q () s) : wpAny M A (letOwnedTupleGo tg (.ref it) u) Q E s := by
 unfold letOwnedTupleGo
 cases tg <;> first
  | exact wpAny_pure hQ
  | (cases u <;> first
    | exact wpAny_pure hQ
    | (refine wpAny_bind (wpAny_load ho ?_)
       rw [hc,hd]
       show wpAny M A (if (["enumerate","zip","dict_itemiterator","dict_reverseitemiterator","odict_iterator","itertools.zip_longest","itertools.pairwise"].contains n && vs[0]? == some (rawInt _)) = true then _ else _) Q E s
       rw [if_neg (by intro h; rw [hn,Bool.false_and] at h; cases h)]
       exact wpAny_pure hQ))
def Itl (K : PySem.W.Frag) (a : Addr) : It :=
 ⟨fun i H => ∃ xs x,SqL K H a xs ∧ xs[i]? = some x,fun i H x H' => H' = H ∧ ∀ xs,SqL K H a xs → xs[i]? = some x,fun i H => ∃ xs,SqL K H a xs ∧ xs.length ≤ i⟩
def Itr (lo : Int) (n : Nat) : It := ⟨fun i _ => i < n,fun i H x H' => H' = H ∧ x = .int (lo + i),fun i _ => n ≤ i⟩
theorem turn_list {P : Program} {w : World} {K : PySem.W.Frag} {tg : Expr} (a it : Addr) : Turn P w K tg (Itl K a) [it] it (fun i h => h.IsListIter it a i) where
 mem := by simp
 obj := fun i h st b hb => by
  have e : b = it := by simpa using hb
  subst e
  obtain ⟨o,e,c,d⟩ := st
  exact ⟨o,e,fun v z => by rw [d] at z; cases z⟩
 keep := fun i h h' st k => st.at fun o e => k it (by simp) o e
 item := by
  intro X hP hw hK hc i pins s σ H E I hf st hg
  subst hP hw hK
  obtain ⟨xs,x,hq,hx⟩ := hg
  obtain ⟨its,rv,p,hz⟩ := I.list hq
  obtain ⟨u,hu,ru⟩ := rv.get hx
  obtain ⟨f0,f1,f2,f3,f4,f5⟩ := hf it (by simp)
  refine wpAny_pyNext_list_item st p.isList (x := u) (by simpa using hu) fun h' st' sb => ?_
  have I1 : Inv X pins σ H { s with heap := h' } := I.turned (t' := s.toks) (fun b o hb e => (sb.2 b hb).trans e) f0 f1 f3 f4 f5
  obtain ⟨o,e,c,d⟩ := id st'
  exact ⟨u,rfl,go_of (s := { s with heap := h' }) e c d (by decide) ⟨x,H,I1,ru,⟨rfl,fun ys hy => by rw [I.list_inj hy hq]; exact hx⟩,st',fun b hb => (hf b hb).1⟩⟩
 done := by
  intro X hP hw hK hc i pins s σ H E I hf st hg
  subst hP hw hK
  obtain ⟨xs,hq,hx⟩ := hg
  obtain ⟨its,rv,p,hz⟩ := I.list hq
  obtain ⟨f0,f1,f2,f3,f4,f5⟩ := hf it (by simp)
  have hl := rv.length
  exact wpAny_pyNext_list_end (I.ok.hd hc) st p.isList (by simp; omega) fun h' eb => ⟨rfl,I.turned (t' := s.toks) (fun b o hb e => eb b o hb e) f0 f1 f3 f4 f5⟩
 self := fun _ _ _ _ _ st h => wpAny_pyIter_listiter st h
theorem turn_range {P : Program} {w : World} {K : PySem.W.Frag} {tg : Expr} (it : Addr) (lo : Int) (n : Nat) : Turn P w K tg (Itr lo n) [it] it (fun i h => IsRangeIter h it (lo + (i : Nat) * 1) ((n : Int) - (i : Nat)) 1) where
 mem := by simp
 obj := fun i h st b hb => by
  have e : b = it := by simpa using hb
  subst e
  exact ⟨_,st,fun v z => by
   have z' : Data.fields _ = Data.cell v := z
   cases z'⟩
 keep := fun i h h' st k => k it (by simp) _ st
 item := by
  intro X hP hw hK hc i pins s σ H E I hf st hg
  subst hP hw hK
  obtain ⟨f0,f1,f2,f3,f4,f5⟩ := hf it (by simp)
  have W := Walks.range (prog := X.prog) (w := X.w) (I.ok.hd hc) it lo 1 n
  refine W.item i s _ _ hg st fun v h' tk hv st' kk => ?_
  obtain ⟨t,rfl⟩ := hv
  have I1 : Inv X pins σ H { s with heap := h',toks := tk } := I.turned (fun b o hb e => kk b o (by simpa using hb) e) f0 f1 f3 f4 f5
  refine ⟨_,rfl,go_of (s := { s with heap := h',toks := tk }) (n := "range_iterator") st' rfl rfl (by decide) ⟨.int (lo + i),H,I1,⟨t,?_⟩,⟨rfl,rfl⟩,st',fun b hb => (hf b hb).1⟩⟩
  rw [Int.mul_one]
 done := by
  intro X hP hw hK hc i pins s σ H E I hf st hg
  subst hP hw hK
  obtain ⟨f0,f1,f2,f3,f4,f5⟩ := hf it (by simp)
  exact wpAny_pyNext_range_end (I.ok.hd hc) st (by have : n ≤ i := hg; omega) fun h' eb => ⟨rfl,I.turned (t' := s.toks) (fun b o hb e => eb b o hb e) f0 f1 f3 f4 f5⟩
 self := fun _ _ _ _ _ st h => wpAny_pyIter_rangeiter st h
end L2
namespace L2
open PySem PySem.Spec PyProof.Rows
section
variable {X : Cx} {tg : Expr}
def iList (K : PySem.W.Frag) (tl : TE) : TI := fun σ H R => tl σ H fun x H1 => ∃ a,x = .ref a ∧ (∃ xs,SqL K H1 a xs) ∧ R (Itl K a) H1
theorem pi_list {l : Expr} {tl : TE} (hl : PE X l tl) : PI X tg l (iList X.K tl) := by
 intro pins s σ H R I h
 refine thn (hl pins s σ H _ I h) fun v s1 ⟨x,H1,I1,r1,q1⟩ => ?_
 obtain ⟨a,e,⟨xs,hq⟩,q⟩ := q1
 subst e
 cases r1
 obtain ⟨its,rv,p,hz⟩ := I1.list hq
 refine wpAny_pyIter_list p.isList ?_
 refine ⟨s1.heap.objs.size,[s1.heap.objs.size],_,_,H1,rfl,I1.kept (t' := s1.toks) fun b o e => Heap.get?_push_of_some _ e,turn_list a _,⟨_,Heap.get?_push_size _ rfl,rfl,rfl⟩,fun b hb => ?_,q⟩
 have e : b = s1.heap.objs.size := by simpa using hb
 subst e
 exact I1.fpOk (Nat.le_refl _) (I1.hok.fresh (Nat.le_refl _))
theorem range_it {pins : List (Addr × Obj)} {σ : St} {H : Hp} {s : Shared} {R : It → Hp → Prop} {E : Value → Shared → Prop} {lo hi : Int} {t u v : Tok} {tk : Nat} (I : Inv X pins σ H s) (h1 : -(2 ^ 62) ≤ lo) (h2 : lo < 2 ^ 62) (h3 : -(2 ^ 62) ≤ hi) (h4 : hi < 2 ^ 62)
  (q : R (Itr lo (hi - lo).toNat) H) : wpAny (model X.prog X.w) X.A (pyIter (.ref s.heap.objs.size)) (PIE X pins σ tg R) E { s with heap := s.heap.push { cls := .type "range",data := .fields #[.int lo t,.int hi u,.int 1 v] },toks := tk } := by
 refine wpAny_pyIter_range (IsRange.new ..) (small_one h1 h2 h3 h4) ?_
 have I1 : Inv X pins σ H { s with heap := s.heap.push { cls := .type "range",data := .fields #[.int lo t,.int hi u,.int 1 v] },toks := tk } := I.kept fun b o e => Heap.get?_push_of_some _ e
 refine ⟨(s.heap.push { cls := .type "range",data := .fields #[.int lo t,.int hi u,.int 1 v] }).objs.size,[(s.heap.push { cls := .type "range",data := .fields #[.int lo t,.int hi u,.int 1 v] }).objs.size],_,_,H,rfl,
  I1.kept (t' := tk) fun b o e => Heap.get?_push_of_some _ e,turn_range _ lo (hi - lo).toNat,?_,fun b hb => ?_,q⟩
 ·have e1 : lo + ((0 : Nat) : Int) * 1 = lo := by simp
  have e2 : (((hi - lo).toNat : Nat) : Int) - ((0 : Nat) : Int) = Builtin.Range.rangeSize lo hi 1 := by rw [rangeSize_one]; split <;> omega
  show IsRangeIter _ _ (lo + ((0 : Nat) : Int) * 1) ((((hi - lo).toNat : Nat) : Int) - ((0 : Nat) : Int)) 1
  rw [e1,e2]
  exact Heap.get?_push_size _ rfl
 ·have e : b = (s.heap.push { cls := .type "range",data := .fields #[.int lo t,.int hi u,.int 1 v] }).objs.size := by simpa using hb
  subst e
  exact I1.fpOk (Nat.le_refl _) (I1.hok.fresh (Nat.le_refl _))
def iRng1 (ta : TA) : TI := fun σ H R => ta σ H fun vs H1 => ∃ j : Int,vs = [.int j] ∧ -(2 ^ 62) ≤ j ∧ j < 2 ^ 62 ∧ R (Itr 0 j.toNat) H1
theorem pi_range1 {a : Expr} {ta : TA} {p pos : Pos} (hg : Gl X "range") (hm : X.mg "range" = none) (ha : PA X [a] ta) (hs : starEach [a] X.env = [(false,eval a X.env)] := by rfl) : PI X tg (.Call (.Name "range" p) [a] [] pos) (iRng1 ta) := by
 intro pins s σ H R I h
 refine Call_ (ld_blt I hg hm boot_range (PyProof.Rows.callWith_type1 (thn (ha pos pins s σ H _ I h) fun us s1 ⟨vs,H1,I1,r1,q1⟩ => ?_) hs rfl))
 obtain ⟨j,e,q1,q2,q⟩ := q1
 subst e
 cases r1 with
 | cons r rr =>
  cases rr
  obtain ⟨t,rfl⟩ := r
  exact call_range_1 (range_it I1 (by omega) (by omega) q1 q2 (by simpa using q))
def tFor (wi : TI) (g : TG) (tb : TS) : TS := fun D σ H => wi σ H fun J H1 => ∃ W : Nat → Nat → St → Hp → Prop,(∃ m,W 0 m σ H1) ∧ ∀ i m σ H,W i m σ H →
 (J.stop i H ∧ D.nx σ H) ∨ (J.go i H ∧ ∃ N : St → Hp → Prop,(∀ σ' H',N σ' H' → ∃ m',m' < m ∧ W (i + 1) m' σ' H') ∧ ∀ x H',J.yld i H x H' → g x σ H' fun σ2 H2 => tb { D with nx := N,ct := N,bk := D.nx } σ2 H2)
def pinsAt (fp : List Addr) (h : Heap) : List (Addr × Obj) := fp.filterMap fun b => (h.get? b).map fun o => (b,o)
theorem mem_pinsAt {fp : List Addr} {h : Heap} {b : Addr} {o : Obj} (hb : b ∈ fp) (e : h.get? b = some o) : (b,o) ∈ pinsAt fp h := List.mem_filterMap.mpr ⟨b,hb,by rw [e]; rfl⟩
theorem of_pinsAt {fp : List Addr} {h : Heap} {p : Addr × Obj} (hp : p ∈ pinsAt fp h) : p.1 ∈ fp ∧ h.get? p.1 = some p.2 := by
 obtain ⟨b,hb,e⟩ := List.mem_filterMap.mp hp
 cases q : h.get? b with
 | none => rw [q] at e; cases e
 | some o =>
  rw [q] at e
  have e' : (b,o) = p := Option.some.inj e
  subst e'
  exact ⟨hb,q⟩
theorem Inv.pinned {pins : List (Addr × Obj)} {σ : St} {H : Hp} {s : Shared} {fp : List Addr} (I : Inv X pins σ H s) (hf : ∀ b ∈ fp,FpOk X pins H b) (ho : ∀ b ∈ fp,∃ o,s.heap.get? b = some o ∧ ∀ v,o.data ≠ .cell v) : Inv X (pins ++ pinsAt fp s.heap) σ H s :=
 I.pins_of fun p hp => (List.mem_append.mp hp).elim (fun z => I.pin p (List.mem_append_right _ z)) fun z => by
  obtain ⟨hb,e⟩ := of_pinsAt z
  obtain ⟨f0,f1,f2,_⟩ := hf p.1 hb
  obtain ⟨o,e',d⟩ := ho p.1 hb
  rw [e] at e'; cases e'
  exact ⟨e,f0,f1,f2,d⟩
theorem Inv.unpinned {pins pl : List (Addr × Obj)} {σ : St} {H : Hp} {s : Shared} (I : Inv X (pins ++ pl) σ H s) : Inv X pins σ H s := I.pins_of fun p hp => I.pin p (List.mem_append_right _ (List.mem_append_left _ hp))
theorem ps_for {iter : Expr} {body : List Stmt} {wi : TI} {g : TG} {tb : TS} {pos : Pos} (hp : PassesOwn (model X.prog X.w) X.A X.env X.xe) (hc : X.calm = true) (hi : PI X tg iter wi) (hg : PG X tg g) (hb : PSs X body tb)
  (hs : ∀ x,foldedSetIterable iter X.env x = pure x := by intro _; rfl) : PS X (.For tg iter body [] pos) (tFor wi g tb) := by
 intro pins s σ H D I h
 refine wpAny_For (thn (hi pins s σ H _ I h) fun v s1 h1 => thn h1 fun itv s2 h2 => ?_) hs
 obtain ⟨it,fp,tn,J,H2,e,I2,T,st2,f2,W,⟨m0,w0⟩,turn⟩ := h2
 subst e
 have stat : ∀ {H' : Hp},(∀ b ∈ fp,H' b = none) → ∀ b ∈ fp,FpOk X pins H' b := fun hn b hb => ⟨hn b hb,(f2 b hb).2⟩
 refine codeAny_forLoop_any (fun n s' => ∃ i σ' H',Inv X pins σ' H' s' ∧ tn i s'.heap ∧ (∀ b ∈ fp,H' b = none) ∧ W i n σ' H') ?_ m0 ⟨0,σ,H2,I2,st2,fun b hb => (f2 b hb).1,w0⟩
 rintro n s3 ⟨i,σ3,H3,I3,st3,fr3,w3⟩
 rcases turn i n σ3 H3 w3 with ⟨stop,qn⟩ | ⟨go,N,hN,step⟩
 ·refine wpAny_passesOwn hp (thn (T.done X rfl rfl rfl hc i pins s3 σ3 H3 X.xe I3 (stat fr3) st3 stop) fun r s4 ⟨hr,I4⟩ => ?_)
  subst hr
  exact wpAny_execs_nil ⟨σ3,H3,I4,qn⟩
 ·refine wpAny_passesOwn hp (thn (T.item X rfl rfl rfl hc i pins s3 σ3 H3 X.xe I3 (stat fr3) st3 go) fun r s4 ⟨u,hr,h4⟩ => ?_)
  subst hr
  refine wpAny_passesOwn hp (thn h4 fun _ s5 ⟨x,H5,I5,r5,y5,st5,fr5⟩ => ?_)
  have I5' := I5.pinned (stat fr5) (T.obj _ _ st5)
  refine wpAny_passesOwn hp (thn (hg _ s5 σ3 H5 x u _ I5' r5 (step x H5 y5)) fun _ s6 ⟨σ6,H6,I6,q6⟩ => ?_)
  refine wpAny_passesOwn hp (thn (hb _ s6 σ6 H6 _ I6 q6) fun f s7 q7 => ?_)
  have again : ∀ {σ7 : St} {H7 : Hp},Inv X (pins ++ pinsAt fp s5.heap) σ7 H7 s7 → N σ7 H7 → ∃ m,m < n ∧ ∃ i σ' H',Inv X pins σ' H' s7 ∧ tn i s7.heap ∧ (∀ b ∈ fp,H' b = none) ∧ W i m σ' H' := fun {σ7 H7} I7 n7 => by
   obtain ⟨m',hm,w7⟩ := hN σ7 H7 n7
   refine ⟨m',hm,i + 1,σ7,H7,I7.unpinned,T.keep _ _ _ st5 fun b hb o e => (I7.pin (b,o) (List.mem_append_right _ (List.mem_append_right _ (mem_pinsAt hb e)))).1,fun b hb => ?_,w7⟩
   obtain ⟨o,e,d⟩ := T.obj _ _ st5 b hb
   exact (I7.pin (b,o) (List.mem_append_right _ (List.mem_append_right _ (mem_pinsAt hb e)))).2.1
  cases f with
  | next => obtain ⟨σ7,H7,I7,n7⟩ := q7; exact again I7 n7
  | cont => obtain ⟨σ7,H7,I7,n7⟩ := q7; exact again I7 n7
  | brk => obtain ⟨σ7,H7,I7,q7⟩ := q7; exact ⟨σ7,H7,I7.unpinned,q7⟩
  | ret v => obtain ⟨x7,σ7,H7,I7,r7,q7⟩ := q7; exact ⟨x7,σ7,H7,I7.unpinned,r7,q7⟩
end
theorem for_list {K : PySem.W.Frag} {a : Addr} {xs : List V} {g : TG} {tb : TS} {D : Ends} {σ : St} {H : Hp} (Pv : Nat → St → Hp → Prop) (h0 : Pv 0 σ H) (hl : ∀ i σ H,i ≤ xs.length → Pv i σ H → SqL K H a xs)
  (hs : ∀ i x σ H,xs[i]? = some x → Pv i σ H → g x σ H fun σ2 H2 => tb { D with nx := Pv (i + 1),ct := Pv (i + 1),bk := D.nx } σ2 H2) (hd : ∀ σ H,Pv xs.length σ H → D.nx σ H) :
  ∃ W : Nat → Nat → St → Hp → Prop,(∃ m,W 0 m σ H) ∧ ∀ i m σ H,W i m σ H →
   ((Itl K a).stop i H ∧ D.nx σ H) ∨ ((Itl K a).go i H ∧ ∃ N : St → Hp → Prop,(∀ σ' H',N σ' H' → ∃ m',m' < m ∧ W (i + 1) m' σ' H') ∧ ∀ x H',(Itl K a).yld i H x H' → g x σ H' fun σ2 H2 => tb { D with nx := N,ct := N,bk := D.nx } σ2 H2) := by
 refine ⟨fun i m σ H => m = xs.length - i ∧ i ≤ xs.length ∧ Pv i σ H,⟨xs.length,by simp,Nat.zero_le _,h0⟩,?_⟩
 rintro i m σ H ⟨rfl,hi,p⟩
 have q := hl i σ H hi p
 by_cases hlt : i < xs.length
 ·refine .inr ⟨⟨xs,xs[i],q,by simp [hlt]⟩,Pv (i + 1),fun σ' H' p' => ⟨xs.length - (i + 1),by omega,rfl,hlt,p'⟩,fun x H' y => ?_⟩
  obtain ⟨e,y⟩ := y
  subst e
  exact hs i x σ _ (y xs q) p
 ·have e : i = xs.length := by omega
  subst e
  exact .inl ⟨⟨xs,q,Nat.le_refl _⟩,hd σ H p⟩
theorem for_range {lo : Int} {n : Nat} {g : TG} {tb : TS} {D : Ends} {σ : St} {H : Hp} (Pv : Nat → St → Hp → Prop) (h0 : Pv 0 σ H)
  (hs : ∀ i σ H,i < n → Pv i σ H → g (.int (lo + i)) σ H fun σ2 H2 => tb { D with nx := Pv (i + 1),ct := Pv (i + 1),bk := D.nx } σ2 H2) (hd : ∀ σ H,Pv n σ H → D.nx σ H) :
  ∃ W : Nat → Nat → St → Hp → Prop,(∃ m,W 0 m σ H) ∧ ∀ i m σ H,W i m σ H →
   ((Itr lo n).stop i H ∧ D.nx σ H) ∨ ((Itr lo n).go i H ∧ ∃ N : St → Hp → Prop,(∀ σ' H',N σ' H' → ∃ m',m' < m ∧ W (i + 1) m' σ' H') ∧ ∀ x H',(Itr lo n).yld i H x H' → g x σ H' fun σ2 H2 => tb { D with nx := N,ct := N,bk := D.nx } σ2 H2) := by
 refine ⟨fun i m σ H => m = n - i ∧ i ≤ n ∧ Pv i σ H,⟨n,by simp,Nat.zero_le _,h0⟩,?_⟩
 rintro i m σ H ⟨rfl,hi,p⟩
 by_cases hlt : i < n
 ·refine .inr ⟨hlt,Pv (i + 1),fun σ' H' p' => ⟨n - (i + 1),by omega,rfl,hlt,p'⟩,fun x H' y => ?_⟩
  obtain ⟨e,y⟩ := y
  subst e y
  exact hs i σ _ hlt p
 ·have e : i = n := by omega
  subst e
  exact .inl ⟨Nat.le_refl _,hd σ H p⟩
theorem while_by {c : TT} {tb : TS} {D : Ends} {σ : St} {H : Hp} (Pv : St → Hp → Prop) (μ : St → Hp → Nat) (h0 : Pv σ H)
  (hs : ∀ σ H,Pv σ H → c σ H fun b H1 => if b = true then tb { D with nx := fun σ' H' => Pv σ' H' ∧ μ σ' H' < μ σ H,ct := fun σ' H' => Pv σ' H' ∧ μ σ' H' < μ σ H,bk := D.nx } σ H1 else D.nx σ H1)
  (mono : ∀ σ H Q Q',(∀ b H1,Q b H1 → Q' b H1) → c σ H Q → c σ H Q') : tWhile c tb D σ H := by
 refine ⟨fun m σ H => m = μ σ H ∧ Pv σ H,⟨_,rfl,h0⟩,?_⟩
 rintro m σ H ⟨rfl,p⟩
 refine mono σ H _ _ (fun b H1 q => ?_) (hs σ H p)
 cases b with
 | true => exact ⟨_,fun σ' H' ⟨p',l⟩ => ⟨_,l,rfl,p'⟩,q⟩
 | false => exact q
end L2
namespace L2
open PySem PySem.Spec PyProof.Rows
abbrev R2 := V → V → Hp → VK → Prop
def OpR (X : Cx) (f : Value → Value → Sem Value) (r : R2) : Prop :=
 ∀ (pins : List (Addr × Obj)) (s : Shared) (σ : St) (H : Hp) (x y : V) (v u : Value) (Q : VK),Inv X pins σ H s → RelV x v → RelV y u → r x y H Q →
  wpAny (model X.prog X.w) X.A (f v u) (EP X pins σ Q) X.xe s
def UnR (X : Cx) (f : Value → Sem Value) (r : V → Hp → VK → Prop) : Prop :=
 ∀ (pins : List (Addr × Obj)) (s : Shared) (σ : St) (H : Hp) (x : V) (v : Value) (Q : VK),Inv X pins σ H s → RelV x v → r x H Q →
  wpAny (model X.prog X.w) X.A (f v) (EP X pins σ Q) X.xe s
def CallR (X : Cx) (f : Value) (r : List V → Hp → VK → Prop) : Prop :=
 ∀ (pins : List (Addr × Obj)) (s : Shared) (σ : St) (H : Hp) (xs : List V) (us : List Value) (Q : VK),Inv X pins σ H s → Vals xs us → r xs H Q →
  wpAny (model X.prog X.w) X.A (call f us) (EP X pins σ Q) X.xe s
def tOp (r : R2) (ta tb : TE) : TE := fun σ H Q => ta σ H fun x H1 => tb σ H1 fun y H2 => r x y H2 Q
def tUn (r : V → Hp → VK → Prop) (ta : TE) : TE := fun σ H Q => ta σ H fun x H1 => r x H1 Q
def rI (C : Int → Int → Prop) (g : Int → Int → V) : R2 := fun x y H Q => ∃ i j,x = .int i ∧ y = .int j ∧ C i j ∧ Q (g i j) H
def rI0 (g : Int → Int → V) : R2 := fun x y H Q => ∃ i j,x = .int i ∧ y = .int j ∧ Q (g i j) H
def rU (g : Int → V) : V → Hp → VK → Prop := fun x H Q => ∃ i,x = .int i ∧ Q (g i) H
section
variable {X : Cx} {a b c : Expr} {ta tb tc : TE} {pos : Pos}
theorem binT (ha : PE X a ta) (hb : PE X b tb) {pins : List (Addr × Obj)} {s : Shared} {σ : St} {H : Hp} {R : V → V → Hp → Prop} (I : Inv X pins σ H s)
  (h : ta σ H fun x H1 => tb σ H1 fun y H2 => R x y H2) {Q : Value → Shared → Prop} {f : Value → Value → Sem Value}
  (hf : ∀ v u s2 x y H2,Inv X pins σ H2 s2 → RelV x v → RelV y u → R x y H2 → wpAny (model X.prog X.w) X.A (f v u) Q X.xe s2) :
  wpAny (model X.prog X.w) X.A (eval a X.env) (fun v s₁ => wpAny (model X.prog X.w) X.A (eval b X.env) (fun u s₂ => wpAny (model X.prog X.w) X.A (f v u) Q X.xe s₂) X.xe s₁) X.xe s := by
 refine thn (ha pins s σ H _ I h) fun v s1 ⟨x,H1,I1,r1,q1⟩ => ?_
 refine thn (hb pins s1 σ H1 _ I1 q1) fun u s2 ⟨y,H2,I2,r2,q2⟩ => ?_
 exact hf v u s2 x y H2 I2 r1 r2 q2
theorem pe_op {op : Operator} {r : R2} (ho : OpR X (binaryOp op) r) (ha : PE X a ta) (hb : PE X b tb) : PE X (.BinOp a op b pos) (tOp r ta tb) := by
 intro pins s σ H Q I h
 exact wpAny_BinOp (binT ha hb I h fun v u s2 x y H2 I2 rx ry q => ho pins s2 σ H2 x y v u Q I2 rx ry q)
theorem pe_un {op : UnaryOp} {r : V → Hp → VK → Prop} (ho : UnR X (unaryOp op) r) (ha : PE X a ta) : PE X (.UnaryOp op a pos) (tUn r ta) := by
 intro pins s σ H Q I h
 exact UnaryOp_ (thn (ha pins s σ H _ I h) fun v s1 ⟨x,H1,I1,r1,q1⟩ => ho pins s1 σ H1 x v Q I1 r1 q1)
theorem opI {f : Value → Value → Sem Value} {C : Int → Int → Prop} {g : Int → Int → Int}
  (rule : ∀ (i j : Int) (t u : Tok) (s : Shared) (Q : Value → Shared → Prop) (E : Value → Shared → Prop),C i j → Q (.int (g i j) s.toks) { s with toks := s.toks + 1 } → wpAny (model X.prog X.w) X.A (f (.int i t) (.int j u)) Q E s) :
  OpR X f (rI C fun i j => .int (g i j)) := by
 intro pins s σ H x y v u Q I rx ry h
 obtain ⟨i,j,rfl,rfl,hc,q⟩ := h
 obtain ⟨t,rfl⟩ := rx
 obtain ⟨t',rfl⟩ := ry
 exact rule i j t t' s _ _ hc ⟨.int (g i j),H,I.tok _,⟨_,rfl⟩,q⟩
theorem opI0 {f : Value → Value → Sem Value} {g : Int → Int → Int}
  (rule : ∀ (i j : Int) (t u : Tok) (s : Shared) (Q : Value → Shared → Prop) (E : Value → Shared → Prop),Q (.int (g i j) s.toks) { s with toks := s.toks + 1 } → wpAny (model X.prog X.w) X.A (f (.int i t) (.int j u)) Q E s) :
  OpR X f (rI0 fun i j => .int (g i j)) := by
 intro pins s σ H x y v u Q I rx ry h
 obtain ⟨i,j,rfl,rfl,q⟩ := h
 obtain ⟨t,rfl⟩ := rx
 obtain ⟨t',rfl⟩ := ry
 exact rule i j t t' s _ _ ⟨.int (g i j),H,I.tok _,⟨_,rfl⟩,q⟩
theorem opB0 {f : Value → Value → Sem Value} {g : Int → Int → Bool}
  (rule : ∀ (i j : Int) (t u : Tok) (s : Shared) (Q : Value → Shared → Prop) (E : Value → Shared → Prop),Q (.bool (g i j)) s → wpAny (model X.prog X.w) X.A (f (.int i t) (.int j u)) Q E s) :
  OpR X f (rI0 fun i j => .bl (g i j)) := by
 intro pins s σ H x y v u Q I rx ry h
 obtain ⟨i,j,rfl,rfl,q⟩ := h
 obtain ⟨t,rfl⟩ := rx
 obtain ⟨t',rfl⟩ := ry
 exact rule i j t t' s _ _ ⟨.bl (g i j),H,I,rfl,q⟩
def CPow (i j : Int) : Prop := 0 ≤ j ∧ j ≤ 1000000 ∧ i.natAbs < 2 ^ 64
theorem two_pow_nn (k : Nat) : (0 : Int) ≤ 2 ^ k := by
 rw [two_pow_cast]
 exact Int.natCast_nonneg _
theorem op_add : OpR X (binaryOp .Add) (rI0 fun i j => .int (i + j)) := opI0 fun _ _ _ _ _ _ _ q => add_int q
theorem op_sub : OpR X (binaryOp .Sub) (rI0 fun i j => .int (i - j)) := opI0 fun _ _ _ _ _ _ _ q => sub_int q
theorem op_mod : OpR X (binaryOp .Mod) (rI (fun _ j => 0 < j) fun i j => .int (i % j)) := opI fun i j _ _ _ _ _ hc q => by
 have h1 : (0 : Int) < j := hc
 exact mod_int' (by omega) (by rw [Int.fmod_eq_emod_of_nonneg i (by omega)]; exact q)
theorem op_pow : OpR X (binaryOp .Pow) (rI CPow fun i j => .int (i ^ j.toNat)) := opI fun _ _ _ _ _ _ _ hc q => pow_int_small hc.1 hc.2.1 hc.2.2 q
theorem op_shr : OpR X (binaryOp .RShift) (rI (fun _ j => 0 ≤ j) fun i j => .int (i / 2 ^ j.toNat)) := opI fun i j _ _ _ _ _ hc q =>
 rshift_int hc (by rw [Int.fdiv_eq_ediv_of_nonneg i (two_pow_nn _)]; exact q)
theorem op_and : OpR X (binaryOp .BitAnd) (rI0 fun i j => .int (Builtin.bitAnd i j)) := opI0 fun _ _ _ _ _ _ _ q => and_int q
theorem op_or : OpR X (binaryOp .BitOr) (rI0 fun i j => .int (Builtin.bitOr i j)) := opI0 fun _ _ _ _ _ _ _ q => or_int q
theorem op_xor : OpR X (binaryOp .BitXor) (rI0 fun i j => .int (Builtin.bitXor i j)) := opI0 fun _ _ _ _ _ _ _ q => xor_int q
theorem unI {f : Value → Sem Value} {g : Int → Int}
  (rule : ∀ (i : Int) (t : Tok) (s : Shared) (Q : Value → Shared → Prop) (E : Value → Shared → Prop),Q (.int (g i) s.toks) { s with toks := s.toks + 1 } → wpAny (model X.prog X.w) X.A (f (.int i t)) Q E s) :
  UnR X f (rU fun i => .int (g i)) := by
 intro pins s σ H x v Q I rx h
 obtain ⟨i,rfl,q⟩ := h
 obtain ⟨t,rfl⟩ := rx
 exact rule i t s _ _ ⟨.int (g i),H,I.tok _,⟨_,rfl⟩,q⟩
theorem un_neg : UnR X (unaryOp .USub) (rU fun i => .int (-i)) := unI fun _ _ _ _ _ q => neg_int q
end
def scal : V → V → Bool
 | .non,.non => true | .non,.int _ => true | .int _,.non => true | .non,.bl _ => true | .bl _,.non => true | .non,.str _ => true | .str _,.non => true
 | .int _,.int _ => true | .bl _,.bl _ => true | .str _,.str _ => true | .byt _,.byt _ => true
 | .int _,.str _ => true | .str _,.int _ => true | .bl _,.str _ => true | .str _,.bl _ => true
 | _,_ => false
def rEq : R2 := fun x y H Q => scal x y = true ∧ Q (.bl (decide (x = y))) H
def rNe : R2 := fun x y H Q => scal x y = true ∧ Q (.bl (!decide (x = y))) H
theorem dec_int {i j : Int} : decide (V.int i = V.int j) = (i == j) := by
 rw [Bool.eq_iff_iff]
 simp
theorem dec_bl {i j : Bool} : decide (V.bl i = V.bl j) = (i == j) := by
 rw [Bool.eq_iff_iff]
 simp
theorem dec_str {i j : Str} : decide (V.str i = V.str j) = (i == j) := by
 rw [Bool.eq_iff_iff]
 simp
theorem dec_byt {i j : Array UInt8} : decide (V.byt i = V.byt j) = (i.toList == j.toList) := by
 rw [Bool.eq_iff_iff]
 cases i
 cases j
 simp
section
variable {X : Cx} {a b c : Expr} {ta tb tc : TE} {pos : Pos}
theorem fin_bl {pins : List (Addr × Obj)} {σ : St} {H : Hp} {s : Shared} {Q : VK} {k k' : Bool} (I : Inv X pins σ H s) (q : Q (.bl k) H) (e : k = k') : EP X pins σ Q (.bool k') s := by
 subst e
 exact ⟨.bl k,H,I,rfl,q⟩
theorem op_eq : OpR X (compareOp .Eq) rEq := by
 intro pins s σ H x y v u Q I rx ry h
 obtain ⟨hs,q⟩ := h
 cases x with
 | non =>
  cases rx
  cases y with
  | non => cases ry; exact PySem.EqNone.eq_none_none (fin_bl I q (by simp))
  | bl j => cases ry; exact PySem.EqNone.eq_none_bool (fin_bl I q (by simp))
  | int j => obtain ⟨t',rfl⟩ := ry; exact PySem.EqNone.eq_none_int (fin_bl I q (by simp))
  | str j => obtain ⟨t',rfl⟩ := ry; exact PySem.EqNone.eq_none_str (fin_bl I q (by simp))
  | _ => exact absurd (show false = true from hs) Bool.false_ne_true
 | bl i =>
  cases rx
  cases y with
  | non => cases ry; exact PySem.EqNone.eq_bool_none (fin_bl I q (by simp))
  | bl j => cases ry; exact eq_bool (fin_bl I q dec_bl)
  | str j => obtain ⟨t',rfl⟩ := ry; exact PySem.EqMixed.eq_bool_str (fin_bl I q (by simp))
  | _ => exact absurd (show false = true from hs) Bool.false_ne_true
 | int i =>
  obtain ⟨t,rfl⟩ := rx
  cases y with
  | non => cases ry; exact PySem.EqNone.eq_int_none (fin_bl I q (by simp))
  | int j => obtain ⟨t',rfl⟩ := ry; exact eq_int (fin_bl I q dec_int)
  | str j => obtain ⟨t',rfl⟩ := ry; exact PySem.EqMixed.eq_int_str (fin_bl I q (by simp))
  | _ => exact absurd (show false = true from hs) Bool.false_ne_true
 | str i =>
  obtain ⟨t,rfl⟩ := rx
  cases y with
  | non => cases ry; exact PySem.EqNone.eq_str_none (fin_bl I q (by simp))
  | bl j => cases ry; exact PySem.EqMixed.eq_str_bool (fin_bl I q (by simp))
  | int j => obtain ⟨t',rfl⟩ := ry; exact PySem.EqMixed.eq_str_int (fin_bl I q (by simp))
  | str j => obtain ⟨t',rfl⟩ := ry; exact eq_str (fin_bl I q dec_str)
  | _ => exact absurd (show false = true from hs) Bool.false_ne_true
 | byt i =>
  obtain ⟨t,rfl⟩ := rx
  cases y with
  | byt j => obtain ⟨t',rfl⟩ := ry; exact PySem.W.eq_bytes (fin_bl I q dec_byt)
  | _ => exact absurd (show false = true from hs) Bool.false_ne_true
 | _ => cases y <;> exact absurd (show false = true from hs) Bool.false_ne_true
theorem op_ne : OpR X (compareOp .NotEq) rNe := by
 intro pins s σ H x y v u Q I rx ry h
 obtain ⟨hs,q⟩ := h
 cases x with
 | non =>
  cases rx
  cases y with
  | non => cases ry; exact PySem.EqNone.ne_none_none (fin_bl I q (by simp))
  | bl j => cases ry; exact PySem.EqNone.ne_none_bool (fin_bl I q (by simp))
  | int j => obtain ⟨t',rfl⟩ := ry; exact PySem.EqNone.ne_none_int (fin_bl I q (by simp))
  | str j => obtain ⟨t',rfl⟩ := ry; exact PySem.EqNone.ne_none_str (fin_bl I q (by simp))
  | _ => exact absurd (show false = true from hs) Bool.false_ne_true
 | bl i =>
  cases rx
  cases y with
  | non => cases ry; exact PySem.EqNone.ne_bool_none (fin_bl I q (by simp))
  | bl j => cases ry; exact ne_bool (fin_bl I q (congrArg not dec_bl))
  | str j => obtain ⟨t',rfl⟩ := ry; exact PySem.EqMixed.ne_bool_str (fin_bl I q (by simp))
  | _ => exact absurd (show false = true from hs) Bool.false_ne_true
 | int i =>
  obtain ⟨t,rfl⟩ := rx
  cases y with
  | non => cases ry; exact PySem.EqNone.ne_int_none (fin_bl I q (by simp))
  | int j => obtain ⟨t',rfl⟩ := ry; exact ne_int (fin_bl I q (congrArg not dec_int))
  | str j => obtain ⟨t',rfl⟩ := ry; exact PySem.EqMixed.ne_int_str (fin_bl I q (by simp))
  | _ => exact absurd (show false = true from hs) Bool.false_ne_true
 | str i =>
  obtain ⟨t,rfl⟩ := rx
  cases y with
  | non => cases ry; exact PySem.EqNone.ne_str_none (fin_bl I q (by simp))
  | bl j => cases ry; exact PySem.EqMixed.ne_str_bool (fin_bl I q (by simp))
  | int j => obtain ⟨t',rfl⟩ := ry; exact PySem.EqMixed.ne_str_int (fin_bl I q (by simp))
  | str j => obtain ⟨t',rfl⟩ := ry; exact ne_str (fin_bl I q (congrArg not dec_str))
  | _ => exact absurd (show false = true from hs) Bool.false_ne_true
 | byt i =>
  obtain ⟨t,rfl⟩ := rx
  cases y with
  | byt j => obtain ⟨t',rfl⟩ := ry; exact PySem.W.ne_bytes (fin_bl I q (congrArg not dec_byt))
  | _ => exact absurd (show false = true from hs) Bool.false_ne_true
 | _ => cases y <;> exact absurd (show false = true from hs) Bool.false_ne_true
theorem op_lt : OpR X (compareOp .Lt) (rI0 fun i j => .bl (decide (i < j))) := opB0 fun _ _ _ _ _ _ _ q => lt_int q
theorem op_le : OpR X (compareOp .LtE) (rI0 fun i j => .bl (decide (i ≤ j))) := opB0 fun _ _ _ _ _ _ _ q => le_int q
theorem op_gt : OpR X (compareOp .Gt) (rI0 fun i j => .bl (decide (j < i))) := opB0 fun _ _ _ _ _ _ _ q => gt_int q
theorem op_ge : OpR X (compareOp .GtE) (rI0 fun i j => .bl (decide (j ≤ i))) := opB0 fun _ _ _ _ _ _ _ q => ge_int q
theorem nomark (b : Expr) {op : CmpOp} (h : op ≠ .In := by decide) (h2 : op ≠ .NotIn := by decide) : behindInMarks op b = false := by
 have e1 : (op == CmpOp.In) = false := by cases op <;> first | rfl | exact absurd rfl h
 have e2 : (op == CmpOp.NotIn) = false := by cases op <;> first | rfl | exact absurd rfl h2
 cases b <;> simp [behindInMarks,e1,e2]
theorem pe_cmpR {op : CmpOp} {r : R2} (ho : OpR X (compareOp op) r) (ha : PE X a ta) (hb : PE X b tb) (hm : behindInMarks op b = false) : PE X (.Compare a [op] [b] pos) (tOp r ta tb) := by
 intro pins s σ H Q I h
 exact wpAny_Compare1 (binT ha hb I h fun v u s2 x y H2 I2 rx ry q => ho pins s2 σ H2 x y v u Q I2 rx ry q) hm
def tTest (t : TE) : TT := fun σ H Q => t σ H fun x H' => ∃ k,x = .bl k ∧ Q k H'
theorem pt_cmpR {op : CmpOp} {r : R2} (ho : OpR X (compareOp op) r) (ha : PE X a ta) (hb : PE X b tb) (hm : behindInMarks op b = false) : PT X (.Compare a [op] [b] pos) (tTest (tOp r ta tb)) := by
 intro pins s σ H Q I h
 refine wpAny_isTrue_Compare1 (thn (ha pins s σ H _ I h) fun v s1 ⟨x,H1,I1,r1,q1⟩ => thn (hb pins s1 σ H1 _ I1 q1) fun u s2 ⟨y,H2,I2,r2,q2⟩ =>
  thn (ho pins s2 σ H2 x y v u _ I2 r1 r2 q2) fun c s3 ⟨z,H3,I3,r3,k,e,q3⟩ => ?_) hm
 subst e
 cases r3
 exact wpAny_truthy_bool ⟨H3,I3,q3⟩
theorem line63 : (sizeLine : Nat) < 2 ^ 63 := by rw [sizeLine_eq]; decide
theorem vals1 {x : V} {us : List Value} (r : Vals [x] us) : ∃ u,us = [u] ∧ RelV x u := by
 cases r with
 | cons r1 r2 => cases r2; exact ⟨_,rfl,r1⟩
theorem vals2 {x y : V} {us : List Value} (r : Vals [x,y] us) : ∃ u w',us = [u,w'] ∧ RelV x u ∧ RelV y w' := by
 cases r with
 | cons r1 r2 =>
  cases r2 with
  | cons r3 r4 => cases r4; exact ⟨_,_,rfl,r1,r3⟩
theorem call_abs : CallR X (.builtin "abs") (fun xs H Q => ∃ i,xs = [.int i] ∧ Q (.int (if i < 0 then -i else i)) H) := by
 intro pins s σ H xs us Q I r h
 obtain ⟨i,rfl,q⟩ := h
 obtain ⟨u,rfl,t,rfl⟩ := vals1 r
 exact call_abs_int fun u tk => ⟨.int (if i < 0 then -i else i),H,I.tok _,⟨_,rfl⟩,q⟩
theorem call_max2 (hc : X.calm = true) : CallR X (.builtin "max") (fun xs H Q => ∃ i j,xs = [.int i,.int j] ∧ Q (.int (if j > i then j else i)) H) := by
 intro pins s σ H xs us Q I r h
 obtain ⟨i,j,rfl,q⟩ := h
 obtain ⟨u,w',rfl,⟨t,rfl⟩,⟨t',rfl⟩⟩ := vals2 r
 refine max_two_ints (I.ok.hd hc) fun h' tk k => ⟨_,H,I.kept k,?_,q⟩
 by_cases hj : j > i
 ·rw [if_pos hj,if_pos hj]; exact ⟨_,rfl⟩
 ·rw [if_neg hj,if_neg hj]; exact ⟨_,rfl⟩
theorem call_min2 (hc : X.calm = true) : CallR X (.builtin "min") (fun xs H Q => ∃ i j,xs = [.int i,.int j] ∧ Q (.int (if j < i then j else i)) H) := by
 intro pins s σ H xs us Q I r h
 obtain ⟨i,j,rfl,q⟩ := h
 obtain ⟨u,w',rfl,⟨t,rfl⟩,⟨t',rfl⟩⟩ := vals2 r
 refine min_two_ints (I.ok.hd hc) fun h' tk k => ⟨_,H,I.kept k,?_,q⟩
 by_cases hj : j < i
 ·rw [if_pos hj,if_pos hj]; exact ⟨_,rfl⟩
 ·rw [if_neg hj,if_neg hj]; exact ⟨_,rfl⟩
end
end L2
namespace L2
open PySem PySem.Spec PyProof.Rows
structure ObjM (h : Heap) (x dx C : Addr) (mA : Str → Option Value) : Prop where
 obj : h.get? x = some (PySem.W.instObj C dx)
 ns : h.Ns1 dx mA
 ne : dx ≠ x
theorem lookIn_ns {h : Heap} {dx : Addr} {mA : Str → Option Value} (n : h.Ns1 dx mA) : ∃ od,h.get? dx = some od ∧ ∀ name,PySem.W.lookIn name od = some (mA name) := by
 obtain ⟨o,es,ep,ho,hd,hk,_,hm⟩ := n
 refine ⟨o,ho,fun name => ?_⟩
 have e := hm name
 unfold nsFind findBy at e
 rw [← Array.find?_toList] at e
 unfold PySem.W.lookIn
 rw [hd]
 dsimp only
 split
 ·rename_i y q
  rw [q] at e
  exact congrArg some e
 ·rename_i q
  rw [q] at e
  have a : es.toList.any (·.refKey) = false := by
   rw [List.any_eq_false]
   intro y hy
   obtain ⟨z,t,hkey⟩ := hk y (Array.mem_toList_iff.mp hy)
   simp [DictEntry.refKey,hkey]
  have a' : ¬ es.toList.any (·.refKey) = true := by rw [a]; exact Bool.false_ne_true
  rw [if_neg a']
  exact congrArg some e
theorem ObjM.look {h : Heap} {x dx C : Addr} {mA : Str → Option Value} (I : ObjM h x dx C mA) : ∃ od,PySem.W.InstAt h x (PySem.W.instObj C dx) C (some od) ∧ ∀ name,PySem.W.lookIn name od = some (mA name) :=
 let ⟨od,ho,hl⟩ := lookIn_ns I.ns
 ⟨od,⟨I.obj,rfl,rfl,ho⟩,hl⟩
section
variable {prog : Program} {w : World} {A : Around} {E : Value → Shared → Prop} {s : Shared} {K : PySem.W.Frag} {x dx C f : Addr} {mA : Str → Option Value} {name : Str} {v : Value}
theorem get_map {expr : Bool} {Q : Value → Shared → Prop} (X : K.In s.heap) (I : ObjM s.heap x dx C mA) (hg : PySem.W.plainGet K C name = true) (hh : PySem.W.hasDictIn K C = true)
  (ha : PySem.W.findIn K (.ref C) name = some none) (hv : mA name = some v) (hv' : PySem.W.handedIn v = true) (h : Q v { s with toks := s.toks + 1 }) :
  wpAny (model prog w) A (getAttr (.ref x) name expr) Q E s := by
 obtain ⟨od,J,hl⟩ := I.look
 exact PySem.W.get_value X J (PySem.W.plainGet_of hg).1 (PySem.W.findObj_own hh ha rfl (by rw [hl,hv])) hv' h
theorem get_meth {pl : Sem Bool} {Q : Value × List Value → Shared → Prop} (X : K.In s.heap) (I : ObjM s.heap x dx C mA) (hg : PySem.W.plainGet K C name = true)
  (hf : PySem.W.findIn K (.ref C) name = some (some (.ref f))) (ht : PySem.W.isFn K (.ref f) = true) (hv : mA name = none) (h : Q (.ref f,[.ref x]) s) :
  wpAny (model prog w) A (getMethod (.ref x) name pl) Q E s := by
 obtain ⟨od,J,hl⟩ := I.look
 exact PySem.W.method_fn X J (PySem.W.plainGet_of hg).1 (PySem.W.plainGet_of hg).2 hf (beq_iff_eq.mp ht) (by show (PySem.W.lookIn name od).map (·.isSome) = some false; rw [hl,hv]; rfl) h
theorem set_map {ns : List Str} {Q : Unit → Shared → Prop} (X : K.In s.heap) (I : ObjM s.heap x dx C mA)
  (hs : PySem.W.findIn K (.ref C) "__setattr__" = some (some (.builtin "object.__setattr__"))) (hp : PySem.W.plainOver K C = true) (ht : PySem.W.takerIn K C name = some none) (hh : PySem.W.hasDictIn K C = true)
  (hw : PySem.Within mA ns) (hsz : ns.length ≤ sizeLine)
  (h : ∀ h',ObjM h' x dx C (fun y => if y = name then some v else mA y) → Heap.SameBut dx s.heap h' → Q () { s with heap := h',toks := s.toks + 2 }) :
  wpAny (model prog w) A (setAttr (.ref x) name v) Q E s := by
 obtain ⟨od,J,hl⟩ := I.look
 refine PySem.W.set_plain X J hs (PySem.W.osa_open (s := { s with toks := s.toks + 1 }) (r := none) X J hp ht fun b => ?_)
 obtain ⟨cd,hc,hd'⟩ := PySem.W.any_some hh
 have hx : s.heap.get? x = some ⟨.ref C,some dx,.plain,#[]⟩ := I.obj
 refine wpAny_bind (wpAny_pure (wpAny_bind (wpAny_bind (wpAny_loadPart hx (wpAny_bind (PySem.W.Looks.here (s := { s with toks := s.toks + 1 }) (PySem.W.looks_clsIn X hc) ?_))))))
 rw [hd']
 refine wpAny_pure (a := some dx) (wpAny_bind (wpAny_pure (wpAny_bind ?_)))
 refine wpAny_nsSet1 (s := { s with toks := s.toks + 1 }) I.ns fun h' hn2 hs2 => ?_
 obtain ⟨oD,esD,epD,hoD,hdD,hcD⟩ := hn2.count (PySem.Within.cons name v hw)
 refine wpAny_bind (wpAny_lookBehind hoD (by rw [hdD]; exact pastItsLine_dict (Nat.le_trans hcD (by rw [List.length_cons]; omega))) ?_)
 exact wpAny_pure (h _ ⟨(hs2.2 _ (Ne.symm I.ne)).trans I.obj,hn2,I.ne⟩ hs2)
theorem make_map {R : Result → Shared → Prop} {vs : List Value} {kw : List (Str × Value)} (X : K.In s.heap) (hm : PySem.W.makesIn K C = true)
  (hi : PySem.W.findIn K (.ref C) "__init__" = some (some (.ref f))) (hf : PySem.W.typeIn K (.ref f) = some (.type "function"))
  (h : codeAny (model prog w) (A.under (.builtin "type.__call__" ⟨.ref C :: vs,kw⟩)) (.call (.ref f) ⟨.ref (s.heap.objs.size + 1) :: vs,kw⟩) (PySem.W.InitBack (s.heap.objs.size + 1) R)
   { s with heap := (s.heap.push PySem.W.emptyDict).push (PySem.W.instObj C s.heap.objs.size) }) :
  codeAny (model prog w) A (.call (.ref C) ⟨vs,kw⟩) R s := by
 obtain ⟨hh,g,d,t,os⟩ := s
 exact PySem.W.make_core (PySem.W.makes_of X hm) (PySem.W.looks_findIn X hi) (fun self => PySem.W.bind_fn X self hf) (.inl rfl) h
end
def putF (f : Str) (v : V) : List (Str × V) → List (Str × V)
 | [] => [(f,v)]
 | (g,x) :: r => if g = f then (g,v) :: r else (g,x) :: putF f v r
theorem lookup_putF (f g : Str) (v : V) : ∀ fs : List (Str × V),(putF f v fs).lookup g = if g = f then some v else fs.lookup g
 | [] => by
  show List.lookup g [(f,v)] = _
  by_cases h : g = f
  ·have hb : (g == f) = true := beq_iff_eq.mpr h
   simp only [List.lookup,hb,if_pos h]
  ·have hb : (g == f) = false := beq_eq_false_iff_ne.mpr h
   simp only [List.lookup,hb,if_neg h]
 | (k,x) :: r => by
  have ih := lookup_putF f g v r
  rw [show putF f v ((k,x) :: r) = (if k = f then (k,v) :: r else (k,x) :: putF f v r) from rfl]
  by_cases hk : k = f
  ·rw [if_pos hk]
   by_cases h : g = k
   ·have hb : (g == k) = true := beq_iff_eq.mpr h
    simp only [List.lookup,hb,if_pos (h.trans hk)]
   ·have hb : (g == k) = false := beq_eq_false_iff_ne.mpr h
    simp only [List.lookup,hb,if_neg (fun e : g = f => h (e.trans hk.symm))]
  ·rw [if_neg hk]
   by_cases h : g = k
   ·have hb : (g == k) = true := beq_iff_eq.mpr h
    simp only [List.lookup,hb,if_neg (fun e : g = f => hk (h.symm.trans e))]
   ·have hb : (g == k) = false := beq_eq_false_iff_ne.mpr h
    simp only [List.lookup,hb]
    exact ih
theorem keys_putF (f : Str) (v : V) : ∀ fs : List (Str × V),f ∈ (putF f v fs).map (·.1) ∧ ∀ g,g ∈ fs.map (·.1) → g ∈ (putF f v fs).map (·.1)
 | [] => ⟨by simp [putF],fun g h => by simp at h⟩
 | (k,x) :: r => by
  obtain ⟨i1,i2⟩ := keys_putF f v r
  rw [show putF f v ((k,x) :: r) = (if k = f then (k,v) :: r else (k,x) :: putF f v r) from rfl]
  by_cases hk : k = f
  ·rw [if_pos hk]
   subst hk
   exact ⟨by simp,fun g h => by simpa using h⟩
  ·rw [if_neg hk]
   refine ⟨?_,fun g h => ?_⟩
   ·rw [List.map_cons]
    exact List.mem_cons_of_mem _ i1
   ·rw [List.map_cons] at h ⊢
    rcases List.mem_cons.mp h with e | e
    ·exact List.mem_cons.mpr (.inl e)
    ·exact List.mem_cons_of_mem _ (i2 g e)
theorem length_putF (f : Str) (v : V) : ∀ fs : List (Str × V),(putF f v fs).length ≤ fs.length + 1
 | [] => by simp [putF]
 | (k,x) :: r => by
  have ih := length_putF f v r
  rw [show putF f v ((k,x) :: r) = (if k = f then (k,v) :: r else (k,x) :: putF f v r) from rfl]
  by_cases hk : k = f
  ·rw [if_pos hk,List.length_cons,List.length_cons]; omega
  ·rw [if_neg hk,List.length_cons,List.length_cons]; omega
theorem RelO.some_of {v : V} {o : Option Value} (r : RelO (some v) o) : ∃ u,o = some u ∧ RelV v u := by
 cases o with
 | none => exact (show False from r).elim
 | some u => exact ⟨u,rfl,r⟩
theorem RelO.none_of {o : Option Value} (r : RelO none o) : o = none := by
 cases o with
 | none => rfl
 | some u => exact (show False from r).elim
theorem handed_of {v : V} {u : Value} (r : RelV v u) : PySem.W.handedIn u = true := by
 cases v with
 | non => cases (show u = Value.none from r); rfl
 | bl b => cases (show u = Value.bool b from r); rfl
 | int i => obtain ⟨t,e⟩ := (show ∃ t,u = Value.int i t from r); cases e; rfl
 | str x => obtain ⟨t,e⟩ := (show ∃ t,u = Value.str x t from r); cases e; rfl
 | byt b => obtain ⟨t,e⟩ := (show ∃ t,u = Value.bytes b t from r); cases e; rfl
 | flt b => obtain ⟨t,e⟩ := (show ∃ t,u = Value.float b t from r); cases e; rfl
 | ref a => cases (show u = Value.ref a from r); rfl
 | ty n => cases (show u = Value.type n from r); rfl
section
variable {P : Program} {w : World} {H H' : Hp} {h h' : Heap} {a C dx : Addr} {fs fs' : List (Str × V)}
theorem ins_get (hok : HOk P w H h) (e : H a = some (.ins C dx fs)) : ∃ mA,ObjM h a dx C mA ∧ (∀ f,RelO (fs.lookup f) (mA f)) ∧ PySem.Within mA (fs.map (·.1)) ∧ fs.length ≤ 1000 ∧ H dx = some (.own a) := by
 obtain ⟨d,z,ne,ob,mA,n,r,q⟩ := (show ObjOk P w H h a (.ins C dx fs) from hok a _ e)
 exact ⟨mA,⟨ob,n,ne⟩,r,q,z,d⟩
end
structure Cls (K : PySem.W.Frag) (C : Addr) : Prop where
 pg : PySem.W.plainGet K C Str.empty = true
 hd : PySem.W.hasDictIn K C = true
 po : PySem.W.plainOver K C = true
 sa : PySem.W.findIn K (.ref C) "__setattr__" = some (some (.builtin "object.__setattr__"))
theorem Cls.get {K : PySem.W.Frag} {C : Addr} (c : Cls K C) (f : Str) : PySem.W.plainGet K C f = true := c.pg
def NoAttr (K : PySem.W.Frag) (C : Addr) (f : Str) : Prop := PySem.W.findIn K (.ref C) f = some none
theorem NoAttr.taker {K : PySem.W.Frag} {C : Addr} {f : Str} (n : NoAttr K C f) : PySem.W.takerIn K C f = some none := by
 unfold PySem.W.takerIn
 rw [show PySem.W.findIn K (.ref C) f = some none from n]
 rfl
structure Meth (K : PySem.W.Frag) (C : Addr) (m : Str) (f : Addr) : Prop where
 at_ : PySem.W.findIn K (.ref C) m = some (some (.ref f))
 fn : PySem.W.isFn K (.ref f) = true
 kp : PySem.W.keepIn K (.ref f) = true
section
variable {X : Cx} {pins : List (Addr × Obj)} {σ : St} {H : Hp} {s : Shared} {a C dx : Addr} {fs : List (Str × V)} {f : Str} {v : V} {A : Around} {E : Value → Shared → Prop}
theorem getattr_ok {b : Bool} {Q : Value → Shared → Prop} (I : Inv X pins σ H s) (e : H a = some (.ins C dx fs)) (c : Cls X.K C) (n : NoAttr X.K C f) (l : fs.lookup f = some v)
  (h : ∀ u s',Inv X pins σ H s' → RelV v u → Q u s') : wpAny (model X.prog X.w) A (getAttr (.ref a) f b) Q E s := by
 obtain ⟨mA,O,r,_,_,_⟩ := ins_get I.hok e
 obtain ⟨u,hu,ru⟩ := RelO.some_of (v := v) (o := mA f) (by rw [← l]; exact r f)
 exact get_map I.kIn O (c.get f) c.hd n hu (handed_of ru) (h u _ (I.tok _) ru)
theorem getmeth_ok {m : Str} {g : Addr} {pl : Sem Bool} {Q : Value × List Value → Shared → Prop} (I : Inv X pins σ H s) (e : H a = some (.ins C dx fs)) (c : Cls X.K C) (k : Meth X.K C m g) (l : fs.lookup m = none)
  (h : Q (.ref g,[.ref a]) s) : wpAny (model X.prog X.w) A (getMethod (.ref a) m pl) Q E s := by
 obtain ⟨mA,O,r,_,_,_⟩ := ins_get I.hok e
 have hn : mA m = none := RelO.none_of (by rw [← l]; exact r m)
 exact get_meth I.kIn O (c.get m) k.at_ k.fn hn h
theorem setattr_ok {y : V} {u : Value} {Q : Unit → Shared → Prop} (I : Inv X pins σ H s) (e : H a = some (.ins C dx fs)) (c : Cls X.K C) (n : NoAttr X.K C f) (hl : fs.length < 1000) (ry : RelV y u)
  (h : ∀ s',Inv X pins σ (upd H a (.ins C dx (putF f y fs))) s' → Q () s') : wpAny (model X.prog X.w) A (setAttr (.ref a) f u) Q E s := by
 obtain ⟨mA,O,r,wi,_,ho⟩ := ins_get I.hok e
 have hz : (fs.map (·.1)).length ≤ sizeLine := by rw [List.length_map,sizeLine_eq]; omega
 refine set_map I.kIn O c.sa c.po n.taker c.hd wi hz fun h' O' sb => h _ ?_
 have hd : ∃ o,h'.get? dx = some o := let ⟨o,_,_,e',_⟩ := O'.ns; ⟨o,e'⟩
 refine I.write (x := a) (e := dx) (by rw [e]; exact True.intro) (.inr ho) (fun b q hb z => (sb.2 b hb).trans z) hd ?_
 refine ⟨by rw [upd_ne O.ne]; exact ho,?_,O.ne,O'.obj,_,O'.ns,fun g => ?_,fun g hg => ?_⟩
 ·have := length_putF f y fs; omega
 ·show RelO ((putF f y fs).lookup g) (if g = f then some u else mA g)
  rw [lookup_putF]
  by_cases q : g = f
  ·rw [if_pos q,if_pos q]; exact ry
  ·rw [if_neg q,if_neg q]; exact r g
 ·by_cases q : g = f
  ·rw [q]; exact (keys_putF f y fs).1
  ·refine (keys_putF f y fs).2 g (wi g fun z => hg ?_)
   show (if g = f then some u else mA g) = none
   rw [if_neg q]; exact z
theorem Inv.made (I : Inv X pins σ H s) : Inv X pins σ (upd (upd H s.heap.objs.size (.own (s.heap.objs.size + 1))) (s.heap.objs.size + 1) (.ins C s.heap.objs.size []))
  { s with heap := (s.heap.push PySem.W.emptyDict).push (PySem.W.instObj C s.heap.objs.size) } := by
 have e1 : (s.heap.push PySem.W.emptyDict).get? s.heap.objs.size = some PySem.W.emptyDict := Heap.get?_push_size s.heap rfl
 have e2 : ((s.heap.push PySem.W.emptyDict).push (PySem.W.instObj C s.heap.objs.size)).get? (s.heap.objs.size + 1) = some (PySem.W.instObj C s.heap.objs.size) := by
  have := Heap.get?_push_size (s.heap.push PySem.W.emptyDict) (o := PySem.W.instObj C s.heap.objs.size) rfl
  rwa [Heap.size_push] at this
 have e3 : (s.heap.push PySem.W.emptyDict).Ns s.heap.objs.size (fun _ => none) := ⟨PySem.W.emptyDict,#[],_,e1,rfl,(fun e he => absurd he (by simp)),fun _ => rfl⟩
 have I1 := I.laid (a := s.heap.objs.size) (o := .own (s.heap.objs.size + 1)) (h' := s.heap.push PySem.W.emptyDict) (t' := s.toks) (fun b u q => Heap.get?_push_of_some _ q) (Nat.le_refl _) ⟨_,e1⟩
 refine I1.laid (a := s.heap.objs.size + 1) (o := .ins C s.heap.objs.size []) (t' := s.toks) (fun b u q => Heap.get?_push_of_some _ q) (Nat.le_of_eq (Heap.size_push _ _)) ?_
 have ne : s.heap.objs.size ≠ s.heap.objs.size + 1 := Nat.ne_of_lt (Nat.lt_succ_self _)
 refine ⟨by rw [upd_ne ne,upd_same],Nat.zero_le _,ne,e2,fun _ => none,(Heap.Ns1.of_empty e3).at fun o q => Heap.get?_push_of_some _ q,fun _ => True.intro,fun y hy => absurd rfl hy⟩
theorem attr_of {prog : Program} {w : World} {env : Env} {e : Expr} {f : Str} {pos : Pos} {s : Shared} {Q : Value → Shared → Prop} (hb : attributeBase e f env (eval e env) = eval e env)
  (h : wpAny (model prog w) A (eval e env) (fun o s₁ => wpAny (model prog w) A (getAttr o f true) Q E s₁) E s) : wpAny (model prog w) A (eval (.Attribute e f pos) env) Q E s :=
 Attribute_any_ h (by rw [arm_eval_Attribute,hb])
end
def tFld (K : PySem.W.Frag) (ta : TE) (f : Str) : TE := fun σ H Q => ta σ H fun x H1 => ∃ a C dx fs v,x = .ref a ∧ H1 a = some (.ins C dx fs) ∧ Cls K C ∧ NoAttr K C f ∧ fs.lookup f = some v ∧ Q v H1
def sFld (K : PySem.W.Frag) (ta tv : TE) (f : Str) : TS := fun D σ H => tv σ H fun y H1 => ta σ H1 fun x H2 => ∃ a C dx fs,x = .ref a ∧ H2 a = some (.ins C dx fs) ∧ Cls K C ∧ NoAttr K C f ∧ fs.length < 1000 ∧
 D.nx σ (upd H2 a (.ins C dx (putF f y fs)))
section
variable {X : Cx} {o e value : Expr} {f : Str} {pos pos' tpos : Pos} {ta tv : TE}
theorem pe_fld (he : PE X e ta) (hb : attributeBase e f X.env (eval e X.env) = eval e X.env) : PE X (.Attribute e f pos) (tFld X.K ta f) := by
 intro pins s σ H Q I h
 refine attr_of hb (thn (he pins s σ H _ I h) fun u s1 ⟨x,H1,I1,rx,a,C,dx,fs,v,ex,ea,c,n,l,q⟩ => ?_)
 subst ex
 obtain rfl : u = Value.ref a := rx
 exact getattr_ok I1 ea c n l fun u' s2 I2 ru => ⟨v,H1,I2,ru,q⟩
theorem ps_fld (ha : PE X o ta) (hv : PE X value tv) (hs : swapsWith value (some (.Attribute o f pos')) pos.line X.env = pure false) : PS X (.Assign [.Attribute o f pos'] value pos) (sFld X.K ta tv f) := by
 intro pins s σ H D I h
 refine plainObj_wpAny_Assign_Attribute (thn (hv pins s σ H _ I h) fun u s1 ⟨y,H1,I1,ry,q⟩ => thn (ha pins s1 σ H1 _ I1 q) fun ov s2 ⟨x,H2,I2,rx,a,C,dx,fs,ex,ea,c,n,l,q2⟩ => ?_) hs
 subst ex
 obtain rfl : ov = Value.ref a := rx
 exact setattr_ok I2 ea c n l ry fun s3 I3 => ⟨σ,_,I3,q2⟩
end
section
variable {X : Cx} {pins : List (Addr × Obj)} {σ : St} {H : Hp} {s : Shared} {A : Around} {E : Value → Shared → Prop} {Q : Value → Shared → Prop} {c : Value} {b : Bool}
end
end L2
namespace L2
open PySem PySem.Spec PyProof.Rows
structure Room (k : Nat) (A : Around) : Prop where
 hd : A.handled = none
 dp : A.depth + 3 * k + 5 < recursionLimit
 un : A.units + 16 * k + 200 < cLine
theorem Room.mono {j k : Nat} {A : Around} (r : Room k A) (h : j ≤ k) : Room j A := ⟨r.hd,by have := r.dp; omega,by have := r.un; omega⟩
theorem Room.deeper {k : Nat} {A : Around} (r : Room (k + 1) A) (env : Env) : Room k (A.deeper env) :=
 ⟨r.hd,by have := r.dp; show A.depth + 1 + 3 * k + 5 < _; omega,by have := r.un; show A.units + 3 + 16 * k + 200 < _; omega⟩
theorem make_depth {A : Around} {C : Addr} {us : List Value} {kw : List (Str × Value)} : (A.under (.builtin "type.__call__" ⟨.ref C :: us,kw⟩)).depth = A.depth + 1 := by
 first | rfl | simp [Around.under,Code.weight,Code.isCreation,Code.isGuard,Code.isCaller,Code.frames,Code.isFrame,guardIds]
theorem make_units {A : Around} {C : Addr} {us : List Value} {kw : List (Str × Value)} : (A.under (.builtin "type.__call__" ⟨.ref C :: us,kw⟩)).units = A.units + 1 := by
 first | rfl | simp [Around.under,Code.cUnits,Code.frames,Code.isFrame]
theorem Room.make {k : Nat} {A : Around} (r : Room (k + 1) A) (C : Addr) (us : List Value) (kw : List (Str × Value)) : Room k (A.under (.builtin "type.__call__" ⟨.ref C :: us,kw⟩)) :=
 ⟨r.hd,by have := r.dp; rw [make_depth]; omega,by have := r.un; rw [make_units]; omega⟩
theorem Room.depth {k : Nat} {A : Around} (r : Room k A) : A.depth < recursionLimit := by have := r.dp; omega
theorem Room.units {k : Nat} {A : Around} (r : Room k A) : A.units + 64 < cLine := by have := r.un; omega
def tNil : TA := fun _ H Q => Q [] H
def tCons (ta : TE) (tr : TA) : TA := fun σ H Q => ta σ H fun x H1 => tr σ H1 fun xs H2 => Q (x :: xs) H2
section
variable {X : Cx} {e : Expr} {es : List Expr} {te : TE} {t : TA} {pos : Pos}
theorem pa_nil : PA X [] tNil := fun _ _ _ _ H Q I h => Calls.spliced_nil ⟨[],H,I,.nil,h⟩
theorem pa_cons (ha : PE X e te) (hr : PA X es t) (hs : starEach (e :: es) X.env = (false,eval e X.env) :: starEach es X.env := by rfl) : PA X (e :: es) (tCons te t) := by
 intro pos pins s σ H Q I h
 rw [hs]
 show wpAny _ _ (spliced ((false,eval e X.env) :: backTo pos (starEach es X.env))) _ _ s
 refine Calls.spliced_cons (thn (ha pins s σ H _ I h) fun u s1 ⟨x,H1,I1,r1,q1⟩ => ?_)
 exact thn (hr pos pins s1 σ H1 _ I1 q1) fun us s2 ⟨xs,H2,I2,r2,q2⟩ => ⟨x :: xs,H2,I2,.cons r1 r2,q2⟩
def tTup (t : TA) : TE := fun σ H Q => t σ H fun xs H1 => xs.length ≤ sizeLine ∧ ∀ p,H1 p = none → Q (.ref p) (upd H1 p (.tup xs))
def tLst (t : TA) : TE := fun σ H Q => t σ H fun xs H1 => xs.length ≤ sizeLine ∧ ∀ p,H1 p = none → Q (.ref p) (upd H1 p (.lst xs))
theorem pe_tup {x1} (h : PA X es t) : PE X (.Tuple es x1 pos) (tTup t) := by
 intro pins s σ H Q I hq
 refine wpAny_Tuple_spliced (thn (h pos pins s σ H _ I hq) fun us s1 ⟨xs,H1,I1,r,z,q⟩ => ⟨by rw [← r.length]; exact z,?_⟩)
 have hf : H1 s1.heap.objs.size = none := I1.hok.fresh (Nat.le_refl _)
 refine ⟨.ref s1.heap.objs.size,upd H1 s1.heap.objs.size (.tup xs),I1.laid (t' := s1.toks) (fun b u e => Heap.get?_push_of_some _ e) (Nat.le_refl _) ?_,rfl,q _ hf⟩
 exact ⟨z,us,r,⟨_,Heap.get?_push_size _ rfl,rfl,_,rfl⟩⟩
theorem pe_lst (h : PA X es t) : PE X (.List es pos) (tLst t) := by
 intro pins s σ H Q I hq
 refine wpAny_List_spliced (thn (h pos pins s σ H _ I hq) fun us s1 ⟨xs,H1,I1,r,z,q⟩ => ⟨by rw [← r.length]; exact z,?_⟩)
 have hf : H1 s1.heap.objs.size = none := I1.hok.fresh (Nat.le_refl _)
 refine ⟨.ref s1.heap.objs.size,upd H1 s1.heap.objs.size (.lst xs),I1.laid (t' := s1.toks) (fun b u e => Heap.get?_push_of_some _ e) (Nat.le_refl _) ?_,rfl,q _ hf⟩
 exact ⟨z,us,0,r,Heap.get?_push_size _ rfl⟩
end
abbrev Sp := List V → Hp → VK → XK → Prop
abbrev CXT := List Env → Hp → Shared → XK → Value → Shared → Prop
structure Env0 (P : Program) (w : World) (K : PySem.W.Frag) (mg : Str → Option Value) (base : Heap) (A : Around) (outer : List Env) (s : Shared) (H : Hp) : Prop where
 frames : A.frames = some outer
 mod : Mod K mg base
 bs : ∀ b o,base.get? b = some o → s.heap.get? b = some o ∧ H b = none
 bsz : base.objs.size ≤ s.heap.objs.size
 funs : s.heap.FunFrames base outer
 frf : ∀ b ∈ frs outer,H b = none
 hok : HOk P w H s.heap
 bare : AllBare s.gens
def CE (outer : List Env) (P : Program) (w : World) (H : Hp) (s : Shared) (Q : VK) (u : Value) (s' : Shared) : Prop :=
 ∃ v H',s'.os = s.os ∧ AllBare s'.gens ∧ Un (frs outer) [] H H' s.heap s'.heap ∧ HOk P w H' s'.heap ∧ RelV v u ∧ Q v H'
def CR (CX : CXT) (outer : List Env) (P : Program) (w : World) (H : Hp) (s : Shared) (Q : VK) (E : XK) (r : Result) (s' : Shared) : Prop :=
 match r with
 | .ok (.ret u) => CE outer P w H s Q u s'
 | .ok _ => False
 | .error e => CX outer H s E e s'
structure FnOk (P : Program) (w : World) (K : PySem.W.Frag) (mg : Str → Option Value) (base : Heap) (CX : CXT) (k : Nat) (f : Addr) (fd : FuncData) (ps : List Str) (sp : Sp) : Prop where
 len : ∀ vs H Q E,sp vs H Q E → vs.length = ps.length
 run : ∀ (A : Around) (outer : List Env) (s : Shared) (H : Hp) (args : Args) (us : List Value) (vs : List V) (Q : VK) (E : XK),Room k A → Env0 P w K mg base A outer s H → BindsTo s fd args (ps.zip us) → Vals vs us → sp vs H Q E →
  codeAny (model P w) A (.call (.ref f) args) (CR CX outer P w H s Q E) s
theorem Env0.make {P : Program} {w : World} {K : PySem.W.Frag} {mg : Str → Option Value} {base : Heap} {A : Around} {outer : List Env} {s : Shared} {H : Hp} (e : Env0 P w K mg base A outer s H) (C : Addr) (us : List Value) (kw : List (Str × Value)) :
  Env0 P w K mg base (A.under (.builtin "type.__call__" ⟨.ref C :: us,kw⟩)) outer s H := ⟨by first | exact e.frames | (simpa [Around.under,Code.envs,Code.isFrame,pushEnvs] using e.frames),e.mod,e.bs,e.bsz,e.funs,e.frf,e.hok,e.bare⟩
section
variable {X : Cx} {pins : List (Addr × Obj)} {σ : St} {H : Hp} {s s' : Shared}
theorem Inv.env0 (I : Inv X pins σ H s) : Env0 X.prog X.w X.K X.mg X.base X.A X.stack s H :=
 ⟨I.ok.frames,I.ok.mod,I.bs,Nat.le_trans I.ok.bsz I.sz,I.stack,I.stkFree,I.hok,I.bare⟩
theorem Inv.after {Q : VK} {u : Value} (I : Inv X pins σ H s) (h : CE X.stack X.prog X.w H s Q u s') : EP X pins σ Q u s' := by
 obtain ⟨v,H',os,bare,un,hok,r,q⟩ := h
 obtain ⟨hh,g,d,t,os'⟩ := s'
 obtain rfl : os' = s.os := os
 exact ⟨v,H',I.call (h' := hh) (g' := g) (d' := d) (t' := t) (ch := []) un hok bare (fun b z => absurd z (by simp)),r,q⟩
end
def tCall (sp : Sp) (dvs : List V) (E : XK) (t : TA) : TE := fun σ H Q => t σ H fun vs H1 => sp (vs ++ dvs) H1 Q E
def tMeth (C : Addr) (m : Str) (sp : Sp) (dvs : List V) (E : XK) (ta : TE) (t : TA) : TE := fun σ H Q => ta σ H fun x H1 => ∃ a dx fs,x = .ref a ∧ H1 a = some (.ins C dx fs) ∧ fs.lookup m = none ∧
 t σ H1 fun vs H2 => sp (x :: (vs ++ dvs)) H2 Q E
def tMake (C : Addr) (sp : Sp) (dvs : List V) (E : XK) (t : TA) : TE := fun σ H Q => t σ H fun vs H1 => ∀ x dx,H1 x = none → H1 dx = none → dx ≠ x →
 sp (.ref x :: (vs ++ dvs)) (upd (upd H1 dx (.own x)) x (.ins C dx [])) (fun v H2 => v = .non ∧ Q (.ref x) H2) E
def Binds (K : PySem.W.Frag) (fd : FuncData) (ps : List Str) (ds : List Value) : Prop :=
 ∀ (s : Shared) (us : List Value),K.In s.heap → (us ++ ds).length = ps.length → BindsTo s fd ⟨us,[]⟩ (ps.zip (us ++ ds))
theorem Binds.all {K : PySem.W.Frag} {fd : FuncData} {ps : List Str} (h : ∀ us : List Value,us.length = ps.length → bindArgs fd ⟨us,[]⟩ = pure (ps.zip us)) : Binds K fd ps [] := fun s us _ hl => by
 rw [List.append_nil] at hl ⊢
 exact .of_eq (h us hl)
def Passes (CX : CXT) (X : Cx) (E : XK) : Prop := ∀ (pins : List (Addr × Obj)) (σ : St) (H : Hp) (s : Shared) (e : Value) (s' : Shared),Inv X pins σ H s → CX X.stack H s E e s' → X.xe e s'
section
variable {X : Cx} {CX : CXT} {k : Nat} {f C : Addr} {fd : FuncData} {ps : List Str} {sp : Sp} {dvs : List V} {ds : List Value} {E : XK} {x m : Str} {p pos apos : Pos} {e o : Expr} {es : List Expr} {ta : TE} {t : TA}
theorem run_fn {pins : List (Addr × Obj)} {σ : St} {H : Hp} {s : Shared} {Q : VK} {us : List Value} {vs : List V} (F : FnOk X.prog X.w X.K X.mg X.base CX k f fd ps sp) (hr : Room k X.A) (hb : Binds X.K fd ps ds) (hd : Vals dvs ds) (hx : Passes CX X E)
  (I : Inv X pins σ H s) (r : Vals vs us) (h : sp (vs ++ dvs) H Q E) : wpAny (model X.prog X.w) X.A (call (.ref f) us) (EP X pins σ Q) X.xe s := by
 have r2 : Vals (vs ++ dvs) (us ++ ds) := r.append hd
 have hl : (us ++ ds).length = ps.length := by rw [← r2.length]; exact F.len _ _ _ _ h
 refine wpAny_call (codeAny_mono (F.run X.A X.stack s H ⟨us,[]⟩ (us ++ ds) (vs ++ dvs) Q E hr I.env0 (hb s us I.kIn hl) r2 h) fun r s' hq => ?_)
 cases r with
 | error e => exact hx pins σ H s e s' I hq
 | ok fl =>
  cases fl with
  | ret u => exact I.after hq
  | next => exact False.elim hq
  | brk => exact False.elim hq
  | cont => exact False.elim hq
theorem pe_call (F : FnOk X.prog X.w X.K X.mg X.base CX k f fd ps sp) (hr : Room k X.A) (hg : Gl X x) (hm : X.mg x = some (.ref f)) (hk : PySem.W.keepIn X.K (.ref f) = true) (hb : Binds X.K fd ps ds) (hd : Vals dvs ds) (hx : Passes CX X E)
  (ha : PA X (e :: es) t) (hdb : (x == ("__debug__" : Str)) = false := by decide) (he : starEach (e :: es) X.env = (false,eval e X.env) :: starEach es X.env := by rfl) (hpl : (backTo pos (starEach es X.env)).any (·.1) = false := by rfl) :
  PE X (.Call (.Name x p) (e :: es) [] pos) (tCall sp dvs E t) := by
 intro pins s σ H Q I h
 refine wpAny_Call_Name_kw (ld_glob I hg hm ?_ hdb)
 refine PySem.W.callWith_K (h₀ := X.base) I.ok.mod.kin hk (thn (ha pos pins s σ H _ I h) fun us s1 ⟨vs,H1,I1,r,q⟩ => ⟨I1.kIn,?_⟩) he hpl
 exact run_fn F hr hb hd hx I1 r q
theorem pe_call0 (F : FnOk X.prog X.w X.K X.mg X.base CX k f fd ps sp) (hr : Room k X.A) (hg : Gl X x) (hm : X.mg x = some (.ref f)) (hk : PySem.W.keepIn X.K (.ref f) = true) (hb : Binds X.K fd ps ds) (hd : Vals dvs ds) (hx : Passes CX X E)
  (hdb : (x == ("__debug__" : Str)) = false := by decide) : PE X (.Call (.Name x p) [] [] pos) (tCall sp dvs E tNil) := by
 intro pins s σ H Q I h
 refine wpAny_Call_Name_kw (ld_glob I hg hm ?_ hdb)
 exact PySem.W.callWith_K0 I.kIn hk (run_fn (us := []) F hr hb hd hx I .nil h)
theorem pe_meth {pl : Sem Bool} (he : PE X o ta) (c : Cls X.K C) (hm : Meth X.K C m f) (F : FnOk X.prog X.w X.K X.mg X.base CX k f fd ps sp) (hr : Room k X.A) (hb : Binds X.K fd ps ds) (hd : Vals dvs ds) (hx : Passes CX X E) (ha : PA X (e :: es) t)
  (hst : starEach (e :: es) X.env = (false,eval e X.env) :: starEach es X.env := by rfl) (hpl : (backTo pos (starEach es X.env)).any (·.1) = false := by rfl)
  (ht : eval (.Call (.Attribute o m apos) (e :: es) [] pos) X.env = (do
   let ov ← eval o X.env
   standAt apos.atName
   let (f,first) ← holding [ov] (getMethod ov m pl)
   callWith pos f first (backTo pos (starEach (e :: es) X.env)) (backToKw pos (keywordEach [] X.env))) := by rfl) :
  PE X (.Call (.Attribute o m apos) (e :: es) [] pos) (tMeth C m sp dvs E ta t) := by
 intro pins s σ H Q I h
 refine PySem.W.methodCall_KW (pl := pl) (thn (he pins s σ H _ I h) fun u s1 ⟨x,H1,I1,rx,a,dx,fs,ex,ea,l,q⟩ => ?_) ht
 subst ex
 obtain rfl : u = Value.ref a := rx
 refine getmeth_ok I1 ea c hm l ?_
 refine PySem.W.callWith_K (first := [.ref a]) (h₀ := X.base) I.ok.mod.kin hm.kp (thn (ha pos pins s1 σ H1 _ I1 q) fun us s2 ⟨vs,H2,I2,r,q2⟩ => ⟨I2.kIn,?_⟩) hst hpl
 exact run_fn (us := .ref a :: us) (vs := .ref a :: vs) F hr hb hd hx I2 (.cons rfl r) q2
theorem pe_meth0 {pl : Sem Bool} (he : PE X o ta) (c : Cls X.K C) (hm : Meth X.K C m f) (F : FnOk X.prog X.w X.K X.mg X.base CX k f fd ps sp) (hr : Room k X.A) (hb : Binds X.K fd ps ds) (hd : Vals dvs ds) (hx : Passes CX X E)
  (ht : eval (.Call (.Attribute o m apos) [] [] pos) X.env = (do
   let ov ← eval o X.env
   standAt apos.atName
   let (f,first) ← holding [ov] (getMethod ov m pl)
   callWith pos f first (backTo pos (starEach [] X.env)) (backToKw pos (keywordEach [] X.env))) := by rfl) :
  PE X (.Call (.Attribute o m apos) [] [] pos) (tMeth C m sp dvs E ta tNil) := by
 intro pins s σ H Q I h
 refine PySem.W.methodCall_KW (pl := pl) (thn (he pins s σ H _ I h) fun u s1 ⟨x,H1,I1,rx,a,dx,fs,ex,ea,l,q⟩ => ?_) ht
 subst ex
 obtain rfl : u = Value.ref a := rx
 refine getmeth_ok I1 ea c hm l ?_
 exact PySem.W.callWith_K0 (first := [.ref a]) I1.kIn hm.kp (run_fn (us := [.ref a]) (vs := [.ref a]) F hr hb hd hx I1 (.cons rfl .nil) q)
structure Mk (K : PySem.W.Frag) (C f : Addr) : Prop where
 makes : PySem.W.makesIn K C = true
 init : PySem.W.findIn K (.ref C) "__init__" = some (some (.ref f))
 fn : PySem.W.isFn K (.ref f) = true
 kp : PySem.W.keepIn K (.ref C) = true
theorem run_make {pins : List (Addr × Obj)} {σ : St} {H : Hp} {s : Shared} {Q : VK} {us : List Value} {vs : List V} (M : Mk X.K C f) (F : FnOk X.prog X.w X.K X.mg X.base CX k f fd ps sp) (hr : Room (k + 1) X.A) (hb : Binds X.K fd ps ds) (hd : Vals dvs ds)
  (hx : Passes CX X E) (I : Inv X pins σ H s) (r : Vals vs us)
  (h : ∀ x dx,H x = none → H dx = none → dx ≠ x → sp (.ref x :: (vs ++ dvs)) (upd (upd H dx (.own x)) x (.ins C dx [])) (fun v H2 => v = .non ∧ Q (.ref x) H2) E) :
  wpAny (model X.prog X.w) X.A (call (.ref C) us) (EP X pins σ Q) X.xe s := by
 have hq := h (s.heap.objs.size + 1) s.heap.objs.size (I.hok.fresh (Nat.le_succ _)) (I.hok.fresh (Nat.le_refl _)) (Nat.ne_of_lt (Nat.lt_succ_self _))
 have I2 := Inv.made (C := C) I
 have r2 : Vals (V.ref (s.heap.objs.size + 1) :: (vs ++ dvs)) (Value.ref (s.heap.objs.size + 1) :: (us ++ ds)) := .cons rfl (r.append hd)
 have hl : (Value.ref (s.heap.objs.size + 1) :: us ++ ds).length = ps.length := by
  have e := r2.length
  rw [F.len _ _ _ _ hq] at e
  exact e.symm
 refine wpAny_call (make_map (f := f) I.kIn M.makes M.init (beq_iff_eq.mp M.fn) (codeAny_mono (F.run _ X.stack _ _ ⟨Value.ref (s.heap.objs.size + 1) :: us,[]⟩ (Value.ref (s.heap.objs.size + 1) :: (us ++ ds)) _ _ E (hr.make C us [])
  (I2.env0.make C us []) (hb _ (Value.ref (s.heap.objs.size + 1) :: us) I2.kIn hl) r2 hq) fun r s' hq' => ?_))
 cases r with
 | error e => exact hx pins σ _ _ e s' I2 hq'
 | ok fl =>
  cases fl with
  | ret u =>
   obtain ⟨v,H',I3,rv,ev,q3⟩ := I2.after hq'
   subst ev
   exact ⟨rv,⟨V.ref (s.heap.objs.size + 1),H',I3,rfl,q3⟩⟩
  | next => exact False.elim hq'
  | brk => exact False.elim hq'
  | cont => exact False.elim hq'
theorem pe_make (M : Mk X.K C f) (F : FnOk X.prog X.w X.K X.mg X.base CX k f fd ps sp) (hr : Room (k + 1) X.A) (hg : Gl X x) (hm : X.mg x = some (.ref C)) (hb : Binds X.K fd ps ds) (hd : Vals dvs ds) (hx : Passes CX X E)
  (ha : PA X (e :: es) t) (hdb : (x == ("__debug__" : Str)) = false := by decide) (he : starEach (e :: es) X.env = (false,eval e X.env) :: starEach es X.env := by rfl) (hpl : (backTo pos (starEach es X.env)).any (·.1) = false := by rfl) :
  PE X (.Call (.Name x p) (e :: es) [] pos) (tMake C sp dvs E t) := by
 intro pins s σ H Q I h
 refine wpAny_Call_Name_kw (ld_glob I hg hm ?_ hdb)
 refine PySem.W.callWith_K (h₀ := X.base) I.ok.mod.kin M.kp (thn (ha pos pins s σ H _ I h) fun us s1 ⟨vs,H1,I1,r,q⟩ => ⟨I1.kIn,?_⟩) he hpl
 exact run_make M F hr hb hd hx I1 r q
theorem pe_make0 (M : Mk X.K C f) (F : FnOk X.prog X.w X.K X.mg X.base CX k f fd ps sp) (hr : Room (k + 1) X.A) (hg : Gl X x) (hm : X.mg x = some (.ref C)) (hb : Binds X.K fd ps ds) (hd : Vals dvs ds) (hx : Passes CX X E)
  (hdb : (x == ("__debug__" : Str)) = false := by decide) : PE X (.Call (.Name x p) [] [] pos) (tMake C sp dvs E tNil) := by
 intro pins s σ H Q I h
 refine wpAny_Call_Name_kw (ld_glob I hg hm ?_ hdb)
 exact PySem.W.callWith_K0 I.kIn M.kp (run_make (us := []) M F hr hb hd hx I .nil h)
end
section
variable {X : Cx} {CX : CXT} {k : Nat} {f C : Addr} {fd : FuncData} {ps ks : List Str} {sp : Sp} {E : XK} {x m : Str} {p pos apos kpos : Pos} {e o : Expr} {es : List Expr} {kws : List Keyword} {te ta : TE} {t tk : TA} {nm : Option Str}
variable {g : List Value → List Value → List Value} {gV : List V → List V → List V}
end
structure FnScope (N P : List Str) (sc : Scope) : Prop where
 kind : sc.kind = .function
 co : sc.isCoroutine = false
 gen : sc.isGenerator = false
 nd : N.Nodup
 pre : N.take P.length = P
 par : ∀ x ∈ P,sc.names.lookup x = some .local ∨ sc.names.lookup x = some .cell
 nofree : ∀ y ∈ sc.names,y.2 ≠ .free
theorem bindL_out {kindOf : Str → Option NameKind} {x : Str} : ∀ {binds : List (Str × Value)} {m : Str → Option Value},(∀ v,(x,v) ∉ binds) → bindL kindOf binds m x = m x
 | [],_,_ => rfl
 | (n,v) :: r,m,h => by
  unfold bindL
  rw [bindL_out fun w hw => h w (List.mem_cons_of_mem _ hw)]
  split
  ·have : x ≠ n := by rintro rfl; exact h v List.mem_cons_self
   simp [this]
  ·rfl
theorem bindC_out {kindOf : Str → Option NameKind} {x : Str} : ∀ {binds : List (Str × Value)} {m : Str → Option Value},(∀ v,(x,v) ∉ binds) → bindC kindOf binds m x = m x
 | [],_,_ => rfl
 | (n,v) :: r,m,h => by
  unfold bindC
  rw [bindC_out fun w hw => h w (List.mem_cons_of_mem _ hw)]
  split
  ·rfl
  ·have : x ≠ n := by rintro rfl; exact h v List.mem_cons_self
   simp [this]
theorem bindL_get {kindOf : Str → Option NameKind} {x : Str} {v : Value} : ∀ {P : List Str} {vs : List Value} {i : Nat} {m : Str → Option Value},P.Nodup → P[i]? = some x → vs[i]? = some v → kindOf x = some .local →
  bindL kindOf (P.zip vs) m x = some v
 | [],_,_,_,_,h,_,_ => by simp at h
 | _ :: _,[],_,_,_,_,h,_ => by simp at h
 | p :: P,w :: vs,0,m,nd,h1,h2,hk => by
  simp at h1 h2; subst h1; subst h2
  show bindL kindOf ((p,w) :: P.zip vs) m p = _
  unfold bindL
  rw [bindL_out fun v hv => (List.nodup_cons.mp nd).1 (List.of_mem_zip hv).1,if_pos hk]
  simp
 | p :: P,w :: vs,i + 1,m,nd,h1,h2,hk => by
  show bindL kindOf ((p,w) :: P.zip vs) m x = _
  unfold bindL
  exact bindL_get (i := i) (List.nodup_cons.mp nd).2 (by simpa using h1) (by simpa using h2) hk
theorem bindC_get {kindOf : Str → Option NameKind} {x : Str} {v : Value} : ∀ {P : List Str} {vs : List Value} {i : Nat} {m : Str → Option Value},P.Nodup → P[i]? = some x → vs[i]? = some v → kindOf x ≠ some .local →
  bindC kindOf (P.zip vs) m x = some v
 | [],_,_,_,_,h,_,_ => by simp at h
 | _ :: _,[],_,_,_,_,h,_ => by simp at h
 | p :: P,w :: vs,0,m,nd,h1,h2,hk => by
  simp at h1 h2; subst h1; subst h2
  show bindC kindOf ((p,w) :: P.zip vs) m p = _
  unfold bindC
  rw [bindC_out fun v hv => (List.nodup_cons.mp nd).1 (List.of_mem_zip hv).1,if_neg hk]
  simp
 | p :: P,w :: vs,i + 1,m,nd,h1,h2,hk => by
  show bindC kindOf ((p,w) :: P.zip vs) m x = _
  unfold bindC
  exact bindC_get (i := i) (List.nodup_cons.mp nd).2 (by simpa using h1) (by simpa using h2) hk
def start (N : List Str) (vs : List V) : St := vs.map some ++ List.replicate (N.length - vs.length) none
def cxOf (CX : CXT) (P : Program) (w : World) (K : PySem.W.Frag) (mg : Str → Option Value) (base : Heap) (N : List Str) (qual : Str) (scope : Scope) (f : Addr) (cd : Value) (A : Around) (outer : List Env) (s : Shared) (H : Hp) (E : XK) : Cx where
 prog := P
 w := w
 K := K
 mg := mg
 base := base
 A := A.deeper (envOfC qual scope s.heap.objs.size f cd)
 N := N
 s_0 := s
 H_0 := H
 env := envOfC qual scope s.heap.objs.size f cd
 outer := outer
 stack := envOfC qual scope s.heap.objs.size f cd :: outer
 ex := []
 calm := true
 fn := fun _ => true
 pn := []
 xe := fun e s' => wpAny (model P w) (A.deeper (envOfC qual scope s.heap.objs.size f cd)) (leaving (envOfC qual scope s.heap.objs.size f cd) e) (fun _ s'' => CX outer H s E e s'') (fun e' s'' => CX outer H s E e' s'') s'
theorem cell_has {sc : Scope} {n : Nat} {x : Str} (h : sc.names.lookup x = some .cell) : ∃ c,(cellsFrom n sc.names []).lookup x = some c := by
 have q := PySem.W.cellsFrom_some sc.names n [] (.inl h)
 exact Option.isSome_iff_exists.mp q
theorem inv_start {CX : CXT} {P : Program} {w : World} {K : PySem.W.Frag} {mg : Str → Option Value} {base : Heap} {N ps : List Str} {qual : Str} {scope : Scope} {f : Addr} {cd : Value} {A : Around} {outer : List Env} {s s1 : Shared} {H : Hp} {E : XK} {us : List Value} {vs : List V}
  (S : FnScope N ps scope) (hd : A.handled = none) (e0 : Env0 P w K mg base A outer s H) (hl : vs.length = ps.length) (r : Vals vs us)
  (x : InCallC s s.heap.objs.size (bindL (envOfC qual scope s.heap.objs.size f cd).kindOf (ps.zip us) fun _ => none) (cellsFrom (s.heap.objs.size + 1) scope.names []) (bindC (envOfC qual scope s.heap.objs.size f cd).kindOf (ps.zip us) fun _ => none) s1) :
  Inv (cxOf CX P w K mg base N qual scope f cd A outer s H E) [] (start N vs) H s1 := by
 have hpl : ps.length ≤ N.length := by have := congrArg List.length S.pre; rw [List.length_take] at this; omega
 obtain ⟨h1,tk,rfl,hk⟩ := x.done
 have noA : ∀ b : Addr,b ∉ (cxOf CX P w K mg base N qual scope f cd A outer s H E).ex := fun b z => absurd (show b ∈ ([] : List Addr) from z) (by simp)
 refine ⟨⟨e0.mod,S.kind,rfl,rfl,Nat.le_refl _,fun y z c h1 h2 => ?_,fun y hy => ?_,fun y c _ h => ?_,fun _ => hd,Around.frames_deeper e0.frames,.inr ⟨rfl,rfl⟩,fun b z => absurd z (noA b),e0.bs,e0.bsz,fun b _ _ => noA b,fun b z => absurd z (noA b),e0.funs,e0.frf⟩,
  rfl,e0.bare,Un.kept hk,⟨_,x.toInCall.ns,fun i y v h1 h2 h3 => ?_⟩,fun y c h => ⟨_,x.cell y c h⟩,e0.hok.fresh (Nat.le_refl _),fun y c h => ?_,fun p hp => absurd (show p ∈ ([] : List (Addr × Obj)) from hp) (by simp),e0.hok.kept hk,?_⟩
 ·exact name_of_addr x.apart (PySem.mem_of_lookup h1) (PySem.mem_of_lookup h2)
 ·have hy : scope.names.lookup y = some .cell ∨ scope.names.lookup y = some .free := hy
  rcases hy with hy | hy
  ·exact cell_has hy
  ·exact absurd rfl (S.nofree _ (PySem.mem_of_lookup hy))
 ·exact Nat.le_of_lt (x.above y c (PySem.mem_of_lookup h))
 ·have hi : i < vs.length := by
   unfold start at h2
   by_cases hi : i < vs.length
   ·exact hi
   ·rw [List.getElem?_append_right (by simpa using hi)] at h2
    rw [List.getElem?_replicate] at h2
    split at h2 <;> cases h2
  have ha : vs[i]? = some v := by
   unfold start at h2
   rw [List.getElem?_append_left (by simpa using hi),List.getElem?_map] at h2
   cases e : vs[i]? with
   | none => rw [e] at h2; cases h2
   | some a => rw [e] at h2; cases h2; rfl
  obtain ⟨u,hu,rv⟩ := r.get ha
  have hp : ps[i]? = some y := by
   rw [← S.pre,List.getElem?_take_of_lt (by omega)]; exact h1
  have ndP : ps.Nodup := by rw [← S.pre]; exact S.nd.sublist (List.take_sublist _ _)
  refine ⟨u,rv,?_⟩
  rcases S.par y (List.mem_of_getElem? hp) with k | k
  ·exact .inl ⟨k,bindL_get ndP hp hu k⟩
  ·obtain ⟨c,e⟩ := cell_has (n := s.heap.objs.size + 1) k
   refine .inr ⟨.inl k,c,e,?_⟩
   have q := x.cell y c e
   rw [bindC_get ndP hp hu (by show scope.names.lookup y ≠ _; rw [k]; decide)] at q
   exact q
 ·exact e0.hok.fresh (Nat.le_of_lt (x.above y c (PySem.mem_of_lookup h)))
 ·unfold start
  show _ = N.length
  rw [List.length_append,List.length_map,List.length_replicate]
  omega
theorem fn_of {CX : CXT} {P : Program} {w : World} {K : PySem.W.Frag} {mg : Str → Option Value} {base : Heap} {k : Nat} {f : Addr} {name qual : Str} {params : Arguments} {body : List Stmt} {scope : Scope} {dV kV doc pm cdv ct oc : Value} {an od : Option Addr}
  {osl : Array (Option Value)} {N ps : List Str} {sp : Sp} (lk : K.lookup f = some ⟨oc,od,.func (PySem.W.fnOf name qual params body scope dV kV doc pm an cdv ct),osl⟩) (hcd : PySem.W.codeIn K cdv qual = true) (S : FnScope N ps scope)
  (len : ∀ vs H Q E,sp vs H Q E → vs.length = ps.length)
  (hbody : ∀ (A : Around) (outer : List Env) (s : Shared) (H : Hp) (vs : List V) (Q : VK) (E : XK),Room k (A.deeper (envOfC qual scope s.heap.objs.size f cdv)) → sp vs H Q E →
   ∃ t,PSs (cxOf CX P w K mg base N qual scope f cdv A outer s H E) body t ∧ t { nx := fun _ H' => Q .non H',rt := Q } (start N vs) H) :
  FnOk P w K mg base CX (k + 1) f (PySem.W.fnOf name qual params body scope dV kV doc pm an cdv ct) ps sp := by
 refine ⟨len,fun A outer s H args us vs Q E hr e0 hb r hsp => ?_⟩
 have hl := len _ _ _ _ hsp
 have KX : K.In s.heap := e0.mod.kin.keeps fun b o e => (e0.bs b o e).1
 have lim : s.heap.NoLimit := e0.mod.nolimit.keeps fun b o e => (e0.bs b o e).1
 have hkind : ∀ y ∈ ps.zip us,scope.names.lookup y.1 = some .local ∨ (scope.names.lookup y.1 = some .cell ∧ ((cellsFrom (s.heap.objs.size + 1) scope.names []).lookup y.1).isSome = true) := fun ⟨n,v⟩ hy => by
  rcases S.par n (List.of_mem_zip hy).1 with q | q
  ·exact .inl q
  ·exact .inr ⟨q,PySem.W.cellsFrom_some _ _ _ (.inl q)⟩
 refine codeAny_call_function hr.depth (KX _ _ lk) rfl S.co S.gen rfl (PySem.W.codeRec_of KX hcd) (hb _ _ _ _ ?_)
 refine wpAny_newFunctionEnv_cells S.kind hkind fun env he s1 x => ?_
 subst he
 refine ⟨lim.keeps x.toInCall.keep,codeAny_func ?_⟩
 obtain ⟨t,ht,hq⟩ := hbody A outer s H vs Q E (hr.deeper _) hsp
 have I : Inv (cxOf CX P w K mg base N qual scope f cdv A outer s H E) [] (start N vs) H s1 := inv_start S hr.hd e0 hl r x
 refine wpAny_mono (ht [] s1 (start N vs) H _ I hq) (fun fl s' hs => ?_) fun e s' hs => hs
 have fin : ∀ {σ' : St} {H' : Hp} {v : V} {u : Value},Inv (cxOf CX P w K mg base N qual scope f cdv A outer s H E) [] σ' H' s' → RelV v u → Q v H' → CE outer P w H s Q u s' :=
  fun {σ' H' v u} J rv q => ⟨v,H',J.os,J.bare,J.base,J.hok,rv,q⟩
 cases fl with
 | ret u =>
  obtain ⟨v,σ',H',J,rv,q⟩ := hs
  exact fin J rv q
 | next =>
  obtain ⟨σ',H',J,q⟩ := hs
  exact fin (v := V.non) (u := Value.none) J rfl q
 | brk =>
  obtain ⟨_,_,_,q⟩ := hs
  exact False.elim q
 | cont =>
  obtain ⟨_,_,_,q⟩ := hs
  exact False.elim q
end L2
namespace L2
open PySem PySem.Spec PyProof.Rows
section
variable {X : Cx} {x : Str} {p pos : Pos} {e : Expr} {es : List Expr} {t : TA} {id T : String} {r : List V → Hp → VK → Prop}
def tCB (r : List V → Hp → VK → Prop) (t : TA) : TE := fun σ H Q => t σ H fun vs H1 => r vs H1 Q
theorem pe_callB (hc : CallR X (.builtin id) r) (hg : Gl X x) (hm : X.mg x = none) (hv : bootBuiltins x = some (.builtin id)) (ha : PA X (e :: es) t) (hn : x ≠ "__name__" := by decide) (hdb : (x == ("__debug__" : Str)) = false := by decide)
  (he : starEach (e :: es) X.env = (false,eval e X.env) :: starEach es X.env := by rfl) (hpl : (backTo pos (starEach es X.env)).any (·.1) = false := by rfl) : PE X (.Call (.Name x p) (e :: es) [] pos) (tCB r t) := by
 intro pins s σ H Q I h
 refine wpAny_Call_Name_kw (ld_blt I hg hm hv ?_ hn hdb)
 exact PyProof.Rows.callWith_builtin1 (thn (ha pos pins s σ H _ I h) fun us s1 ⟨vs,H1,I1,r1,q1⟩ => hc pins s1 σ H1 vs us Q I1 r1 q1) he hpl
end
end L2
namespace HT
open PySem PyProof.Rows
section
open PySem.SeqAt
open PySem.AutoSeq1 (wpAny_loadPart')
open PySem.MeetsSeq PySem.MeetsSeq2 PySem.MeetsSeq3
end
section
variable {prog : Program} {w : World} {A : Around} {E : Value → Shared → Prop} {s : Shared}
def sIx (n d : Nat) : Option Int → Nat
 | none => d
 | some v => if v < 0 then (v + (n : Int)).toNat else min v.toNat n
theorem sIx_nat (n d k : Nat) : sIx n d (some (k : Int)) = min k n := by
 show (if (k : Int) < 0 then ((k : Int) + (n : Int)).toNat else min (k : Int).toNat n) = min k n
 rw [if_neg (by omega),Int.toNat_natCast]
end
end HT
namespace L2
open PySem PySem.Spec PyProof.Rows
abbrev TO := St → Hp → (Option Int → Hp → Prop) → Prop
def PO (X : Cx) (e : Option Expr) (t : TO) : Prop :=
 ∀ (pins : List (Addr × Obj)) (s : Shared) (σ : St) (H : Hp) (Q : Option Int → Hp → Prop),Inv X pins σ H s → t σ H Q →
  wpAny (model X.prog X.w) X.A (evalPart e X.env) (fun u s' => ∃ o H',Inv X pins σ H' s' ∧ IsPart u o ∧ Q o H') X.xe s
def tNoPart : TO := fun _ H Q => Q none H
def tPart (t : TE) : TO := fun σ H Q => t σ H fun x H1 => ∃ i,x = .int i ∧ Q (some i) H1
section
variable {X : Cx} {e : Expr} {te : TE} {lo hi : Option Expr} {tl th : TO} {pos p2 : Pos}
theorem po_none : PO X none tNoPart := by
 intro pins s σ H Q I h
 rw [evalPart_none]
 exact wpAny_pure ⟨none,H,I,.none,h⟩
theorem po_some (h : PE X e te) : PO X (some e) (tPart te) := by
 intro pins s σ H Q I hw
 rw [evalPart_some]
 refine thn (h pins s σ H _ I hw) fun u s1 ⟨x,H1,I1,r1,q1⟩ => ?_
 obtain ⟨i,rfl,q⟩ := q1
 obtain ⟨t,rfl⟩ := r1
 exact ⟨some i,H1,I1,.int i t,q⟩
def SlR (X : Cx) (r : V → Option Int → Option Int → Hp → VK → Prop) : Prop :=
 ∀ (pins : List (Addr × Obj)) (s : Shared) (σ : St) (H : Hp) (x : V) (v vl vu : Value) (lo hi : Option Int) (sl : Addr) (Q : VK),Inv X pins σ H s → RelV x v → s.heap.IsSliceOf sl vl vu .none → IsPart vl lo → IsPart vu hi → r x lo hi H Q →
  ∃ T id,typeLookup (.type T) "__getitem__" = pure (some (.builtin id)) ∧ s.TypeIs v T ∧ wpAny (model X.prog X.w) X.A (getItem v (.ref sl)) (EP X pins σ Q) X.xe s
def tSl (r : V → Option Int → Option Int → Hp → VK → Prop) (te : TE) (tl th : TO) : TE := fun σ H Q => te σ H fun x H1 => tl σ H1 fun l H2 => th σ H2 fun u H3 => r x l u H3 Q
theorem pe_slice {r : V → Option Int → Option Int → Hp → VK → Prop} (hr : SlR X r) (he : PE X e te) (hl : PO X lo tl) (hu : PO X hi th) : PE X (.Subscript e (.Slice lo hi none p2) pos) (tSl r te tl th) := by
 intro pins s σ H Q I h
 refine Subscript_ (thn (he pins s σ H _ I h) fun v s1 ⟨x,H1,I1,r1,q1⟩ => ?_)
 refine wpAny_Slice (thn (hl pins s1 σ H1 _ I1 q1) fun vl s2 ⟨l,H2,I2,pl,q2⟩ => thn (hu pins s2 σ H2 _ I2 q2) fun vu s3 ⟨u,H3,I3,pu,q3⟩ => ?_)
 rw [evalPart_none]
 refine wpAny_pure ?_
 have I4 : Inv X pins σ H3 { s3 with heap := s3.heap.push { cls := .type "slice",data := .fields #[vl,vu,.none] } } := I3.kept (t' := s3.toks) fun b ob q => Heap.get?_push_of_some _ q
 obtain ⟨T,id,hT,ht,hg⟩ := hr pins { s3 with heap := s3.heap.push { cls := .type "slice",data := .fields #[vl,vu,.none] } } σ H3 x v vl vu l u s3.heap.objs.size Q I4 r1 (Heap.IsSliceOf.new ..) pl pu q3
 show wpAny (model X.prog X.w) X.A (subscriptTail e (.Slice lo hi none p2) v (.ref s3.heap.objs.size)) (EP X pins σ Q) X.xe { s3 with heap := s3.heap.push { cls := .type "slice",data := .fields #[vl,vu,.none] } }
 exact tail_any (ops := [.ref s3.heap.objs.size,v]) ht hT hg (by with_unfolding_all rfl)
def cutV (xs : List V) (lo hi : Option Int) : List V := (xs.drop (HT.sIx xs.length 0 lo)).take (HT.sIx xs.length xs.length hi - HT.sIx xs.length 0 lo)
theorem cutV_length (xs : List V) (lo hi : Option Int) : (cutV xs lo hi).length ≤ xs.length := by
 unfold cutV
 rw [List.length_take,List.length_drop]
 omega
end
end L2
namespace L2
open PySem PySem.Spec PyProof.Rows
def ixN (n : Nat) (i : Int) : Option Nat := if 0 ≤ i then (if i < n then some i.toNat else none) else if -(n : Int) ≤ i then some (i + n).toNat else none
def atI {α : Type} (xs : List α) (i : Int) : Option α := (ixN xs.length i).bind fun j => xs[j]?
theorem ixN_seq {n : Nat} {i : Int} {j : Nat} (h : ixN n i = some j) : seqIndex? i n = some j ∧ j < n ∧ -(n : Int) ≤ i ∧ i < n := by
 unfold ixN at h
 by_cases h0 : 0 ≤ i
 ·rw [if_pos h0] at h
  by_cases h1 : i < n
  ·rw [if_pos h1] at h
   have e : i.toNat = j := Option.some.inj h
   exact ⟨by rw [seqIndex_of h0 h1,e],by omega,by omega,h1⟩
  ·rw [if_neg h1] at h; cases h
 ·rw [if_neg h0] at h
  by_cases h1 : -(n : Int) ≤ i
  ·rw [if_pos h1] at h
   have e : (i + n).toNat = j := Option.some.inj h
   exact ⟨by rw [seqIndex_neg (by omega) h1,e],by omega,h1,by omega⟩
  ·rw [if_neg h1] at h; cases h
theorem atI_get {α : Type} {xs : List α} {i : Int} {v : α} (h : atI xs i = some v) : ∃ j,seqIndex? i xs.length = some j ∧ xs[j]? = some v ∧ j < xs.length ∧ -(xs.length : Int) ≤ i ∧ i < xs.length := by
 unfold atI at h
 cases e : ixN xs.length i with
 | none => rw [e] at h; cases h
 | some j =>
  rw [e] at h
  obtain ⟨h1,h2,h3,h4⟩ := ixN_seq e
  exact ⟨j,h1,h,h2,h3,h4⟩
theorem atI_nat {α : Type} {xs : List α} {j : Nat} {v : α} (h : xs[j]? = some v) : atI xs (j : Int) = some v := by
 have hj : j < xs.length := (List.getElem?_eq_some_iff.mp h).1
 have e : ixN xs.length (j : Int) = some j := by
  unfold ixN
  rw [if_pos (by omega),if_pos (by omega)]; simp
 unfold atI; rw [e]; exact h
def PlainIx (b : Expr) : Prop := ∀ o i,subscripted b false o i = operate [o,i] (getItem o i)
def IxR (X : Cx) (r : R2) : Prop :=
 ∀ (value slice : Expr) (pins : List (Addr × Obj)) (s : Shared) (σ : St) (H : Hp) (x y : V) (v u : Value) (Q : VK),Inv X pins σ H s → RelV x v → RelV y u → r x y H Q →
  subscripted slice false v u = operate [v,u] (getItem v u) → wpAny (model X.prog X.w) X.A (subscriptTail value slice v u) (EP X pins σ Q) X.xe s
def MtR (X : Cx) (id : String) (r : V → List V → Hp → VK → Prop) : Prop :=
 ∀ (pins : List (Addr × Obj)) (s : Shared) (σ : St) (H : Hp) (x : V) (xs : List V) (v : Value) (us : List Value) (Q : VK),Inv X pins σ H s → RelV x v → Vals xs us → r x xs H Q →
  wpAny (model X.prog X.w) X.A (call (.builtin id) (v :: us)) (EP X pins σ Q) X.xe s
section
variable {X : Cx} {a b : Expr} {ta tb : TE} {pos : Pos}
theorem pe_ix {r : R2} (hr : IxR X r) (ha : PE X a ta) (hb : PE X b tb) (hs : PlainIx b) : PE X (.Subscript a b pos) (tOp r ta tb) := by
 intro pins s σ H Q I h
 exact Subscript_ (binT ha hb I h fun v u s2 x y H2 I2 rx ry q => hr a b pins s2 σ H2 x y v u Q I2 rx ry q (hs _ _))
def rIxL (K : PySem.W.Frag) : R2 := fun x y H Q => ∃ p xs i v,x = .ref p ∧ y = .int i ∧ SqL K H p xs ∧ atI xs i = some v ∧ Q v H
def rIxT (K : PySem.W.Frag) : R2 := fun x y H Q => ∃ p xs i v,x = .ref p ∧ y = .int i ∧ SqT K H p xs ∧ atI xs i = some v ∧ Q v H
theorem ix_list : IxR X (rIxL X.K) := by
 intro value slice pins s σ H x y v u Q I rx ry h hs
 obtain ⟨p,xs,i,z,rfl,rfl,hq,he,q⟩ := h
 cases rx
 obtain ⟨t,rfl⟩ := ry
 obtain ⟨its,r,pl,hz⟩ := I.list hq
 obtain ⟨j,h1,h2,h3,h4,h5⟩ := atI_get he
 obtain ⟨w,ew,rw'⟩ := r.get h2
 have hl := r.length
 have hn := line63
 have fin : EP X pins σ Q w s := ⟨z,H,I,rw',q⟩
 by_cases h0 : 0 ≤ i
 ·have hj : i.toNat = j := by
   rw [seqIndex_of h0 h5] at h1
   exact Option.some.inj h1
  exact item_listR pl.isList h0 (by omega) (by rw [hj]; simpa using ew) fin hs
 ·have hj : (i + (its.toArray.size : Int)).toNat = j := by
   rw [seqIndex_neg (by omega) h4] at h1
   rw [List.size_toArray,← hl]
   exact Option.some.inj h1
  exact subscriptTail_builtinR (x := w) pl.isList.typeIs slot_list_getitem.lookup
   (wpAny_getItem_list_neg (Q := fun r s' => r = w ∧ EP X pins σ Q r s') pl.isList (by omega) (by rw [List.size_toArray] <;> omega) (by omega) (by rw [hj]; simpa using ew) ⟨rfl,fin⟩) hs
theorem ix_tup : IxR X (rIxT X.K) := by
 intro value slice pins s σ H x y v u Q I rx ry h hs
 obtain ⟨p,xs,i,z,rfl,rfl,hq,he,q⟩ := h
 cases rx
 obtain ⟨t,rfl⟩ := ry
 obtain ⟨its,r,pl,hz⟩ := I.tuple hq
 obtain ⟨j,h1,h2,h3,h4,h5⟩ := atI_get he
 obtain ⟨w,ew,rw'⟩ := r.get h2
 have hl := r.length
 have hn := line63
 have fin : EP X pins σ Q w s := ⟨z,H,I,rw',q⟩
 exact subscriptTail_builtinR (x := w) pl.typeIs slot_tuple_getitem.lookup
  (getItem_tuple (j := j) (Q := fun r s' => r = w ∧ EP X pins σ Q r s') pl (by omega) (by omega) (by rw [List.size_toArray,← hl]; exact h1) (by simpa using ew) ⟨rfl,fin⟩) hs
theorem mapSeq_set (its : List Value) (n j : Nat) (u : Value) : Obj.mapSeq (·.setIfInBounds j u) { cls := .type "list",data := .seq its.toArray n } = { cls := .type "list",data := .seq (its.set j u).toArray n } := by
 simp [Obj.mapSeq]
theorem Inv.lst {pins : List (Addr × Obj)} {σ : St} {H : Hp} {s : Shared} {p : Addr} {xs : List V} (I : Inv X pins σ H s) (h : H p = some (.lst xs)) :
  ∃ (its : List Value) (n : Nat),Vals xs its ∧ s.heap.get? p = some { cls := .type "list",data := .seq its.toArray n } ∧ xs.length ≤ sizeLine := by
 obtain ⟨z,its,n,r,e⟩ := I.hok p _ h
 exact ⟨its,n,r,e,z⟩
theorem Inv.lstUpd {pins : List (Addr × Obj)} {σ : St} {H : Hp} {s : Shared} {p : Addr} {xs ys : List V} {its its' : List Value} {n n' : Nat} {f : Obj → Obj} (I : Inv X pins σ H s) (h : H p = some (.lst xs))
  (ho : s.heap.get? p = some { cls := .type "list",data := .seq its.toArray n }) (hf : f { cls := .type "list",data := .seq its.toArray n } = { cls := .type "list",data := .seq its'.toArray n' }) (r : Vals ys its') (hz : ys.length ≤ sizeLine) (t : Nat) :
  Inv X pins σ (upd H p (.lst ys)) { s with heap := s.heap.update p f,toks := t } := by
 have e : (s.heap.update p f).get? p = some { cls := .type "list",data := .seq its'.toArray n' } := by
  rw [Heap.get?_update_self f ho (by rw [hf] <;> rfl),hf]
 refine I.write (x := p) (e := p) (by rw [h]; trivial) (.inl rfl) (fun b u hb q => (Heap.get?_update_other _ _ (Ne.symm hb)).trans q) ⟨_,e⟩ ?_
 exact ⟨hz,its',n',r,e⟩
def rSetL : V → V → V → Hp → (Hp → Prop) → Prop := fun o i v H Q => ∃ p xs k j,o = .ref p ∧ i = .int k ∧ H p = some (.lst xs) ∧ ixN xs.length k = some j ∧ Q (upd H p (.lst (xs.set j v)))
theorem set_list : PSet X rSetL := by
 intro pins s σ H o i v ov iv u Q I ro ri rv h
 obtain ⟨p,xs,k,j,rfl,rfl,hp,hj,q⟩ := h
 cases ro
 obtain ⟨t,rfl⟩ := ri
 obtain ⟨its,n,r,ho,hz⟩ := I.lst hp
 obtain ⟨h1,h2,h3,h4⟩ := ixN_seq hj
 have hl := r.length
 have hn := line63
 have I' : Inv X pins σ (upd H p (.lst (xs.set j v))) { s with heap := s.heap.update p (Obj.mapSeq (·.setIfInBounds j u)) } :=
  I.lstUpd hp ho (mapSeq_set its n j u) (r.set rv j) (by rw [List.length_set]; exact hz) s.toks
 by_cases h0 : 0 ≤ k
 ·have hk : k.toNat = j := by
   rw [seqIndex_of h0 h4] at h1
   exact Option.some.inj h1
  exact PySem.W.ki_setAt ho h0 (by omega) (by rw [List.size_toArray,← hl]; exact h4) (by rw [hk]; exact ⟨_,I',q⟩)
 ·have hk : (k + (its.toArray.size : Int)).toNat = j := by
   rw [seqIndex_neg (by omega) h3] at h1
   rw [List.size_toArray,← hl]
   exact Option.some.inj h1
  exact PySem.W.ki_setBack ho (by omega) (by rw [List.size_toArray,← hl]; exact h3) (by omega) (by rw [hk]; exact ⟨_,I',q⟩)
theorem slice_bounds (lo hi : Option Int) (n : Nat) : (sliceBounds lo hi none n).1 = ((HT.sIx n 0 lo : Nat) : Int) ∧ (sliceBounds lo hi none n).2.1 = ((HT.sIx n n hi : Nat) : Int) ∧ (sliceBounds lo hi none n).2.2 = 1 := by
 refine ⟨?_,?_,rfl⟩
 ·cases lo with
  | none => simp [sliceBounds,HT.sIx]
  | some i =>
   simp only [sliceBounds,HT.sIx,Option.getD_none,show (1 : Int) > 0 by decide,if_true]
   by_cases h : i < 0
   ·simp only [h,if_true] <;> omega
   ·simp only [h,if_false] <;> omega
 ·cases hi with
  | none => simp [sliceBounds,HT.sIx]
  | some i =>
   simp only [sliceBounds,HT.sIx,Option.getD_none,show (1 : Int) > 0 by decide,if_true]
   by_cases h : i < 0
   ·simp only [h,if_true] <;> omega
   ·simp only [h,if_false] <;> omega
theorem slicePick_cut (its : List Value) (lo hi : Option Int) : slicePick its.toArray lo hi none = ((its.drop (HT.sIx its.length 0 lo)).take (HT.sIx its.length its.length hi - HT.sIx its.length 0 lo)).toArray := by
 obtain ⟨h1,h2,h3⟩ := slice_bounds lo hi its.toArray.size
 unfold slicePick
 rw [h1,h2,h3]
 simp only [sliceRange_one,pick_run,List.size_toArray] <;> rfl
def rSlL (K : PySem.W.Frag) : V → Option Int → Option Int → Hp → VK → Prop := fun x lo hi H Q => ∃ a xs,x = .ref a ∧ SqL K H a xs ∧ ∀ p,H p = none → Q (.ref p) (upd H p (.lst (cutV xs lo hi)))
theorem sl_list : SlR X (rSlL X.K) := by
 intro pins s σ H x v vl vu lo hi sl Q I rx hs pl pu h
 obtain ⟨a,xs,rfl,hx,q⟩ := h
 cases rx
 obtain ⟨its,r,ht,hz⟩ := I.list hx
 have hlen := r.length
 refine ⟨"list",_,slot_list_getitem.lookup,ht.isList.typeIs,?_⟩
 refine wpAny_getItem_list_slice ht.isList hs pl pu .none (by simp) ?_ (by rw [List.size_toArray] <;> omega)
 rw [slicePick_cut,← hlen]
 refine ⟨.ref s.heap.objs.size,_,I.laid (t' := s.toks) (o := .lst (cutV xs lo hi)) (fun b ob q => Heap.get?_push_of_some _ q) (Nat.le_refl _) ?_,rfl,q _ (I.hok.fresh (Nat.le_refl _))⟩
 exact ⟨Nat.le_trans (cutV_length xs lo hi) hz,_,0,(r.drop (HT.sIx xs.length 0 lo)).take (HT.sIx xs.length xs.length hi - HT.sIx xs.length 0 lo),Heap.get?_push_size _ rfl⟩
def flatV : V → Bool
 | .non => true
 | .bl _ => true
 | .int _ => true
 | .str _ => true
 | _ => false
def eqV : V → V → Bool
 | .non,.non => true
 | .bl a,.bl b => a == b
 | .bl a,.int b => (if a then 1 else 0) == b
 | .int a,.bl b => a == (if b then 1 else 0)
 | .int a,.int b => a == b
 | .str a,.str b => a == b
 | _,_ => false
theorem eqAt_V {A : Around} {s : Shared} {y x : V} {u v : Value} (ry : RelV y u) (rx : RelV x v) (fy : flatV y = true) (fx : flatV x = true) : SeqAt.EqAt A s u v (eqV y x) := by
 cases y with
 | non =>
  cases ry
  cases x with
  | non => cases rx; exact SeqAt.EqAt.same _
  | bl b => cases rx; exact SeqAt.EqAt.none_bool b
  | int b => obtain ⟨t,rfl⟩ := rx; exact SeqAt.EqAt.none_int b t
  | str b => obtain ⟨t,rfl⟩ := rx; exact SeqAt.EqAt.none_str b t
  | _ => exact absurd (show false = true from fx) Bool.false_ne_true
 | bl a =>
  cases ry
  cases x with
  | non => cases rx; exact SeqAt.EqAt.bool_none a
  | bl b => cases rx; exact SeqAt.EqAt.bool_bool a b
  | int b => obtain ⟨t,rfl⟩ := rx; exact SeqAt.EqAt.bool_int a b t
  | str b => obtain ⟨t,rfl⟩ := rx; exact SeqAt.EqAt.bool_str a b t
  | _ => exact absurd (show false = true from fx) Bool.false_ne_true
 | int a =>
  obtain ⟨t',rfl⟩ := ry
  cases x with
  | non => cases rx; exact SeqAt.EqAt.int_none a t'
  | bl b => cases rx; exact SeqAt.EqAt.int_bool a t' b
  | int b => obtain ⟨t,rfl⟩ := rx; exact SeqAt.EqAt.int_int a t' b t
  | str b => obtain ⟨t,rfl⟩ := rx; exact SeqAt.EqAt.int_str a t' b t
  | _ => exact absurd (show false = true from fx) Bool.false_ne_true
 | str a =>
  obtain ⟨t',rfl⟩ := ry
  cases x with
  | non => cases rx; exact SeqAt.EqAt.str_none a t'
  | bl b => cases rx; exact SeqAt.EqAt.str_bool a t' b
  | int b => obtain ⟨t,rfl⟩ := rx; exact SeqAt.EqAt.str_int a t' b t
  | str b => obtain ⟨t,rfl⟩ := rx; exact SeqAt.EqAt.str_str a t' b t
  | _ => exact absurd (show false = true from fx) Bool.false_ne_true
 | _ => exact absurd (show false = true from fy) Bool.false_ne_true
def eqU (x : V) (u : Value) : Bool := match u with
 | .none => eqV .non x
 | .bool b => eqV (.bl b) x
 | .int i _ => eqV (.int i) x
 | .str z _ => eqV (.str z) x
 | _ => false
theorem eqU_of {x y : V} {u : Value} (r : RelV y u) (f : flatV y = true) : eqU x u = eqV y x := by
 cases y with
 | non => cases r; rfl
 | bl b => cases r; rfl
 | int i => obtain ⟨t,rfl⟩ := r; rfl
 | str z => obtain ⟨t,rfl⟩ := r; rfl
 | _ => exact absurd (show false = true from f) Bool.false_ne_true
theorem any_eqU {x : V} : ∀ {xs : List V} {us : List Value},Vals xs us → xs.all flatV = true → us.any (eqU x) = xs.any fun y => eqV y x
 | _,_,.nil,_ => rfl
 | y :: xs,u :: us,.cons r t,f => by
  rw [List.all_cons,Bool.and_eq_true] at f
  rw [List.any_cons,List.any_cons,eqU_of r f.1,any_eqU t f.2]
theorem mem_eqAt {A : Around} {s : Shared} {x : V} {v : Value} (rx : RelV x v) (fx : flatV x = true) : ∀ {xs : List V} {us : List Value},Vals xs us → xs.all flatV = true → ∀ u ∈ us,SeqAt.EqAt A s u v (eqU x u)
 | _,_,.nil,_ => fun u hu => by cases hu
 | y :: xs,u :: us,.cons r t,f => fun u' hu => by
  rw [List.all_cons,Bool.and_eq_true] at f
  rcases List.mem_cons.mp hu with rfl | hu
  ·rw [eqU_of r f.1]; exact eqAt_V r rx f.1 fx
  ·exact mem_eqAt rx fx t f.2 u' hu
def inV (x : V) (xs : List V) : Bool := xs.any fun y => eqV y x
def rIn (K : PySem.W.Frag) (neg : Bool) : R2 := fun x y H Q => ∃ p xs,y = .ref p ∧ (SqL K H p xs ∨ SqT K H p xs) ∧ flatV x = true ∧ xs.all flatV = true ∧ Q (.bl (if neg then !inV x xs else inV x xs)) H
theorem op_in_seq : OpR X (compareOp .In) (rIn X.K false) := by
 intro pins s σ H x y v u Q I rx ry h
 obtain ⟨p,xs,rfl,hq,fx,fs,q⟩ := h
 cases ry
 rcases hq with hq | hq
 ·obtain ⟨its,r,pl,hz⟩ := I.list hq
  refine SeqAt.in_listAt (eqU x) pl.isList (fun w hw => mem_eqAt rx fx r fs w (by simpa using hw)) ⟨.bl _,H,I,rfl,?_⟩
  rw [show its.toArray.any (eqU x) = its.any (eqU x) by simp,any_eqU r fs]
  exact q
 ·obtain ⟨its,r,pl,hz⟩ := I.tuple hq
  refine SeqAt.in_tupleAt (eqU x) pl (fun w hw => mem_eqAt rx fx r fs w (by simpa using hw)) ⟨.bl _,H,I,rfl,?_⟩
  rw [show its.toArray.any (eqU x) = its.any (eqU x) by simp,any_eqU r fs]
  exact q
theorem op_notIn_seq : OpR X (compareOp .NotIn) (rIn X.K true) := by
 intro pins s σ H x y v u Q I rx ry h
 obtain ⟨p,xs,rfl,hq,fx,fs,q⟩ := h
 cases ry
 rcases hq with hq | hq
 ·obtain ⟨its,r,pl,hz⟩ := I.list hq
  refine SeqAt.notIn_listAt (eqU x) pl.isList (fun w hw => mem_eqAt rx fx r fs w (by simpa using hw)) ⟨.bl _,H,I,rfl,?_⟩
  rw [show its.toArray.any (eqU x) = its.any (eqU x) by simp,any_eqU r fs]
  exact q
 ·obtain ⟨its,r,pl,hz⟩ := I.tuple hq
  refine SeqAt.notIn_tupleAt (eqU x) pl (fun w hw => mem_eqAt rx fx r fs w (by simpa using hw)) ⟨.bl _,H,I,rfl,?_⟩
  rw [show its.toArray.any (eqU x) = its.any (eqU x) by simp,any_eqU r fs]
  exact q
theorem call_len_seq : CallR X (.builtin "len") (fun xs H Q => ∃ p ys,xs = [.ref p] ∧ (SqL X.K H p ys ∨ SqT X.K H p ys) ∧ Q (.int ys.length) H) := by
 intro pins s σ H xs us Q I r h
 obtain ⟨p,ys,rfl,hq,q⟩ := h
 obtain ⟨u,rfl,rx⟩ := vals1 r
 cases rx
 have hn := line63
 rcases hq with hq | hq
 ·obtain ⟨its,r',pl,hz⟩ := I.list hq
  have hlen := r'.length
  exact Calls.call_len_list pl.isList (by simp only [List.size_toArray] <;> omega) ⟨.int ys.length,H,I.tok _,⟨s.toks + 1,by rw [List.size_toArray,hlen]⟩,q⟩
 ·obtain ⟨its,r',pl,hz⟩ := I.tuple hq
  have hlen := r'.length
  exact len_tuple pl (by simp only [List.size_toArray] <;> omega) ⟨.int ys.length,H,I.tok _,⟨s.toks + 1,by rw [List.size_toArray,hlen]⟩,q⟩
def tyV (K : PySem.W.Frag) (T : String) (x : V) (H : Hp) : Prop := match x with
 | .str _ => T = "str"
 | .int _ => T = "int"
 | .ref p => (T = "list" ∧ ∃ xs,SqL K H p xs) ∨ (T = "tuple" ∧ ∃ o,K.lookup p = some o ∧ o.cls = .type "tuple" ∧ o.dict = none) ∨
   (T = "dict" ∧ ((∃ kvs,H p = some (.dK kvs)) ∨ ∃ kvs,H p = some (.dT kvs))) ∨ (T = "set" ∧ ∃ S n,H p = some (.set S n))
 | _ => False
theorem tyV_is {pins : List (Addr × Obj)} {σ : St} {H : Hp} {s : Shared} {T : String} {x : V} {v : Value} (I : Inv X pins σ H s) (r : RelV x v) (ty : tyV X.K T x H) :
  s.TypeIs v T ∧ ∀ a,v = .ref a → ∃ ob,s.heap.get? a = some ob ∧ ob.dict = none := by
 cases x with
 | str z =>
  obtain ⟨t,rfl⟩ := r
  cases (show T = "str" from ty)
  exact ⟨typeIs_str s z t,fun _ e => nomatch e⟩
 | int i =>
  obtain ⟨t,rfl⟩ := r
  cases (show T = "int" from ty)
  exact ⟨typeIs_int s i t,fun _ e => nomatch e⟩
 | ref p =>
  cases r
  rcases ty with ⟨rfl,xs,hq⟩ | ⟨rfl,o,hk,hc,hd⟩ | ⟨rfl,hk⟩ | ⟨rfl,S,n,hk⟩
  ·obtain ⟨its,_,pl,_⟩ := I.list hq
   refine ⟨pl.isList.typeIs,fun a e => ?_⟩
   cases e
   obtain ⟨o,n,e,c,hd,_⟩ := pl
   exact ⟨o,e,hd⟩
  ·refine ⟨⟨o,I.kIn p o hk,hc⟩,fun a e => ?_⟩
   cases e
   exact ⟨o,I.kIn _ o hk,hd⟩
  ·have z : ∃ o,s.heap.get? p = some o ∧ o.ExactDict := by
    rcases hk with ⟨kvs,hk⟩ | ⟨kvs,hk⟩
    ·obtain ⟨_,_,_,_,o,_,_,e,ex,_⟩ := I.hok p _ hk
     exact ⟨o,e,ex⟩
    ·obtain ⟨_,_,_,_,o,_,_,e,ex,_⟩ := I.hok p _ hk
     exact ⟨o,e,ex⟩
   obtain ⟨o,e,ex⟩ := z
   refine ⟨⟨o,e,ex.1⟩,fun a e2 => ?_⟩
   cases e2
   exact ⟨o,e,ex.2.1⟩
  ·obtain ⟨o,_,_,_,e,ex,_⟩ := I.hok p _ hk
   refine ⟨⟨o,e,ex.1⟩,fun a e2 => ?_⟩
   cases e2
   exact ⟨o,e,ex.2.1⟩
 | _ => exact False.elim ty
def tBM0 (K : PySem.W.Frag) (T : String) (r : V → List V → Hp → VK → Prop) (to : TE) : TE := fun σ H Q => to σ H fun x H1 => tyV K T x H1 ∧ r x [] H1 Q
def tBM (K : PySem.W.Frag) (T : String) (r : V → List V → Hp → VK → Prop) (to : TE) (t : TA) : TE := fun σ H Q => to σ H fun x H1 => tyV K T x H1 ∧ t σ H1 fun xs H2 => r x xs H2 Q
variable {o e : Expr} {es : List Expr} {to : TE} {t : TA} {name : Str} {apos cpos : Pos} {T id : String} {r : V → List V → Hp → VK → Prop}
theorem pe_bm0 (pa : PlainAttrs T) (slot : Slot T name id) (hty : typeOf (.builtin id) = pure (.type "method_descriptor")) (hm : MtR X id r) (ho : PE X o to)
  (hbase : attributeBase o name X.env (eval o X.env) = eval o X.env := by rfl) (hline : (apos.endLine == cpos.line) = true := by rfl) : PE X (.Call (.Attribute o name apos) [] [] cpos) (tBM0 X.K T r to) := by
 intro pins s σ H Q I h
 refine wpAny_Call_method0_late hbase hline (thn (ho pins s σ H _ I h) fun v s1 ⟨x,H1,I1,r1,ty,q1⟩ => ?_)
 obtain ⟨h1,h2⟩ := tyV_is I1 r1 ty
 exact ⟨T,id,pa,slot,hty,h1,h2,Calls.callWith_builtin rfl (PySem.evalArgs_none (hm pins s1 σ H1 x [] v [] Q I1 r1 .nil q1))⟩
theorem pe_bm (pa : PlainAttrs T) (slot : Slot T name id) (hty : typeOf (.builtin id) = pure (.type "method_descriptor")) (hm : MtR X id r) (ho : PE X o to) (ha : PA X (e :: es) t)
  (hbase : attributeBase o name X.env (eval o X.env) = eval o X.env := by rfl)
  (hfew : ((backTo cpos (starEach (e :: es) X.env)).all (fun x => !x.1) && (backToKw cpos (keywordEach [] X.env)).all (fun x => x.1.isSome)
   && decide ((e :: es).length + ([] : List Keyword).length + (if ([] : List Keyword).isEmpty then 0 else 1) < 30)) = true := by rfl)
  (hline : (apos.endLine == cpos.line) = true := by rfl) (hs : starEach (e :: es) X.env = (false,eval e X.env) :: starEach es X.env := by rfl) (hplain : (backTo cpos (starEach es X.env)).any (·.1) = false := by rfl) :
  PE X (.Call (.Attribute o name apos) (e :: es) [] cpos) (tBM X.K T r to t) := by
 intro pins s σ H Q I h
 refine wpAny_Call_method_late hbase hfew hline rfl (thn (ho pins s σ H _ I h) fun v s1 ⟨x,H1,I1,r1,ty,q1⟩ => ?_)
 obtain ⟨h1,h2⟩ := tyV_is I1 r1 ty
 refine ⟨T,id,pa,slot,hty,h1,h2,?_⟩
 have hA := ha cpos pins s1 σ H1 _ I1 q1
 rw [hs] at hA ⊢
 refine Calls.callWith_builtin (by show (false || (backTo cpos (starEach es X.env)).any (·.1)) = false; rw [hplain] <;> rfl) (Calls.evalArgs_plain ?_)
 exact thn hA fun us s2 ⟨vs,H2,I2,r2,q2⟩ => hm pins s2 σ H2 x vs v us Q I2 r1 r2 q2
end
end L2
namespace L2
open PySem PySem.Spec PyProof.Rows
def MtM (X : Cx) (id : String) (r : V → List V → Hp → VK → Prop) : Prop :=
 ∀ (pins : List (Addr × Obj)) (s : Shared) (σ : St) (H : Hp) (x : V) (xs : List V) (v : Value) (us : List Value) (Q : VK),Inv X pins σ H s → RelV x v → Vals xs us → r x xs H Q →
  wpAny (model X.prog X.w) X.A (call (.builtin id) (v :: us)) (EP X pins σ Q) X.xe s
theorem Vals.one : ∀ {x : V} {us : List Value},Vals [x] us → ∃ u,us = [u] ∧ RelV x u
 | _,_,.cons r .nil => ⟨_,rfl,r⟩
theorem Vals.zero : ∀ {us : List Value},Vals [] us → us = []
 | _,.nil => rfl
theorem Vals.rep {xs : List V} {us : List Value} (h : Vals xs us) : ∀ k : Nat,Vals (List.replicate k xs).flatten (List.replicate k us).flatten
 | 0 => .nil
 | k + 1 => by
  rw [List.replicate_succ,List.replicate_succ,List.flatten_cons,List.flatten_cons]
  exact Vals.append h (Vals.rep h k)
theorem foldl_rep (its : List Value) : ∀ (k : Nat) (acc : List Value),
  List.foldl (fun x1 x2 => x1 ++ x2) acc.toArray (List.replicate k its.toArray) = (acc ++ (List.replicate k its).flatten).toArray
 | 0,acc => by simp
 | k + 1,acc => by
  have e : acc.toArray ++ its.toArray = (acc ++ its).toArray := by simp
  have e2 : (acc ++ its) ++ (List.replicate k its).flatten = acc ++ (List.replicate (k + 1) its).flatten := by
   rw [List.replicate_succ,List.flatten_cons,List.append_assoc]
  rw [← e2,← foldl_rep its k (acc ++ its),← e,List.replicate_succ,List.foldl_cons]
section
variable {X : Cx} {pins : List (Addr × Obj)} {σ : St} {H : Hp} {s : Shared} {l b : Addr} {xs ys zs : List V}
theorem Inv.lset {its its' : List Value} {n : Nat} {f : Array Value → Array Value} {t' : Nat} (I : Inv X pins σ H s) (hH : H l = some (.lst xs))
  (e : s.heap.get? l = some { cls := .type "list",data := .seq its.toArray n }) (hf : f its.toArray = its'.toArray) (hv : Vals ys its') (hz : ys.length ≤ sizeLine) :
  Inv X pins σ (upd H l (.lst ys)) { s with heap := s.heap.update l (Obj.mapSeq f),toks := t' } := by
 have q := PySem.IsL.update e f
 rw [hf] at q
 refine I.write (x := l) (e := l) (by rw [hH]; exact trivial) (.inl rfl) (fun b' u hb hu => (Heap.get?_update_other s.heap (Obj.mapSeq f) (Ne.symm hb)).trans hu) ⟨_,q⟩ ?_
 exact ⟨hz,its',_,hv,q⟩
theorem Inv.lnew {its : List Value} {t' : Nat} (I : Inv X pins σ H s) (hv : Vals ys its) (hz : ys.length ≤ sizeLine) :
  Inv X pins σ (upd H s.heap.objs.size (.lst ys)) { s with heap := s.heap.push { cls := .type "list",data := .seq its.toArray },toks := t' } :=
 I.laid (fun _ _ q => Heap.get?_push_of_some _ q) (Nat.le_refl _) ⟨hz,its,0,hv,Heap.get?_push_size _ rfl⟩
theorem Inv.fresh (I : Inv X pins σ H s) : H s.heap.objs.size = none := I.hok.fresh (Nat.le_refl _)
theorem Inv.lstM (I : Inv X pins σ H s) (hH : H l = some (.lst xs)) : xs.length ≤ sizeLine ∧ ∃ (its : List Value) (n : Nat),Vals xs its ∧ xs.length = its.length ∧ s.heap.get? l = some { cls := .type "list",data := .seq its.toArray n } := by
 obtain ⟨z,its,n,r,e⟩ := I.hok l _ hH
 exact ⟨z,its,n,r,r.length,e⟩
theorem notLongL {n : Nat} (h : n ≤ sizeLine) : Builtin.List.listTooLong n = false := by
 unfold Builtin.List.listTooLong
 exact decide_eq_false (by omega)
end
section
variable {X : Cx}
def rAppend : V → List V → Hp → VK → Prop := fun x vs H Q => ∃ l xs y,x = .ref l ∧ vs = [y] ∧ H l = some (.lst xs) ∧ xs.length < sizeLine ∧ Q .non (upd H l (.lst (xs ++ [y])))
theorem mt_append : MtM X "list.append" rAppend := by
 intro pins s σ H x vs v us Q I rx rv h
 obtain ⟨l,xs,y,rfl,rfl,hH,hz,q⟩ := h
 cases rx
 obtain ⟨u,rfl,ru⟩ := rv.one
 obtain ⟨z,its,n,r,hl,e⟩ := I.lstM hH
 refine call_meets F.slot_list_append ⟨_,e,rfl⟩ F.entry_list_append (F.args_list_append_2 _ _) (PySem.list_append l its.toArray n u (by rw [List.size_toArray]; omega)) ⟨e,?_⟩
 refine ⟨.non,_,I.lset (its' := its ++ [u]) hH e (by simp) (r.append (.cons ru .nil)) ?_,rfl,q⟩
 rw [List.length_append,List.length_singleton]
 omega
def rExtend : V → List V → Hp → VK → Prop := fun x vs H Q => ∃ l b xs zs,x = .ref l ∧ vs = [.ref b] ∧ H l = some (.lst xs) ∧ H b = some (.lst zs) ∧ xs.length + zs.length ≤ sizeLine ∧ Q .non (upd H l (.lst (xs ++ zs)))
theorem mt_extend : MtM X "list.extend" rExtend := by
 intro pins s σ H x vs v us Q I rx rv h
 obtain ⟨l,b,xs,zs,rfl,rfl,hH,hB,hz,q⟩ := h
 cases rx
 obtain ⟨u,rfl,ru⟩ := rv.one
 cases ru
 obtain ⟨z,its,n,r,hl,e⟩ := I.lstM hH
 obtain ⟨z2,its2,n2,r2,hl2,e2⟩ := I.lstM hB
 have hsz : its.toArray.size + its2.toArray.size ≤ sizeLine := by rw [List.size_toArray,List.size_toArray]; omega
 have hlong : ¬ (!its.toArray.isEmpty && Builtin.List.listTooLong (its.toArray.size + its2.toArray.size)) = true := by
  rw [notLongL hsz,Bool.and_false]
  exact Bool.false_ne_true
 refine call_meets F.slot_list_extend ⟨_,e,rfl⟩ F.entry_list_extend (F.args_list_extend_2 _ _)
  (AutoSeq1.list_extend_list_list_0 l its.toArray n b its2.toArray n2 hlong (by rw [List.size_toArray]; omega) (by omega)) ⟨e,e2,?_⟩
 refine ⟨.non,_,I.lset (its' := its ++ its2) hH e (by simp) (r.append r2) ?_,rfl,q⟩
 rw [List.length_append]
 omega
def rCat : R2 := fun x y H Q => ∃ l b xs zs,x = .ref l ∧ y = .ref b ∧ H l = some (.lst xs) ∧ H b = some (.lst zs) ∧ xs.length + zs.length ≤ sizeLine ∧ ∀ p,H p = none → Q (.ref p) (upd H p (.lst (xs ++ zs)))
theorem op_cat : OpR X (binaryOp .Add) rCat := by
 intro pins s σ H x y v u Q I rx ry h
 obtain ⟨l,b,xs,zs,rfl,rfl,hH,hB,hz,q⟩ := h
 cases rx
 cases ry
 obtain ⟨z,its,n,r,hl,e⟩ := I.lstM hH
 obtain ⟨z2,its2,n2,r2,hl2,e2⟩ := I.lstM hB
 refine PySem.P.add_list e e2 ?_ (by rw [List.size_toArray,List.size_toArray]; omega)
 have ea : its.toArray ++ its2.toArray = (its ++ its2).toArray := by simp
 rw [ea]
 exact ⟨.ref _,_,I.lnew (t' := s.toks) (r.append r2) (by rw [List.length_append]; omega),rfl,q _ I.fresh⟩
def rRep : R2 := fun x y H Q => ∃ l k xs,x = .ref l ∧ y = .int k ∧ H l = some (.lst xs) ∧ -(2 ^ 63) ≤ k ∧ k < 2 ^ 63 ∧ xs.length * k.toNat ≤ sizeLine ∧
 ∀ p,H p = none → Q (.ref p) (upd H p (.lst (List.replicate k.toNat xs).flatten))
theorem len_rep {α : Type} (xs : List α) (k : Nat) : (List.replicate k xs).flatten.length = k * xs.length := by
 induction k with
 | zero => simp
 | succ k ih => rw [List.replicate_succ,List.flatten_cons,List.length_append,ih,Nat.succ_mul,Nat.add_comm]
theorem op_rep : OpR X (binaryOp .Mult) rRep := by
 intro pins s σ H x y v u Q I rx ry h
 obtain ⟨l,k,xs,rfl,rfl,hH,h1,h2,hz,q⟩ := h
 cases rx
 obtain ⟨t,rfl⟩ := ry
 obtain ⟨z,its,n,r,hl,e⟩ := I.lstM hH
 have hlen : its.toArray.size * k.toNat ≤ sizeLine := by rw [List.size_toArray,← hl]; exact hz
 have hcap : ¬ its.toArray.size * k.toNat > (2 ^ 63 - 1) / 8 := by
  have : (sizeLine : Nat) ≤ (2 ^ 63 - 1) / 8 := by decide
  omega
 have hfit : ¬ (!Builtin.List.listFitsIndex k) = true := by
  rw [fitsIndex_both h1 h2]
  exact Bool.false_ne_true
 have hlong : ¬ Builtin.List.listTooLong (its.toArray.size * k.toNat) = true := by
  rw [notLongL hlen]
  exact Bool.false_ne_true
 have hnew : List.foldl (fun x1 x2 => x1 ++ x2) #[] (List.replicate (if its.toArray.isEmpty = true then 0 else k.toNat) its.toArray) = (List.replicate k.toNat its).flatten.toArray := by
  have f0 : ∀ m : Nat,List.foldl (fun x1 x2 => x1 ++ x2) #[] (List.replicate m its.toArray) = (List.replicate m its).flatten.toArray := fun m => by
   have := foldl_rep its m []
   rw [List.nil_append] at this
   exact this
  rw [f0]
  cases its with
  | nil => simp
  | cons a r' => rw [if_neg (by simp)]
 refine wpAny_binaryOp_repeat_ref (T := "list") (U := "int") (by decide) ⟨_,e,rfl⟩ (fun s' => typeIs_int s' k t) noFill_list_mul F.fills_int_mul F.slot_int_rmul repeat_list F.slot_int_index.lookup
  (call_meets F.slot_int_rmul (typeIs_int s k t) F.entry_int_rmul (F.args_int_rmul_2 _ _) (int___rmul___int_list k t l its.toArray n)
   ⟨e,rfl,⟨_,e,rfl⟩,call_meets F.slot_list_mul ⟨_,e,rfl⟩ F.entry_list_mul (F.args_list_mul_2 _ _) (AutoListH.list___mul___list_int_3 l its.toArray n k t hfit hcap hlong) ⟨e,?_⟩⟩)
 rw [hnew]
 exact ⟨.ref _,_,I.lnew (t' := s.toks) (r.rep k.toNat) (by rw [len_rep,Nat.mul_comm]; exact hz),rfl,q _ I.fresh⟩
end
section
variable {prog : Program} {w : World} {A : Around} {E : Value → Shared → Prop} {s : Shared}
end
section
variable {X : Cx}
end
end L2
namespace L2
open PySem PySem.Spec PyProof.Rows
theorem Vals.bls : ∀ {bs : List Bool} {us : List Value},Vals (bs.map V.bl) us → us = bs.map Value.bool
 | [],us,h => by
  rw [List.map_nil] at h
  cases h
  rfl
 | b :: bs,us,h => by
  rw [List.map_cons] at h
  cases h with
  | cons r t =>
   cases r
   rw [Vals.bls t,List.map_cons]
theorem Vals.ref1 {a : Addr} {us : List Value} (r : Vals [V.ref a] us) : us = [Value.ref a] := by
 cases r with
 | cons r t =>
  cases t
  cases r
  rfl
section
variable {prog : Program} {w : World} {A : Around} {E : Value → Shared → Prop} {s : Shared} {l : Addr} {its : List Value} {ns : List Int} {Q : Value → Shared → Prop}
end
section
variable {X : Cx}
end
section
variable {X : Cx}
end
section
variable {X : Cx}
end
theorem iter_any {prog : Program} {w : World} {A : Around} {E : Value → Shared → Prop} {s : Shared} {l : Addr} {items : Array Value} {Q : Value → Shared → Prop} (hl : s.heap.IsList l items)
  (h : ∀ s₂ : Shared,s₂ = { s with heap := s.heap.push { cls := .type "list_iterator",data := .fields #[.ref l,.int 0 0] } } →
   (s₂.heap.IsListIter s.heap.objs.size l 0 ∧ s₂.heap.IsList l items) → l ≠ s.heap.objs.size → Q (.ref s.heap.objs.size) s₂) : wpAny (model prog w) A (pyIter (.ref l)) Q E s := by
 have hlt : l < s.heap.objs.size := by obtain ⟨_,e,_⟩ := hl; exact Heap.lt_size e
 exact wpAny_pyIter_list hl (h _ rfl ⟨⟨_,Heap.get?_push_size _ rfl,rfl,rfl⟩,hl.push _⟩ (Nat.ne_of_lt hlt))
theorem truth_bools {prog : Program} {w : World} {A : Around} {bs : List Bool} {its : List Value} (e : its = bs.map Value.bool) :
  TruthOf prog w A (fun i v => its.toArray[i]? = some v) (fun i => bs.getD i false) := fun i v s Q E hv hq => by
 have hv' : its[i]? = some v := by simpa using hv
 rw [e,List.getElem?_map] at hv'
 obtain ⟨b,hb,rfl⟩ := Option.map_eq_some_iff.mp hv'
 have hg : bs.getD i false = b := by rw [List.getD_eq_getElem?_getD,hb] <;> rfl
 have hq' : Q (bs.getD i false) s := hq
 rw [hg] at hq'
 exact wpAny_truthy_bool hq'
theorem any_range : ∀ bs : List Bool,(List.range bs.length).any (fun i => bs.getD i false) = bs.any id
 | [] => rfl
 | b :: bs => by
  rw [List.length_cons,List.range_succ_eq_map,List.any_cons,List.any_map,List.any_cons,← any_range bs]
  all_goals rfl
theorem all_range : ∀ bs : List Bool,(List.range bs.length).all (fun i => bs.getD i false) = bs.all id
 | [] => rfl
 | b :: bs => by
  rw [List.length_cons,List.range_succ_eq_map,List.all_cons,List.all_map,List.all_cons,← all_range bs]
  all_goals rfl
section
variable {X : Cx}
def rAny (K : PySem.W.Frag) : List V → Hp → VK → Prop := fun vs H Q => ∃ (a : Addr) (bs : List Bool),vs = [V.ref a] ∧ SqL K H a (bs.map V.bl) ∧ Q (.bl (bs.any id)) H
def rAll (K : PySem.W.Frag) : List V → Hp → VK → Prop := fun vs H Q => ∃ (a : Addr) (bs : List Bool),vs = [V.ref a] ∧ SqL K H a (bs.map V.bl) ∧ Q (.bl (bs.all id)) H
theorem cr_any (hc : X.calm = true) : CallR X (.builtin "any") (rAny X.K) := by
 intro pins s σ H vs us Q I r h
 obtain ⟨a,bs,rfl,hs,q⟩ := h
 obtain ⟨its,rv,hl,_⟩ := I.list hs
 rw [Vals.ref1 r]
 have hb := rv.bls
 refine call_any_walk (iter_any hl.isList fun s₂ e2 st hne => ?_)
 subst e2
 refine ⟨_,_,_,_,_,_,_,rfl,Walks.list (A := X.A.in1) (I.ok.hd hc) _ a hne its.toArray,st,truth_bools hb,fun h' tk hk => ?_⟩
 refine ⟨.bl _,H,I.kept fun b o eo => hk b o (fun hmem => ?_) (Heap.get?_push_of_some _ eo),?_,q⟩
 ·rcases List.mem_cons.mp hmem with e1 | hmem
  ·exact absurd (e1 ▸ Heap.lt_size eo) (Nat.lt_irrefl _)
  ·cases hmem
 ·show Value.bool _ = Value.bool _
  rw [← any_range,hb,List.size_toArray,List.length_map]
theorem cr_all (hc : X.calm = true) : CallR X (.builtin "all") (rAll X.K) := by
 intro pins s σ H vs us Q I r h
 obtain ⟨a,bs,rfl,hs,q⟩ := h
 obtain ⟨its,rv,hl,_⟩ := I.list hs
 rw [Vals.ref1 r]
 have hb := rv.bls
 refine call_all_walk (iter_any hl.isList fun s₂ e2 st hne => ?_)
 subst e2
 refine ⟨_,_,_,_,_,_,_,rfl,Walks.list (A := X.A.in1) (I.ok.hd hc) _ a hne its.toArray,st,truth_bools hb,fun h' tk hk => ?_⟩
 refine ⟨.bl _,H,I.kept fun b o eo => hk b o (fun hmem => ?_) (Heap.get?_push_of_some _ eo),?_,q⟩
 ·rcases List.mem_cons.mp hmem with e1 | hmem
  ·exact absurd (e1 ▸ Heap.lt_size eo) (Nat.lt_irrefl _)
  ·cases hmem
 ·show Value.bool _ = Value.bool _
  rw [← all_range,hb,List.size_toArray,List.length_map]
end
mutual
inductive Dp (K : PySem.W.Frag) (H : Hp) : V → PyData → Prop
 | non : Dp K H .non .none
 | bl (b : Bool) : Dp K H (.bl b) (.bool b)
 | int (i : Int) : Dp K H (.int i) (.int i)
 | str (x : Str) : Dp K H (.str x) (.str x)
 | lst {a : Addr} {xs : List V} {ds : List PyData} : SqL K H a xs → DpAll K H xs ds → Dp K H (.ref a) (.list ds)
 | tup {a : Addr} {xs : List V} {ds : List PyData} : SqT K H a xs → DpAll K H xs ds → Dp K H (.ref a) (.tuple ds)
inductive DpAll (K : PySem.W.Frag) (H : Hp) : List V → List PyData → Prop
 | nil : DpAll K H [] []
 | cons {v : V} {vs : List V} {d : PyData} {ds : List PyData} : Dp K H v d → DpAll K H vs ds → DpAll K H (v :: vs) (d :: ds)
end
section
variable {X : Cx} {pins : List (Addr × Obj)} {σ : St} {H : Hp} {s : Shared}
mutual
theorem Dp.reads (I : Inv X pins σ H s) : ∀ (d : PyData) (v : V) (u : Value),Dp X.K H v d → RelV v u → ∃ as,Reads s.heap u d as
 | .none,_,_,h,r => by
  cases h
  cases r
  exact ⟨_,Reads.none⟩
 | .bool b,_,_,h,r => by
  cases h
  cases r
  exact ⟨_,Reads.bool b⟩
 | .int i,_,_,h,r => by
  cases h
  obtain ⟨t,rfl⟩ := r
  exact ⟨_,Reads.int i t⟩
 | .str x,_,_,h,r => by
  cases h
  obtain ⟨t,rfl⟩ := r
  exact ⟨_,Reads.str x t⟩
 | .list ds,_,_,h,r => by
  cases h with
  | lst hs ha =>
   cases r
   obtain ⟨its,rv,⟨o,n,ho,hc,_,hd⟩,_⟩ := I.list hs
   obtain ⟨as,hr⟩ := Dp.readsAll I ds _ its ha rv
   exact ⟨_,Reads.list ho hc hd hr⟩
 | .tuple ds,_,_,h,r => by
  cases h with
  | tup hs ha =>
   cases r
   obtain ⟨its,rv,⟨o,ho,hc,n,hd⟩,_⟩ := I.tuple hs
   obtain ⟨as,hr⟩ := Dp.readsAll I ds _ its ha rv
   exact ⟨_,Reads.tuple ho hc hd hr⟩
 | .dict _,_,_,h,_ => by cases h
theorem Dp.readsAll (I : Inv X pins σ H s) : ∀ (ds : List PyData) (vs : List V) (us : List Value),DpAll X.K H vs ds → Vals vs us → ∃ as,ReadsAll s.heap us ds as
 | [],_,_,h,r => by
  cases h
  cases r
  exact ⟨_,ReadsAll.nil⟩
 | d :: ds,_,_,h,r => by
  cases h with
  | cons h1 h2 =>
   cases r with
   | cons r1 r2 =>
    obtain ⟨as,q1⟩ := Dp.reads I d _ _ h1 r1
    obtain ⟨bs,q2⟩ := Dp.readsAll I ds _ _ h2 r2
    exact ⟨_,ReadsAll.cons q1 q2⟩
end
end
section
variable {X : Cx}
def rEqD (K : PySem.W.Frag) : R2 := fun x y H Q => ∃ d e,Dp K H x d ∧ Dp K H y e ∧ SeqAt.shaped d = true ∧ SeqAt.shaped e = true ∧ Q (.bl (PyData.eqv d e)) H
theorem op_eqD (hu : X.A.units + 64 < cLine) : OpR X (compareOp .Eq) (rEqD X.K) := by
 intro pins s σ H x y v u Q I rx ry h
 obtain ⟨d,e,hd,he,sd,se,q⟩ := h
 obtain ⟨as,r1⟩ := Dp.reads I d x v hd rx
 obtain ⟨bs,r2⟩ := Dp.reads I e y u he ry
 exact SeqAt.compareEq_shaped r1 r2 sd se hu ⟨.bl _,H,I,rfl,q⟩
end
end L2
namespace L2
open PySem PySem.Spec PyProof.Rows
abbrev CellAt (h : Heap) (c : Addr) (v : Option Value) : Prop := h.IsCell c v
def relS (scope sc : Scope) : Scope :=
 { scope with names := scope.names.map fun (n,k) => if (k == .free && sc.kind == .function && sc.names.lookup n == some .cell) then (n,.cell) else (n,k) }
def cloFrom (cells : List (Str × Addr)) : List (Str × NameKind) → List (Str × Addr) → List (Str × Addr)
 | [],acc => acc
 | (n,k) :: r,acc => if k == .free then cloFrom cells r ((n,(cells.lookup n).getD 0) :: acc) else cloFrom cells r acc
theorem closure_loop (env : Env) (f : Str × NameKind → List (Str × Addr) → Sem (ForInStep (List (Str × Addr))))
  (hf : ∀ n k c,f (n,k) c = if k == .free then (do let a ← cellOf env n; pure (.yield ((n,a) :: c))) else pure (.yield c)) :
  ∀ (names : List (Str × NameKind)) (acc : List (Str × Addr)),(∀ y ∈ names,y.2 = .free → ∃ c,env.cells.lookup y.1 = some c) → forIn names acc f = pure (cloFrom env.cells names acc)
 | [],acc,_ => by rw [List.forIn_nil]; rfl
 | (n,k) :: r,acc,h => by
  rw [List.forIn_cons,hf]
  have ih := fun acc => closure_loop env f hf r acc fun y hy => h y (List.mem_cons_of_mem _ hy)
  unfold cloFrom
  by_cases hk : (k == NameKind.free) = true
  ·rw [if_pos hk,if_pos hk]
   obtain ⟨c,hc⟩ := h (n,k) List.mem_cons_self (by simpa using hk)
   have e : cellOf env n = pure c := by unfold cellOf; rw [hc]
   rw [e]
   have e2 : (env.cells.lookup n).getD 0 = c := by rw [hc]; rfl
   rw [e2]
   exact ih _
  ·rw [if_neg hk,if_neg hk]
   exact ih _
theorem closure_ok {scope : Scope} {env : Env} (h : ∀ y ∈ scope.names,y.2 = .free → ∃ c,env.cells.lookup y.1 = some c) : closureFor scope env = pure (cloFrom env.cells scope.names []) := by
 simp only [closureFor]
 rw [closure_loop env _ (fun n k c => rfl) scope.names [] h]
 rfl
theorem mem_lookup {α : Type} : ∀ {l : List (Str × α)} {n : Str} {c : α},(n,c) ∈ l → ∃ c',l.lookup n = some c'
 | (k,v) :: r,n,c,h => by
  rw [List.lookup_cons]
  cases hb : n == k with
  | true => exact ⟨_,rfl⟩
  | false =>
   rcases List.mem_cons.mp h with e | h
   ·cases e; simp at hb
   ·exact mem_lookup h
theorem cloFrom_mem {cells : List (Str × Addr)} : ∀ {names : List (Str × NameKind)} {acc : List (Str × Addr)} {n : Str} {c : Addr},(n,c) ∈ cloFrom cells names acc → (n,c) ∈ acc ∨ ((n,.free) ∈ names ∧ c = (cells.lookup n).getD 0)
 | [],_,_,_,h => .inl h
 | (m,k) :: r,acc,n,c,h => by
  unfold cloFrom at h
  split at h
  ·rename_i hk
   have hk : k = .free := by simpa using hk
   rcases cloFrom_mem h with h | ⟨h1,h2⟩
   ·rcases List.mem_cons.mp h with e | h
    ·cases e; exact .inr ⟨hk ▸ List.mem_cons_self,rfl⟩
    ·exact .inl h
   ·exact .inr ⟨List.mem_cons_of_mem _ h1,h2⟩
  ·rcases cloFrom_mem h with h | ⟨h1,h2⟩
   ·exact .inl h
   ·exact .inr ⟨List.mem_cons_of_mem _ h1,h2⟩
theorem cloFrom_acc {cells : List (Str × Addr)} : ∀ {names : List (Str × NameKind)} {acc : List (Str × Addr)} {p : Str × Addr},p ∈ acc → p ∈ cloFrom cells names acc
 | [],_,_,h => h
 | (m,k) :: r,acc,p,h => by
  unfold cloFrom
  split
  ·exact cloFrom_acc (List.mem_cons_of_mem _ h)
  ·exact cloFrom_acc h
theorem cloFrom_has {cells : List (Str × Addr)} : ∀ {names : List (Str × NameKind)} {acc : List (Str × Addr)} {n : Str},(n,.free) ∈ names → (n,(cells.lookup n).getD 0) ∈ cloFrom cells names acc
 | (m,k) :: r,acc,n,h => by
  unfold cloFrom
  rcases List.mem_cons.mp h with e | h
  ·cases e
   exact cloFrom_acc List.mem_cons_self
  ·split
   ·exact cloFrom_has h
   ·exact cloFrom_has h
theorem cells_mem : ∀ {names : List (Str × NameKind)} {h : Heap} {acc : List (Str × Addr)} {x : Str} {c : Addr},(x,c) ∈ cellsFrom h.objs.size names acc →
  (x,c) ∈ acc ∨ ((x,.cell) ∈ names ∧ h.objs.size ≤ c ∧ CellAt (pushCells h names) c none)
 | [],_,_,_,_,h => .inl h
 | (n,k) :: r,h,acc,x,c,hm => by
  unfold cellsFrom at hm
  unfold pushCells
  split at hm
  ·rename_i hk
   rw [if_pos hk]
   have hk : k = .cell := by simpa using hk
   rw [← Heap.size_push h { cls := .type "cell",data := .cell none }] at hm
   rcases cells_mem hm with hm | ⟨h1,h2,h3⟩
   ·rcases List.mem_cons.mp hm with e | hm
    ·cases e
     exact .inr ⟨hk ▸ List.mem_cons_self,Nat.le_refl _,_,pushCells_keeps r _ _ _ (Heap.get?_push_size _ rfl),rfl⟩
    ·exact .inl hm
   ·rw [Heap.size_push] at h2
    exact .inr ⟨List.mem_cons_of_mem _ h1,Nat.le_of_succ_le h2,h3⟩
  ·rename_i hk
   rw [if_neg hk]
   rcases cells_mem hm with hm | ⟨h1,h2,h3⟩
   ·exact .inl hm
   ·exact .inr ⟨List.mem_cons_of_mem _ h1,h2,h3⟩
theorem cells_acc : ∀ {names : List (Str × NameKind)} {n : Nat} {acc : List (Str × Addr)} {p : Str × Addr},p ∈ acc → p ∈ cellsFrom n names acc
 | [],_,_,_,h => h
 | (m,k) :: r,n,acc,p,h => by
  unfold cellsFrom
  split
  ·exact cells_acc (List.mem_cons_of_mem _ h)
  ·exact cells_acc h
theorem cells_has : ∀ {names : List (Str × NameKind)} {n : Nat} {acc : List (Str × Addr)} {x : Str},(x,.cell) ∈ names → ∃ c,(x,c) ∈ cellsFrom n names acc
 | (m,k) :: r,n,acc,x,h => by
  unfold cellsFrom
  rcases List.mem_cons.mp h with e | h
  ·cases e
   exact ⟨n,cells_acc List.mem_cons_self⟩
  ·split
   ·exact cells_has h
   ·exact cells_has h
theorem cells_inj : ∀ {names : List (Str × NameKind)} {h : Heap} {acc : List (Str × Addr)} {x y : Str} {c : Addr},(∀ p ∈ acc,p.2 < h.objs.size) → (∀ x y c,(x,c) ∈ acc → (y,c) ∈ acc → x = y) →
  (x,c) ∈ cellsFrom h.objs.size names acc → (y,c) ∈ cellsFrom h.objs.size names acc → x = y
 | [],_,_,_,_,_,_,hi,h1,h2 => hi _ _ _ h1 h2
 | (n,k) :: r,h,acc,x,y,c,hl,hi,h1,h2 => by
  unfold cellsFrom at h1 h2
  split at h1
  ·rename_i hk
   rw [if_pos hk] at h2
   rw [← Heap.size_push h { cls := .type "cell",data := .cell none }] at h1 h2
   refine cells_inj (h := h.push _) (fun p hp => ?_) (fun x y c a b => ?_) h1 h2
   ·rw [Heap.size_push]
    rcases List.mem_cons.mp hp with rfl | hp
    ·exact Nat.lt_succ_self _
    ·exact Nat.lt_succ_of_lt (hl p hp)
   ·rcases List.mem_cons.mp a with e | a <;> rcases List.mem_cons.mp b with e' | b
    ·cases e; cases e'; rfl
    ·cases e; exact absurd (hl _ b) (Nat.lt_irrefl _)
    ·cases e'; exact absurd (hl _ a) (Nat.lt_irrefl _)
    ·exact hi _ _ _ a b
  ·rename_i hk
   rw [if_neg hk] at h2
   exact cells_inj hl hi h1 h2
theorem newEnv_comp {M : Model} {A : Around} {E : Value → Shared → Prop} {s : Shared} {scope : Scope} {globals : Addr} {closure : List (Str × Addr)} {qual : Str} {func : Option Addr} {code : Value} {around : Env} {builtins : Addr} {Q : Env → Shared → Prop}
  (h : Q (newEnv scope s.heap.objs.size globals (cellsFrom (s.heap.objs.size + 1) scope.names closure) qual func code (some around) builtins)
   { s with heap := pushCells (s.heap.push { cls := .type "dict",data := .dict #[] }) scope.names }) :
  wpAny M A (newFunctionEnv scope globals closure [] qual func code (some around) builtins) Q E s := by
 simp only [newFunctionEnv,Option.isSome_some,if_true]
 refine wpAny_bind (wpAny_alloc ?_)
 refine wpAny_bind (wpAny_layCells _ (fun n k c => rfl) scope.names closure _ _ ?_)
 rw [show ({ s with heap := s.heap.push { cls := .type "dict",data := .dict #[] } } : Shared).heap.objs.size = s.heap.objs.size + 1 from Heap.size_push ..]
 rw [List.forIn_nil]
 exact wpAny_bind (wpAny_pure (wpAny_pure h))
theorem lookup_relS {sc : Scope} : ∀ {names : List (Str × NameKind)} {x : Str} {k : NameKind},
  (names.map fun (n,k) => if (k == NameKind.free && sc.kind == .function && sc.names.lookup n == some .cell) then (n,NameKind.cell) else (n,k)).lookup x = some k →
  ∃ k',names.lookup x = some k' ∧ (k = k' ∨ (k' = .free ∧ k = .cell))
 | [],_,_,h => by simp at h
 | (n,k₀) :: r,x,k,h => by
  have ih := @lookup_relS sc r x k
  have h' : List.lookup x ((if (k₀ == NameKind.free && sc.kind == .function && sc.names.lookup n == some .cell) = true then (n,NameKind.cell) else (n,k₀)) :: (r.map _)) = some k := h
  cases hx : x == n with
  | true =>
   simp only [List.lookup_cons,hx]
   by_cases hc : (k₀ == NameKind.free && sc.kind == .function && sc.names.lookup n == some .cell) = true
   ·rw [if_pos hc] at h'
    simp only [List.lookup_cons,hx] at h'
    cases h'
    simp only [Bool.and_eq_true,beq_iff_eq] at hc
    exact ⟨k₀,rfl,.inr ⟨hc.1.1,rfl⟩⟩
   ·rw [if_neg hc] at h'
    simp only [List.lookup_cons,hx] at h'
    cases h'
    exact ⟨_,rfl,.inl rfl⟩
  | false =>
   simp only [List.lookup_cons,hx]
   by_cases hc : (k₀ == NameKind.free && sc.kind == .function && sc.names.lookup n == some .cell) = true
   ·rw [if_pos hc] at h'
    simp only [List.lookup_cons,hx] at h'
    exact ih h'
   ·rw [if_neg hc] at h'
    simp only [List.lookup_cons,hx] at h'
    exact ih h'
structure BlkOk (N : List Str) (sc scope : Scope) (own : List (Str × Nat)) : Prop where
 kind : scope.kind = .function
 uniq : ∀ y ∈ scope.names,scope.names.lookup y.1 = some y.2
 ix : ∀ p ∈ own,N[p.2]? = some p.1
 free : ∀ y ∈ scope.names,y.2 = .free → sc.names.lookup y.1 = some .cell ∨ sc.names.lookup y.1 = some .free
 own : ∀ y ∈ scope.names,y.2 = .local ∨ y.2 = .cell → y.1 ∈ own.map (·.1) ∨ y.1 ∉ N
def wipe (σ : St) : List Nat → St
 | [] => σ
 | v :: vs => (wipe σ vs).set v none
theorem wipe_length (σ : St) : ∀ vs : List Nat,(wipe σ vs).length = σ.length
 | [] => rfl
 | v :: vs => by unfold wipe; rw [List.length_set,wipe_length σ vs]
theorem wipe_some {σ : St} {i : Nat} {x : V} : ∀ {vs : List Nat},(wipe σ vs)[i]? = some (some x) → σ[i]? = some (some x) ∧ i ∉ vs
 | [],h => ⟨h,by simp⟩
 | v :: vs,h => by
  unfold wipe at h
  by_cases hi : v = i
  ·subst hi
   by_cases hv : v < (wipe σ vs).length
   ·rw [List.getElem?_set_self hv] at h; cases h
   ·rw [List.getElem?_eq_none (by simpa using hv)] at h; cases h
  ·rw [List.getElem?_set_ne hi] at h
   obtain ⟨h1,h2⟩ := wipe_some h
   exact ⟨h1,by simp only [List.mem_cons,not_or]; exact ⟨fun e => hi e.symm,h2⟩⟩
abbrev Cx.blk (X : Cx) (s : Shared) (H : Hp) (scope : Scope) (cenv : Env) (fp : List Addr) : Cx := { X with s_0 := s,H_0 := H,env := cenv,outer := X.stack,ex := fp,fn := fun x => scope.names.lookup x == some .cell,pn := [],xe := fun _ _ => False }
section
variable {X : Cx} {pins : List (Addr × Obj)} {σ : St} {H : Hp} {s : Shared}
theorem block_start {scope : Scope} {own : List (Str × Nat)} {fp : List Addr} (I : Inv X pins σ H s) (ok : BlkOk X.N X.env.scope scope own) (hN : X.N.Nodup) (hfp : ∀ b ∈ fp,FpOk X pins H b ∧ b < s.heap.objs.size) :
  Inv (X.blk s H scope (compEnvC scope (cellsFrom (s.heap.objs.size + 1) scope.names (cloFrom X.env.cells scope.names [])) s.heap.objs.size X.env) fp) [] (wipe σ (own.map (·.2))) H { s with heap := pushCells (s.heap.push { cls := .type "dict",data := .dict #[] }) scope.names } := by
 have hfree : ∀ y ∈ scope.names,y.2 = .free → ∃ c,X.env.cells.lookup y.1 = some c := fun y hy e => by
  rcases ok.free y hy e with k | k
  ·exact I.ok.has _ (.inl k)
  ·exact I.ok.has _ (.inr k)
 generalize hcenv : compEnvC scope (cellsFrom (s.heap.objs.size + 1) scope.names (cloFrom X.env.cells scope.names [])) s.heap.objs.size X.env = cenv
 have kp : ∀ b o,s.heap.get? b = some o → (pushCells (s.heap.push { cls := .type "dict",data := .dict #[] }) scope.names).get? b = some o := fun b o e => pushCells_keeps _ _ _ _ (Heap.get?_push_of_some _ e)
 have hL : cenv.locals = s.heap.objs.size := by rw [← hcenv]; rfl
 have hcl : cenv.cells = cellsFrom (s.heap.objs.size + 1) scope.names (cloFrom X.env.cells scope.names []) := by rw [← hcenv]; rfl
 have hsc : cenv.scope = relS scope X.env.scope := by rw [← hcenv]; rfl
 rw [← Heap.size_push s.heap { cls := .type "dict",data := .dict #[] }] at hcl
 have cm : ∀ {y c},(y,c) ∈ cloFrom X.env.cells scope.names [] → X.env.cells.lookup y = some c ∧ c < s.heap.objs.size := fun {y c} hm => by
  rcases cloFrom_mem hm with hm | ⟨h1,rfl⟩
  ·cases hm
  ·obtain ⟨c,hc⟩ := hfree _ h1 rfl
   rw [hc]
   obtain ⟨w,z⟩ := I.cell _ _ hc
   exact ⟨rfl,z.lt⟩
 have mem : ∀ {y c},cenv.cells.lookup y = some c → (X.env.cells.lookup y = some c ∧ c < s.heap.objs.size) ∨ (s.heap.objs.size + 1 ≤ c ∧ CellAt (pushCells (s.heap.push { cls := .type "dict",data := .dict #[] }) scope.names) c none) := fun {y c} e => by
  rw [hcl] at e
  rcases cells_mem (PySem.mem_of_lookup e) with hm | ⟨_,h2,h3⟩
  ·exact .inl (cm hm)
  ·rw [Heap.size_push] at h2; exact .inr ⟨h2,h3⟩
 have look : ∀ {y},scope.names.lookup y = some .free → ∃ c,cenv.cells.lookup y = some c ∧ X.env.cells.lookup y = some c := fun {y} hl => by
  have hy : (y,NameKind.free) ∈ scope.names := PySem.mem_of_lookup hl
  obtain ⟨c',e'⟩ := mem_lookup (cells_acc (names := scope.names) (n := (s.heap.push { cls := .type "dict",data := .dict #[] }).objs.size) (cloFrom_has (cells := X.env.cells) (acc := []) hy))
  rw [← hcl] at e'
  refine ⟨c',e',?_⟩
  rw [hcl] at e'
  rcases cells_mem (PySem.mem_of_lookup e') with hm | ⟨h1,_,_⟩
  ·exact (cm hm).1
  ·have := ok.uniq _ h1
   rw [hl] at this; cases this
 have okB : (X.blk s H scope cenv fp).Ok := by
  refine ⟨I.ok.mod,by show cenv.scope.kind = _; rw [hsc]; exact ok.kind,by show cenv.globals = _; rw [← hcenv]; exact I.ok.glob,by show cenv.builtins = _; rw [← hcenv]; exact I.ok.blt,by show s.heap.objs.size ≤ cenv.locals; rw [hL]; exact Nat.le_refl _,
   fun y z c e1 e2 => ?_,fun y hy => ?_,fun y c z e => ?_,I.ok.hd,I.ok.frames,.inl rfl,fun b hb => ⟨?_,fun y c e z => ?_⟩,I.bs,Nat.le_trans I.ok.bsz I.sz,fun b o e hb => ?_,fun b hb z => ?_,I.stack,I.stkFree⟩
  ·have e1 : cenv.cells.lookup y = some c := e1
   have e2 : cenv.cells.lookup z = some c := e2
   rw [hcl] at e1 e2
   refine cells_inj (fun p hp => ?_) (fun y z c a b => I.ok.inj y z c (cm a).1 (cm b).1) (PySem.mem_of_lookup e1) (PySem.mem_of_lookup e2)
   rw [Heap.size_push]
   exact Nat.lt_succ_of_lt (cm (y := p.1) (c := p.2) hp).2
  ·show ∃ c,cenv.cells.lookup y = some c
   have key : ∀ k,cenv.kindOf y = some k → (k = .cell ∨ k = .free) → ∃ c,cenv.cells.lookup y = some c := fun k hk hk' => by
    unfold Env.kindOf at hk
    rw [hsc] at hk
    obtain ⟨k',e,r⟩ := lookup_relS hk
    have : k' = .cell ∨ k' = .free := by
     rcases r with rfl | ⟨rfl,_⟩
     ·exact hk'
     ·exact .inr rfl
    rcases this with rfl | rfl
    ·obtain ⟨c,hm⟩ := cells_has (n := (s.heap.push { cls := .type "dict",data := .dict #[] }).objs.size) (acc := cloFrom X.env.cells scope.names []) (PySem.mem_of_lookup e)
     obtain ⟨c',e'⟩ := mem_lookup hm
     exact ⟨c',by rw [hcl]; exact e'⟩
    ·obtain ⟨c,h1,_⟩ := look e
     exact ⟨c,h1⟩
   rcases hy with hy | hy
   ·exact key _ hy (.inl rfl)
   ·exact key _ hy (.inr rfl)
  ·have z : (scope.names.lookup y == some NameKind.cell) = true := z
   have z : scope.names.lookup y = some .cell := by simpa using z
   have e : cenv.cells.lookup y = some c := e
   rw [hcl] at e
   rcases cells_mem (PySem.mem_of_lookup e) with hm | ⟨_,h2,_⟩
   ·rcases cloFrom_mem hm with hm | ⟨h1,_⟩
    ·cases hm
    ·have q := ok.uniq _ h1
     rw [z] at q; cases q
   ·rw [Heap.size_push] at h2
    exact Nat.le_of_succ_le h2
  ·show b ≠ cenv.locals
   rw [hL]; exact Nat.ne_of_lt (hfp b hb).2
  ·have e : cenv.cells.lookup y = some c := e
   rcases mem e with ⟨h1,_⟩ | ⟨h1,_⟩
   ·exact (hfp b hb).1.2.2.2.2.1 y c h1 z
   ·have h2 : s.heap.objs.size + 1 ≤ b := by rw [← z]; exact h1
    exact absurd (Nat.lt_of_lt_of_le (hfp b hb).2 (Nat.le_of_succ_le h2)) (Nat.lt_irrefl _)
  ·rcases (hfp b hb).1.2.2.2.1 with z | z
   ·exact I.ok.noex b o e z
   ·exact absurd (Nat.lt_of_lt_of_le (Heap.lt_size e) (Nat.le_trans I.ok.bsz z)) (Nat.lt_irrefl _)
  ·rcases List.mem_cons.mp (I.stkSub b z) with z | z
   ·exact (hfp b hb).1.2.1 z
   ·exact (hfp b hb).1.2.2.1 z
 refine ⟨okB,rfl,I.bare,Un.kept kp,⟨fun _ => none,?_,fun i y av e1 e2 e3 => ?_⟩,fun y c e => ?_,?_,fun y c e => ?_,fun p hp => ?_,I.hok.kept kp,by rw [wipe_length]; exact I.len⟩
 ·show Heap.Ns _ cenv.locals _
  rw [hL]
  exact Heap.Ns.keeps (Heap.Ns.new ..) fun b o e => pushCells_keeps _ _ _ _ e
 ·obtain ⟨e2,hne⟩ := wipe_some e2
  have hfr : scope.names.lookup y = some .free ∧ (cenv.kindOf y = some .cell ∨ cenv.kindOf y = some .free) := by
   have key : ∀ k,cenv.scope.names.lookup y = some k → k = .local ∨ k = .cell ∨ k = .free → scope.names.lookup y = some .free ∧ (cenv.kindOf y = some .cell ∨ cenv.kindOf y = some .free) := fun k hk hk' => by
    have hk0 := hk
    rw [hsc] at hk
    obtain ⟨k',e,r⟩ := lookup_relS hk
    have no : ¬ (k' = .local ∨ k' = .cell) := fun hh => by
     rcases ok.own _ (PySem.mem_of_lookup e) hh with e' | e'
     ·obtain ⟨p,hp,hpy⟩ := List.mem_map.mp e'
      have e3 := ok.ix p hp
      have : p.1 = y := hpy
      rw [this] at e3
      exact hne (List.mem_map.mpr ⟨p,hp,nodup_ix hN e3 e1⟩)
     ·exact e' (List.mem_of_getElem? e1)
    rcases r with rfl | ⟨rfl,rfl⟩
    ·rcases hk' with rfl | rfl | rfl
     ·exact absurd (.inl rfl) no
     ·exact absurd (.inr rfl) no
     ·exact ⟨e,.inr hk0⟩
    ·exact ⟨e,.inl hk0⟩
   have e3 : Vis cenv.scope y := e3
   rcases e3 with e3 | e3 | e3
   ·exact key _ e3 (.inl rfl)
   ·exact key _ e3 (.inr (.inl rfl))
   ·exact key _ e3 (.inr (.inr rfl))
  obtain ⟨m,hn,hl⟩ := I.loc
  have hvis : Vis X.env.scope y := (ok.free _ (PySem.mem_of_lookup hfr.1) rfl).elim (fun k => .inr (.inl k)) (fun k => .inr (.inr k))
  obtain ⟨w,r,q⟩ := hl i y av e1 e2 hvis
  refine ⟨w,r,.inr ⟨hfr.2,?_⟩⟩
  obtain ⟨c,h1,h2⟩ := look hfr.1
  rcases q with ⟨k,_⟩ | ⟨_,c',e',z⟩
  ·have k : X.env.scope.names.lookup y = some .local := k
   rcases ok.free _ (PySem.mem_of_lookup hfr.1) rfl with k' | k' <;> rw [show X.env.scope.names.lookup y = _ from k'] at k <;> cases k
  ·rw [h2] at e'; cases e'
   exact ⟨c,h1,z.keeps kp⟩
 ·have e : cenv.cells.lookup y = some c := e
  rcases mem e with ⟨h1,_⟩ | ⟨_,z⟩
  ·obtain ⟨w,z⟩ := I.cell y c h1
   exact ⟨w,z.keeps kp⟩
  ·exact ⟨_,z⟩
 ·show H cenv.locals = none
  rw [hL]; exact I.hok.fresh (Nat.le_refl _)
 ·have e : cenv.cells.lookup y = some c := e
  rcases mem e with ⟨h1,_⟩ | ⟨h1,_⟩
  ·exact I.freeC y c h1
  ·exact I.hok.fresh (Nat.le_of_succ_le h1)
 ·exact absurd (show p ∈ ([] : List (Addr × Obj)) ++ [] from hp) (by simp)
theorem app_ok {E : Value → Shared → Prop} {D : Addr} {xs : List V} {y : V} {v : Value} {Q : Value → Shared → Prop} (I : Inv X pins σ H s) (hD : H D = some (.lst xs)) (hz : xs.length < sizeLine) (r : RelV y v)
  (h : ∀ s',Inv X pins σ (upd H D (.lst (xs ++ [y]))) s' → Q .none s') : wpAny (model X.prog X.w) X.A (call (.builtin "list.append") [.ref D,v]) Q E s := by
 obtain ⟨hz',its,n,ri,e⟩ := I.hok D _ hD
 have hl := ri.length
 refine append_at (hsz := by rw [List.size_toArray]; omega) e fun h' sb ho' => ?_
 refine h { s with heap := h' } (I.write (t' := s.toks) (by rw [hD]; trivial) (.inl rfl) (fun b u hb q => (sb.2 b hb).trans q) ⟨_,ho'⟩ ⟨by rw [List.length_append]; exact hz,its ++ [v],n + 1,ri.append (.cons r .nil),?_⟩)
 rw [ho']
 simp
def PTs (X : Cx) (ifs : List Expr) (t : TT) : Prop :=
 ∀ (pins : List (Addr × Obj)) (s : Shared) (σ : St) (H : Hp) (Q : Bool → Hp → Prop),Inv X pins σ H s → t σ H Q →
  wpAny (model X.prog X.w) X.A (forIn ifs true fun c r => if r = true then do let ok ← isTrue c X.env (eval c X.env); pure (ForInStep.yield ok) else pure (ForInStep.yield r)) (TP X pins σ Q) X.xe s
def tYes : TT := fun _ H Q => Q true H
theorem pts_nil : PTs X [] tYes := fun _ _ _ H _ I h => wpAny_tests_nil ⟨H,I,h⟩
end
theorem thnF {α : Type} {t : Sem α} {Q Q' : α → Shared → Prop} {M : Model} {A : Around} {E : Value → Shared → Prop} {s : Shared} (h : wpAny M A t Q (fun _ _ => False) s) (hQ : ∀ a s,Q a s → Q' a s) : wpAny M A t Q' E s := wpAny_mono h hQ fun _ _ z => False.elim z
theorem compLoop_any {prog : Program} {w : World} {A : Around} {R : Result → Shared → Prop} {s : Shared} {elt target iter : Expr} {ifs : List Expr} {scope : Scope} {pos : Pos} {it acc : Value} {env : Env} (I : Nat → Shared → Prop)
  (turn : ∀ n s,I n s → wpAny (model prog w) A (pyNext it) (fun r s₁ => match r with
   | none => R (.ok .next) s₁
   | some v => wpAny (model prog w) A (letOwnedTupleGo target it v) (fun _ s₁' => wpAny (model prog w) A (assign target env v) (fun _ s₂ =>
     wpAny (model prog w) A (forIn ifs true fun c r => if r = true then do let ok ← isTrue c env (eval c env); pure (ForInStep.yield ok) else pure (ForInStep.yield r)) (fun ok s₃ =>
      if ok = true then wpAny (model prog w) A (eval elt env) (fun x s₄ =>
       wpAny (model prog w) A (call (.builtin "list.append") [acc,x]) (fun _ s₅ => ∃ m,m < n ∧ I m s₅) (notedBy (model prog w) A env fun e s' => R (.error e) s') s₄) (notedBy (model prog w) A env fun e s' => R (.error e) s') s₃
      else ∃ m,m < n ∧ I m s₃) (notedBy (model prog w) A env fun e s' => R (.error e) s') s₂) (notedBy (model prog w) A env fun e s' => R (.error e) s') s₁') (notedBy (model prog w) A env fun e s' => R (.error e) s') s₁) (notedBy (model prog w) A env fun e s' => R (.error e) s') s)
  (n : Nat) (h : I n s) :
  codeAny (model prog w) A (.compLoop (.ListComp elt [⟨target,iter,ifs,0⟩] scope pos) 0 it acc env) R s := by
 refine codeAny_loop rfl I (fun n s hI => ?_) n h
 show wpAny _ A ((compTurn (.ListComp elt [⟨target,iter,ifs,0⟩] scope pos) 0 it acc env).onRaise (fun x => do noteFrame x env; theTreesLotGoes x)) _ _ s
 refine wpAny_noted ?_
 rw [compTurn_list]
 refine wpAny_bind (wpAny_standAt (wpAny_bind (wpAny_mono (turn n s hI) (fun r s₁ h₁ => ?_) fun _ _ h' => h')))
 cases r with
 | none => exact wpAny_pure h₁
 | some v =>
  refine wpAny_bind (wpAny_mono h₁ (fun _ s₁' h₁' => ?_) fun _ _ h' => h')
  refine wpAny_bind (wpAny_mono h₁' (fun _ s₂ h₂ => wpAny_bind (wpAny_mono h₂ (fun ok s₃ h₃ => ?_) fun _ _ h' => h')) fun _ _ h' => h')
  cases ok with
  | false => exact wpAny_pure ⟨rfl,h₃⟩
  | true =>
   exact wpAny_bind (wpAny_bind (wpAny_mono h₃ (fun x s₄ h₄ => wpAny_bind (wpAny_mono h₄ (fun _ s₅ h₅ => wpAny_pure (wpAny_pure ⟨rfl,h₅⟩)) fun _ _ h' => h')) fun _ _ h' => h'))
section
variable {X : Cx}
def tLc (wi : TI) (g : TG) (tt : TT) (te : TE) (vs : List Nat) : TE := fun σ H Q => wi σ H fun J H1 => ∀ D,H1 D = none → ∃ W : Nat → Nat → Hp → Prop,(∃ m,W 0 m (upd H1 D (.lst []))) ∧ ∀ i m H,W i m H →
 (J.stop i H ∧ Q (.ref D) H) ∨ (J.go i H ∧ ∃ Nx : Hp → Prop,(∀ H',Nx H' → ∃ m',m' < m ∧ W (i + 1) m' H') ∧ ∀ x H',J.yld i H x H' → g x (wipe σ vs) H' fun σ2 H2 => wipe σ2 vs = wipe σ vs ∧ tt σ2 H2 fun b H3 =>
  if b = true then te σ2 H3 fun y H4 => ∃ acc,H4 D = some (.lst acc) ∧ acc.length < sizeLine ∧ Nx (upd H4 D (.lst (acc ++ [y]))) else Nx H3)
theorem lc_core {pins : List (Addr × Obj)} {s : Shared} {σ : St} {H : Hp} {Q : VK} {elt tg iter : Expr} {ifs : List Expr} {scope : Scope} {own : List (Str × Nat)} {pos pos' : Pos} {wi : TI} {g : TG} {tt : TT} {te : TE} {use : Option (Value → Sem Unit)} {Qf : Value → Shared → Prop}
  (hc : X.calm = true) (hN : X.N.Nodup) (I : Inv X pins σ H s) (hi : PI X tg iter wi) (ok : BlkOk X.N X.env.scope scope own)
  (hg : ∀ (s : Shared) (H : Hp) (C : Addr) (cl : List (Str × Addr)) (fp : List Addr),PG (X.blk s H scope (compEnvC scope cl C X.env) fp) tg g) (ht : ∀ (s : Shared) (H : Hp) (C : Addr) (cl : List (Str × Addr)) (fp : List Addr),PTs (X.blk s H scope (compEnvC scope cl C X.env) fp) ifs tt)
  (he : ∀ (s : Shared) (H : Hp) (C : Addr) (cl : List (Str × Addr)) (fp : List Addr),PE (X.blk s H scope (compEnvC scope cl C X.env) fp) elt te) (hs : ∀ x,foldedSetIterable iter X.env x = pure x)
  (h : tLc wi g tt te (own.map (·.2)) σ H Q)
  (hRR : ∀ D C s' m H',Inv X pins σ H' s' → Q (.ref D) H' → s'.heap.Ns C m → FpOk X pins H' C → compPost (model X.prog X.w) X.A X.xe use Qf (.ref D) C (.ok .next) s') :
  wpAny (model X.prog X.w) X.A (comprehension (.ListComp elt [⟨tg,iter,ifs,0⟩] scope pos) scope X.env pos' (newList []) false (eval iter X.env) use) Qf X.xe s := by
 have hfree : ∀ y ∈ scope.names,y.2 = .free → ∃ c,X.env.cells.lookup y.1 = some c := fun y hy e => by
  rcases ok.free y hy e with k | k
  ·exact I.ok.has _ (.inl k)
  ·exact I.ok.has _ (.inr k)
 refine wpAny_comprehension_free (use := use) rfl hs (closure_ok hfree) ok.kind (fun y hy e => by rw [ok.uniq y hy,e])
  (thn (hi pins s σ H _ I h) fun xv s1 hx => thn hx fun itv s2 h2 => ?_)
 obtain ⟨it,fp,tn,J,H2,e,I2,T,st2,f2,q⟩ := h2
 subst e
 refine wpAny_newObj_type (newEnv_comp ?_) (by show 0 ≤ sizeLine; decide)
 generalize hD : s2.heap.objs.size = D
 have hDn : H2 D = none := I2.hok.fresh (Nat.le_of_eq hD)
 obtain ⟨W,⟨m0,w0⟩,turn⟩ := q D hDn
 generalize hs3 : ({ s2 with heap := s2.heap.push { cls := .type "list",data := .seq ([] : List Value).toArray } } : Shared) = s3
 have I3 : Inv X pins σ (upd H2 D (.lst [])) s3 := by
  rw [← hs3]
  refine I2.laid (t' := s2.toks) (fun b o e => Heap.get?_push_of_some _ e) (Nat.le_of_eq hD) ⟨Nat.zero_le _,[],0,.nil,?_⟩
  rw [← hD]
  exact Heap.get?_push_size _ rfl
 have h3 : s3.heap = s2.heap.push { cls := .type "list",data := .seq ([] : List Value).toArray } := by rw [← hs3]
 have sz : ∀ b ∈ fp,b < s2.heap.objs.size := fun b hb => by
  obtain ⟨o,e,_⟩ := T.obj _ _ st2 b hb
  exact Heap.lt_size e
 have f3 : ∀ b ∈ fp,FpOk X pins (upd H2 D (.lst [])) b ∧ b < s3.heap.objs.size := fun b hb => by
  have hlt := sz b hb
  refine ⟨⟨?_,(f2 b hb).2⟩,by rw [h3,Heap.size_push]; exact Nat.lt_succ_of_lt hlt⟩
  rw [upd_ne (by rw [← hD]; exact Nat.ne_of_lt hlt)]
  exact (f2 b hb).1
 have st3 : tn 0 s3.heap := T.keep _ _ _ st2 fun b _ o e => by rw [h3]; exact Heap.get?_push_of_some _ e
 have I4 := block_start I3 ok hN f3
 have pg := hg s3 (upd H2 D (.lst [])) s3.heap.objs.size (cellsFrom (s3.heap.objs.size + 1) scope.names (cloFrom X.env.cells scope.names [])) fp
 have pt := ht s3 (upd H2 D (.lst [])) s3.heap.objs.size (cellsFrom (s3.heap.objs.size + 1) scope.names (cloFrom X.env.cells scope.names [])) fp
 have pe := he s3 (upd H2 D (.lst [])) s3.heap.objs.size (cellsFrom (s3.heap.objs.size + 1) scope.names (cloFrom X.env.cells scope.names [])) fp
 show codeAny _ _ (.compStart (.ListComp elt [⟨tg,iter,ifs,0⟩] scope pos) 0 (.ref it) (.ref D) (compEnvC scope (cellsFrom (s3.heap.objs.size + 1) scope.names (cloFrom X.env.cells scope.names [])) s3.heap.objs.size X.env)) (compPost (model X.prog X.w) X.A X.xe use Qf (.ref D) s3.heap.objs.size) { s3 with heap := pushCells (s3.heap.push { cls := .type "dict",data := .dict #[] }) scope.names }
 have nfp : ∀ b ∈ fp,(upd H2 D (.lst [])) b = none := fun b hb => (f3 b hb).1.1
 generalize hce : compEnvC scope (cellsFrom (s3.heap.objs.size + 1) scope.names (cloFrom X.env.cells scope.names [])) s3.heap.objs.size X.env = ce at I4 pg pt pe ⊢
 have cL : ce.locals = s3.heap.objs.size := by subst hce; rfl
 generalize hH3 : upd H2 D (.lst []) = H3 at I3 I4 pg pt pe w0 nfp f3
 generalize hs4 : ({ s3 with heap := pushCells (s3.heap.push { cls := .type "dict",data := .dict #[] }) scope.names } : Shared) = s4 at I4 ⊢
 have st4 : tn 0 s4.heap := T.keep _ _ _ st3 fun b _ o e => by rw [← hs4]; exact pushCells_keeps _ _ _ _ (Heap.get?_push_of_some _ e)
 have stat : ∀ {σ' : St} {H' : Hp} {s' : Shared},Inv (X.blk s3 H3 scope ce fp) [] σ' H' s' → (∀ b ∈ fp,H' b = none) → ∀ b ∈ fp,FpOk (X.blk s3 H3 scope ce fp) [] H' b := fun {σ' H' s'} I' hn b hb =>
  ⟨hn b hb,(I'.ok.exf b hb).1,I'.ok.exfs b hb,.inl hb,fun x c e => (I'.ok.exf b hb).2 x c e,fun p hp => absurd (show p ∈ ([] : List (Addr × Obj)) ++ [] from hp) (by simp)⟩
 have loop : codeAny (model X.prog X.w) X.A (.compLoop (.ListComp elt [⟨tg,iter,ifs,0⟩] scope pos) 0 (.ref it) (.ref D) ce) (compPost (model X.prog X.w) X.A X.xe use Qf (.ref D) s3.heap.objs.size) s4 := by
  refine compLoop_any (fun n s' => ∃ i H',Inv (X.blk s3 H3 scope ce fp) [] (wipe σ (own.map (·.2))) H' s' ∧ tn i s'.heap ∧ (∀ b ∈ fp,H' b = none) ∧ W i n H') ?_ m0 ⟨0,H3,I4,st4,nfp,w0⟩
  rintro n s5 ⟨i,H5,I5,st5,n5,w5⟩
  rcases turn i n H5 w5 with ⟨stop,qq⟩ | ⟨go,Nx,hNx,step⟩
  ·have td := T.done (X.blk s3 H3 scope ce fp) rfl rfl rfl hc i [] s5 _ H5 (fun _ _ => False) I5 (stat I5 n5) st5 stop
   refine thnF td fun r s6 ⟨hr,I6⟩ => ?_
   subst hr
   have I7 : Inv X pins σ H5 s6 := I3.call' (ch := fp) I6.os I6.base I6.hok I6.bare fun b hb => ⟨(f3 b hb).1.2.2.2.1,(f3 b hb).1.2.1,(f3 b hb).1.2.2.2.2.1,(f3 b hb).1.2.2.2.2.2⟩
   have nC : H5 s3.heap.objs.size = none := by
    have z : H5 ce.locals = none := I6.free
    rw [cL] at z
    exact z
   obtain ⟨m,hn,_⟩ := I6.loc
   have hn : s6.heap.Ns ce.locals m := hn
   rw [cL] at hn
   exact hRR D s3.heap.objs.size s6 m H5 I7 qq hn (I3.fpOk (Nat.le_refl _) nC)
  ·have ti := T.item (X.blk s3 H3 scope ce fp) rfl rfl rfl hc i [] s5 _ H5 (fun _ _ => False) I5 (stat I5 n5) st5 go
   refine thnF ti fun r s6 ⟨u,hr,h6⟩ => ?_
   subst hr
   refine thnF h6 fun _ s7 ⟨x,H7,I7,r7,y7,st7,n7⟩ => ?_
   have I7' := I7.pinned (stat I7 n7) (T.obj _ _ st7)
   refine thnF (pg _ s7 _ H7 x u _ I7' r7 (step x H7 y7)) fun _ s8 ⟨σ8,H8,I8,hw8,q8⟩ => ?_
   refine thnF (pt _ s8 σ8 H8 _ I8 q8) fun b s9 ⟨H9,I9,q9⟩ => ?_
   have fin : ∀ {s' : Shared} {H' : Hp},Inv (X.blk s3 H3 scope ce fp) ([] ++ pinsAt fp s7.heap) σ8 H' s' → Nx H' → ∃ m,m < n ∧ ∃ i H',Inv (X.blk s3 H3 scope ce fp) [] (wipe σ (own.map (·.2))) H' s' ∧ tn i s'.heap ∧ (∀ b ∈ fp,H' b = none) ∧ W i m H' := fun {s' H'} I' nx => by
    obtain ⟨m',hm,w'⟩ := hNx H' nx
    have pin' : ∀ b ∈ fp,∀ o,s7.heap.get? b = some o → s'.heap.get? b = some o ∧ H' b = none := fun b hb o e =>
     let z := I'.pin (b,o) (List.mem_append_right _ (List.mem_append_right _ (mem_pinsAt hb e)))
     ⟨z.1,z.2.1⟩
    have hl : (wipe σ (own.map (·.2))).length = σ8.length := by rw [← hw8,wipe_length]
    refine ⟨m',hm,i + 1,H',(I'.unpinned (pins := [])).weak hl (fun j v e => ?_),T.keep _ _ _ st7 fun b hb o e => (pin' b hb o e).1,fun b hb => ?_,w'⟩
    ·rw [← hw8] at e
     exact (wipe_some e).1
    ·obtain ⟨o,e,_⟩ := T.obj _ _ st7 b hb
     exact (pin' b hb o e).2
   cases b with
   | false =>
    simp only [Bool.false_eq_true,if_false] at q9 ⊢
    exact fin I9 q9
   | true =>
    simp only [if_true] at q9 ⊢
    refine thnF (pe _ s9 σ8 H9 _ I9 q9) fun z s10 ⟨yv,H10,I10,r10,acc,hD10,hz10,nx⟩ => ?_
    exact app_ok (X := X.blk s3 H3 scope ce fp) I10 hD10 hz10 r10 fun s11 I11 => fin I11 nx
 exact codeAny_compStart_list loop (T.self X.A 0 _ _ _ st4 loop)
theorem pe_lc {elt tg iter : Expr} {ifs : List Expr} {scope : Scope} {own : List (Str × Nat)} {pos : Pos} {wi : TI} {g : TG} {tt : TT} {te : TE} (hc : X.calm = true) (hN : X.N.Nodup) (hi : PI X tg iter wi) (ok : BlkOk X.N X.env.scope scope own)
  (hg : ∀ (s : Shared) (H : Hp) (C : Addr) (cl : List (Str × Addr)) (fp : List Addr),PG (X.blk s H scope (compEnvC scope cl C X.env) fp) tg g) (ht : ∀ (s : Shared) (H : Hp) (C : Addr) (cl : List (Str × Addr)) (fp : List Addr),PTs (X.blk s H scope (compEnvC scope cl C X.env) fp) ifs tt)
  (he : ∀ (s : Shared) (H : Hp) (C : Addr) (cl : List (Str × Addr)) (fp : List Addr),PE (X.blk s H scope (compEnvC scope cl C X.env) fp) elt te) (hs : ∀ x,foldedSetIterable iter X.env x = pure x := by intro _; rfl) :
  PE X (.ListComp elt [⟨tg,iter,ifs,0⟩] scope pos) (tLc wi g tt te (own.map (·.2))) := by
 intro pins s σ H Q I h
 rw [eval_ListComp]
 refine lc_core hc hN I hi ok hg ht he hs h fun D C s' m H' I' q hn f => ⟨m,hn,fun h'' sb => ?_⟩
 obtain ⟨f0,f1,f2,f3,f4,f5⟩ := f
 exact ⟨.ref D,H',I'.turned (t' := s'.toks) (fun b o hb e => (sb.2 b hb).trans e) f0 f1 f3 f4 f5,rfl,q⟩
end
theorem lc_list {K : PySem.W.Frag} {a : Addr} {xs : List V} {g : TG} {tt : TT} {te : TE} {vs : List Nat} {σ : St} {H1 : Hp} {D : Addr} {Qd : Hp → Prop} (Pv : Nat → Hp → Prop) (h0 : Pv 0 (upd H1 D (.lst []))) (hl : ∀ i H,i ≤ xs.length → Pv i H → SqL K H a xs)
  (hs : ∀ i x H,xs[i]? = some x → Pv i H → g x (wipe σ vs) H fun σ2 H2 => wipe σ2 vs = wipe σ vs ∧ tt σ2 H2 fun b H3 =>
   if b = true then te σ2 H3 fun y H4 => ∃ acc,H4 D = some (.lst acc) ∧ acc.length < sizeLine ∧ Pv (i + 1) (upd H4 D (.lst (acc ++ [y]))) else Pv (i + 1) H3) (hd : ∀ H,Pv xs.length H → Qd H) :
  ∃ W : Nat → Nat → Hp → Prop,(∃ m,W 0 m (upd H1 D (.lst []))) ∧ ∀ i m H,W i m H →
   ((Itl K a).stop i H ∧ Qd H) ∨ ((Itl K a).go i H ∧ ∃ Nx : Hp → Prop,(∀ H',Nx H' → ∃ m',m' < m ∧ W (i + 1) m' H') ∧ ∀ x H',(Itl K a).yld i H x H' → g x (wipe σ vs) H' fun σ2 H2 => wipe σ2 vs = wipe σ vs ∧ tt σ2 H2 fun b H3 =>
    if b = true then te σ2 H3 fun y H4 => ∃ acc,H4 D = some (.lst acc) ∧ acc.length < sizeLine ∧ Nx (upd H4 D (.lst (acc ++ [y]))) else Nx H3) := by
 refine ⟨fun i m H => m = xs.length - i ∧ i ≤ xs.length ∧ Pv i H,⟨xs.length,by simp,Nat.zero_le _,h0⟩,?_⟩
 rintro i m H ⟨rfl,hi,p⟩
 have q := hl i H hi p
 by_cases hlt : i < xs.length
 ·refine .inr ⟨⟨xs,xs[i],q,by simp [hlt]⟩,Pv (i + 1),fun H' p' => ⟨xs.length - (i + 1),by omega,rfl,hlt,p'⟩,fun x H' y => ?_⟩
  obtain ⟨e,y⟩ := y
  subst e
  exact hs i x _ (y xs q) p
 ·have e : i = xs.length := by omega
  subst e
  exact .inl ⟨⟨xs,q,Nat.le_refl _⟩,hd H p⟩
end L2
namespace L2
open PySem PySem.Spec PyProof.Rows
section
variable {prog : Program} {w : World} {A : Around} {R : Result → Shared → Prop} {s : Shared} {elt t0 i0 t1 i1 : Expr} {ifs0 ifs1 : List Expr} {scope : Scope} {pos : Pos} {it acc : Value} {env : Env}
end
section
variable {X : Cx}
end
end L2
namespace L2
open PySem PySem.Spec PyProof.Rows
section
variable {κ : Type} [DecidableEq κ]
end
section
variable {P : Program} {w : World} {H : Hp} {h : Heap} {a : Addr}
end
section
variable {X : Cx} {pins : List (Addr × Obj)} {σ : St} {H : Hp} {s : Shared} {a : Addr} {y v : V} {u r : Value} {o : Option V} {A : Around} {E : Value → Shared → Prop}
end
section
variable {X : Cx} {pins : List (Addr × Obj)} {σ : St} {H : Hp} {s : Shared} {a : Addr} {kvs : List (Key × V)} {k : Key} {u : Value} {A : Around} {E : Value → Shared → Prop}
end
def NoSl (i : Expr) : Prop := ∀ ov iv,subscripted i false ov iv = operate [ov,iv] (getItem ov iv)
theorem subD_of {prog : Program} {w : World} {A : Around} {E : Value → Shared → Prop} {s : Shared} {env : Env} {value slice : Expr} {pos : Pos} {T id : String} {Q : Value → Shared → Prop}
  (hl : typeLookup (.type T) "__getitem__" = pure (some (.builtin id))) (hs : NoSl slice)
  (h : wpAny (model prog w) A (eval value env) (fun o s₁ => wpAny (model prog w) A (eval slice env) (fun i s₂ => s₂.TypeIs o T ∧ wpAny (model prog w) A (getItem o i) Q E s₂) E s₁) E s) :
  wpAny (model prog w) A (eval (.Subscript value slice pos) env) Q E s := by
 refine Subscript_ (wpAny_mono h (fun o s₁ h₁ => wpAny_mono h₁ (fun i s₂ h₂ => ?_) fun _ _ x => x) fun _ _ x => x)
 obtain ⟨hT,h₂⟩ := h₂
 unfold subscriptTail
 refine wpAny_bind ?_
 rw [getitemInPython_of_ne hT.not_modules]
 refine wpAny_bind (wpAny_specialOf hT hl ?_)
 have fin : wpAny (model prog w) A (subscripted slice false o i) (fun r s₃ => wpAny (model prog w) A (letTemporaryGo value o r >>= fun _ => pure r) Q E s₃) E s₂ := by
  rw [hs o i]
  exact wpAny_operating (wpAny_mono h₂ (fun r s₃ h₃ => wpAny_bind (wpAny_letTemporaryGo (wpAny_pure h₃))) fun _ _ x => x)
 first
  | exact wpAny_pure (wpAny_bind fin)
  | exact wpAny_bind (wpAny_pure (wpAny_bind fin))
  | exact wpAny_bind fin
section
variable {X : Cx} {o i e value : Expr} {pos pos' tpos : Pos} {td ty tv : TE}
end
section
variable {X : Cx} {pos : Pos}
end
section
variable {X : Cx} {pins : List (Addr × Obj)} {σ : St} {H : Hp} {s : Shared} {a : Addr} {y d : V} {u r : Value} {o : Option V} {A : Around} {E : Value → Shared → Prop}
end
section
variable {X : Cx} {o e f : Expr} {apos cpos : Pos} {td ty tx : TE}
end
section
variable {X : Cx} {pins : List (Addr × Obj)} {σ : St} {H : Hp} {s : Shared} {a : Addr} {kvs : List (Key × V)} {A : Around} {E : Value → Shared → Prop}
end
section
variable {X : Cx} {pins : List (Addr × Obj)} {σ : St} {H : Hp} {s : Shared} {a : Addr} {y : V} {u : Value} {A : Around} {E : Value → Shared → Prop}
end
end L2
namespace L2
open PySem PySem.Spec PyProof.Rows
section
variable {prog : Program} {w : World} {A : Around} {E : Value → Shared → Prop}
end
section
variable {X : Cx}
end
end L2
namespace L2
open PySem PySem.Spec PyProof.Rows
theorem boot_reversed5 : bootBuiltins "reversed" = some (.type "reversed") := by decide +kernel
section
variable {X : Cx} {pins : List (Addr × Obj)} {σ : St} {H : Hp} {s : Shared} {h' : Heap}
end
section
variable {X : Cx}
theorem pi_one {tg : Expr} {pins : List (Addr × Obj)} {σ : St} {H : Hp} {s : Shared} {R : It → Hp → Prop} {J : It} {tn : Nat → Heap → Prop} {tk : Nat} (I : Inv X pins σ H s) (o : Obj)
  (T : Turn X.prog X.w X.K tg J [s.heap.objs.size] s.heap.objs.size tn) (st : tn 0 (s.heap.push o)) (q : R J H) : PIE X pins σ tg R (.ref s.heap.objs.size) { s with heap := s.heap.push o,toks := tk } := by
 refine ⟨s.heap.objs.size,[s.heap.objs.size],tn,J,H,rfl,I.kept fun b ob e => Heap.get?_push_of_some _ e,T,st,fun b hb => ?_,q⟩
 have e : b = s.heap.objs.size := by simpa using hb
 subst e
 exact I.fpOk (Nat.le_refl _) (I.hok.fresh (Nat.le_refl _))
end
section
variable {X : Cx} {tg : Expr}
end
def Itv (K : PySem.W.Frag) (a : Addr) (n : Nat) : It :=
 ⟨fun i H => i < n ∧ ∃ (xs : List V) (x : V),SqL K H a xs ∧ xs[n - 1 - i]? = some x,fun i H x H' => H' = H ∧ ∀ xs,SqL K H a xs → xs[n - 1 - i]? = some x,fun i _ => n ≤ i⟩
theorem turn_rev {P : Program} {w : World} {K : PySem.W.Frag} {tg : Expr} (a it : Addr) (n : Nat) : Turn P w K tg (Itv K a n) [it] it (fun i h => i ≤ n ∧ h.IsRevIter it a ((n : Int) - 1 - (i : Nat))) where
 mem := by simp
 obj := fun i h st b hb => by
  have e : b = it := by simpa using hb
  subst e
  obtain ⟨_,o,e,c,d⟩ := st
  exact ⟨o,e,fun v z => by rw [d] at z; cases z⟩
 keep := fun i h h' st k => ⟨st.1,st.2.at fun o e => k it (by simp) o e⟩
 item := by
  intro X hP hw hK hc i pins s σ H E I hf st hg
  subst hP hw hK
  obtain ⟨hin,xs,x,hq,hx⟩ := hg
  obtain ⟨its,rv,p,hz⟩ := I.list hq
  obtain ⟨u,hu,ru⟩ := rv.get hx
  obtain ⟨f0,f1,f2,f3,f4,f5⟩ := hf it (by simp)
  obtain ⟨_,hit⟩ := st
  have e1 : (n : Int) - 1 - ((i : Nat) : Int) = ((n - 1 - i : Nat) : Int) := by omega
  rw [e1] at hit
  refine wpAny_pyNext_rev_item hit p.isList (x := u) (by simpa using hu) fun h' st' sb => ?_
  have e2 : ((n - 1 - i : Nat) : Int) - 1 = (n : Int) - 1 - ((i + 1 : Nat) : Int) := by omega
  rw [e2] at st'
  have I1 : Inv X pins σ H { s with heap := h' } := I.turned (t' := s.toks) (fun b o hb e => (sb.2 b hb).trans e) f0 f1 f3 f4 f5
  obtain ⟨o,e,c,d⟩ := id st'
  exact ⟨u,rfl,go_of (s := { s with heap := h' }) e c d (by decide) ⟨x,H,I1,ru,⟨rfl,fun ys hy => by rw [I.list_inj hy hq]; exact hx⟩,⟨hin,st'⟩,fun b hb => (hf b hb).1⟩⟩
 done := by
  intro X hP hw hK hc i pins s σ H E I hf st hg
  subst hP hw hK
  obtain ⟨f0,f1,f2,f3,f4,f5⟩ := hf it (by simp)
  obtain ⟨hin,hit⟩ := st
  have hge : n ≤ i := hg
  have e1 : (n : Int) - 1 - ((i : Nat) : Int) = -1 := by omega
  rw [e1] at hit
  exact wpAny_pyNext_rev_end (I.ok.hd hc) hit fun h' eb => ⟨rfl,I.turned (t' := s.toks) (fun b o hb e => eb b o hb e) f0 f1 f3 f4 f5⟩
 self := fun A i s Q E st h => wpAny_pyIter_revIter st.2 h
def iRev (K : PySem.W.Frag) (ta : TA) : TI := fun σ H R => ta σ H fun vs H1 => ∃ (a : Addr) (xs : List V),vs = [.ref a] ∧ SqL K H1 a xs ∧ R (Itv K a xs.length) H1
section
variable {X : Cx} {tg : Expr}
theorem pi_reversed {e : Expr} {ta : TA} {p pos : Pos} (hg : Gl X "reversed") (hm : X.mg "reversed" = none) (ha : PA X [e] ta) (hs : starEach [e] X.env = [(false,eval e X.env)] := by rfl) : PI X tg (.Call (.Name "reversed" p) [e] [] pos) (iRev X.K ta) := by
 intro pins s σ H R I h
 refine Call_ (ld_blt I hg hm boot_reversed5 (PyProof.Rows.callWith_type1 (thn (ha pos pins s σ H _ I h) fun us s1 ⟨vs,H1,I1,r1,q1⟩ => ?_) hs rfl))
 obtain ⟨a,xs,e,hq,q⟩ := q1
 subst e
 cases r1 with
 | cons r rr =>
  cases rr
  cases r
  obtain ⟨its,rv,p',hz⟩ := I1.list hq
  have hl := rv.length
  have e1 : ((its.toArray.size : Nat) : Int) - 1 = (xs.length : Int) - 1 - ((0 : Nat) : Int) := by simp only [List.size_toArray]; omega
  refine call_reversed_list p'.isList (wpAny_pyIter_revIter (l := a) (i := ((its.toArray.size : Nat) : Int) - 1) ⟨_,Heap.get?_push_size _ rfl,rfl,rfl⟩ ?_)
  refine pi_one (tk := s1.toks) I1 _ (turn_rev a _ xs.length) ⟨Nat.zero_le _,?_⟩ q
  rw [← e1]
  exact ⟨_,Heap.get?_push_size _ rfl,rfl,rfl⟩
end
section
variable {prog : Program} {w : World} {A : Around} {E : Value → Shared → Prop} {s : Shared}
end
section
variable {X : Cx} {pins : List (Addr × Obj)} {σ : St} {H : Hp} {s : Shared} {d : Addr} {o : Obj}
end
section
variable {P : Program} {w : World} {K : PySem.W.Frag} {tg : Expr} {d : Addr} {o : Obj} {es : Array DictEntry} {ep : Nat}
end
section
variable {X : Cx} {tg e : Expr} {td : TE} {apos cpos : Pos}
end
end L2
section 
namespace Bits
open PySem PyProof.Rows
end Bits
end 
section 
namespace TL
open PySem PySem.Builtin PySem.Builtin.Str PySem.StrLaws
def pre (S l : List Nat) : Bool := l.take S.length == S
def par (S : List Nat) : List Nat → List Nat → Option (List Nat × List Nat)
 | _,[] => none
 | acc,c :: r => if pre S (c :: r) = true then some (acc,(c :: r).drop S.length) else par S (acc ++ [c]) r
end TL
end 
namespace L2
open PySem PySem.Spec PyProof.Rows
section
variable {X : Cx} {pins : List (Addr × Obj)} {σ : St} {H : Hp} {s : Shared} {Q : VK}
end
section
variable {X : Cx}
end
section
variable {X : Cx} {o e : Expr} {to te : TE}
end
end L2
namespace L2
open PySem PySem.Spec PyProof.Rows
section
variable {X : Cx}
end
end L2
namespace Att
open PySem PySem.W PySem.Calls PyProof.Rows
section
variable {prog : Program} {w : World} {A : Around} {E : Value → Shared → Prop} {s : Shared} {K : Frag}
end
end Att
namespace L2
open PySem PySem.Spec PyProof.Rows
end L2
namespace L2
open PySem PySem.Spec PyProof.Rows
end L2
namespace L2
open PySem PySem.Spec PyProof.Rows
def inClass (s : Stmt) (j : Nat) : Stmt := match s with
 | .ClassDef _ _ _ body _ _ _ _ _ _ _ => body.getD j (.Pass ⟨0,0,0,0⟩)
 | _ => .Pass ⟨0,0,0,0⟩
def defArgs (s : Stmt) : Arguments := match s with
 | .FunctionDef _ a _ _ _ _ _ _ _ _ => a
 | _ => { posonlyargs := [],args := [],vararg := none,kwonlyargs := [],kw_defaults := [],kwarg := none,defaults := [] }
def defBody (s : Stmt) : List Stmt := match s with
 | .FunctionDef _ _ b _ _ _ _ _ _ _ => b
 | _ => []
def defScope (s : Stmt) : Scope := match s with
 | .FunctionDef _ _ _ _ _ _ sc _ _ _ => sc
 | _ => { kind := .function,names := [],isGenerator := false,isCoroutine := false }
abbrev CX0 : CXT := fun _ _ _ _ _ _ => False
abbrev E0 : XK := fun _ _ _ => False
theorem pass0 {X : Cx} : Passes CX0 X E0 := fun _ _ _ _ _ _ _ h => h.elim
structure Fun (K : PySem.W.Frag) (x qual : Str) (st : Stmt) (f : Addr) (fd : FuncData) : Prop where
 ex : ∃ (oc : Value) (od : Option Addr) (kV doc pm : Value) (an : Option Addr) (cdv ct : Value) (osl : Array (Option Value)),
  fd = PySem.W.fnOf x qual (defArgs st) (defBody st) (defScope st) .none kV doc pm an cdv ct ∧ K.lookup f = some ⟨oc,od,.func fd,osl⟩ ∧ PySem.W.codeIn K cdv qual = true
 kp : PySem.W.keepIn K (.ref f) = true
section
variable {P : Program} {w : World} {K : PySem.W.Frag} {mg : Str → Option Value} {base : Heap}
theorem Fun.ok {x qual : Str} {st : Stmt} {f : Addr} {fd : FuncData} {N ps : List Str} {k : Nat} {sp : Sp} (F : Fun K x qual st f fd) (S : FnScope N ps (defScope st)) (len : ∀ vs H Q E,sp vs H Q E → vs.length = ps.length)
  (hbody : ∀ (cdv : Value) (A : Around) (outer : List Env) (s : Shared) (H : Hp) (vs : List V) (Q : VK) (E : XK),Room k (A.deeper (envOfC qual (defScope st) s.heap.objs.size f cdv)) → sp vs H Q E →
   ∃ t,PSs (cxOf CX0 P w K mg base N qual (defScope st) f cdv A outer s H E).nox (defBody st) t ∧ t { nx := fun _ H' => Q .non H',rt := Q } (start N vs) H) : FnOk P w K mg base CX0 (k + 1) f fd ps sp := by
 obtain ⟨oc,od,kV,doc,pm,an,cdv,ct,osl,rfl,lk,hcd⟩ := F.ex
 refine fn_of lk hcd S len fun A outer s H vs Q E hr hsp => ?_
 obtain ⟨t,h,q⟩ := hbody cdv A outer s H vs Q E hr hsp
 exact ⟨t,h.nox,q⟩
theorem Fun.binds {x qual : Str} {st : Stmt} {f : Addr} {fd : FuncData} {ps : List Str} (F : Fun K x qual st f fd)
  (h : ∀ (kV doc pm : Value) (an : Option Addr) (cdv ct : Value) (us : List Value),us.length = ps.length → bindArgs (PySem.W.fnOf x qual (defArgs st) (defBody st) (defScope st) .none kV doc pm an cdv ct) ⟨us,[]⟩ = pure (ps.zip us)) : Binds K fd ps [] := by
 obtain ⟨oc,od,kV,doc,pm,an,cdv,ct,osl,rfl,lk,hcd⟩ := F.ex
 exact .all (h kV doc pm an cdv ct)
theorem fun_mk {x qual : Str} {st : Stmt} {f : Addr} {oc : Value} {od an : Option Addr} {osl : Array (Option Value)} {kV doc pm cdv ct : Value} (l : K.lookup f = some ⟨oc,od,.func (PySem.W.fnOf x qual (defArgs st) (defBody st) (defScope st) .none kV doc pm an cdv ct),osl⟩)
  (c : PySem.W.codeIn K cdv qual = true) (k : PySem.W.keepIn K (.ref f) = true) : Fun K x qual st f (PySem.W.fnOf x qual (defArgs st) (defBody st) (defScope st) .none kV doc pm an cdv ct) := ⟨⟨oc,od,kV,doc,pm,an,cdv,ct,osl,rfl,l,c⟩,k⟩
end
section
variable {X : Cx}
theorem pv (i : Nat) {x : Str} {pos : Pos} (hN : X.N[i]? = some x := by rfl) (hv : Vis X.env.scope x := by first | exact Or.inl rfl | exact Or.inr (Or.inl rfl) | exact Or.inr (Or.inr rfl)) (hd : (x == ("__debug__" : Str)) = false := by decide)
  (hcd : (x == ("__classdict__" : Str)) = false := by decide) : PE X (.Name x pos) (tVar i) := pe_var hN hv hd hcd
end
def Same (H H' : Hp) : Prop := ∀ b o,H b = some o → H' b = some o
theorem Same.refl (H : Hp) : Same H H := fun _ _ h => h
theorem Same.trans {H H1 H2 : Hp} (a : Same H H1) (b : Same H1 H2) : Same H H2 := fun c o h => b c o (a c o h)
theorem Same.free {H H' : Hp} (e : Same H H') {l : Addr} (h : H' l = Option.none) : H l = Option.none := by
 cases q : H l with
 | none => rfl
 | some o =>
  rw [e l o q] at h
  cases h
theorem Same.seq {K : PySem.W.Frag} {H H' : Hp} {a : Addr} {xs : List V} (e : Same H H') (h : SqL K H a xs) : SqL K H' a xs := by
 rcases h with (h | ⟨o,h⟩) | h
 ·exact .inl (.inl (e _ _ h))
 ·exact .inl (.inr ⟨o,e _ _ h⟩)
 ·exact .inr h
section
variable {κ : Type} [DecidableEq κ]
end
theorem at_of {xs : List V} {z : Int} {j : Nat} {v : V} (e : z = (j : Int)) (h : xs[j]? = some v) : atI xs z = some v := by
 rw [e]
 exact atI_nat h
theorem Same.made {H H1 : Hp} {x dx C : Addr} (nx : H x = Option.none) (nd : H dx = Option.none) (k : ∀ b o,(upd (upd H dx (.own x)) x (.ins C dx [])) b = some o → b ≠ x → H1 b = some o) : Same H H1 := fun b o e =>
 k b o (by rw [upd_ne (ne_of_none e nx),upd_ne (ne_of_none e nd)]; exact e) (ne_of_none e nx)
end L2
end
section
section
namespace L2
open PySem PySem.Spec PyProof.Rows
open PySem.W (WData Codec OpenSpec Well WellAll ReadsW ReadsAllW)
mutual
inductive Dw (K : PySem.W.Frag) (H : Hp) : V → WData → Prop
 | non : Dw K H .non .none
 | bl (b : Bool) : Dw K H (.bl b) (.bool b)
 | int (i : Int) : Dw K H (.int i) (.int i)
 | str (x : Str) : Dw K H (.str x) (.str x)
 | byt (b : Array UInt8) : Dw K H (.byt b) (.bytes b.toList)
 | lst {a : Addr} {xs : List V} {ds : List WData} : SqL K H a xs → DwAll K H xs ds → Dw K H (.ref a) (.list ds)
 | tup {a : Addr} {xs : List V} {ds : List WData} : SqT K H a xs → DwAll K H xs ds → Dw K H (.ref a) (.tuple ds)
inductive DwAll (K : PySem.W.Frag) (H : Hp) : List V → List WData → Prop
 | nil : DwAll K H [] []
 | cons {v : V} {vs : List V} {d : WData} {ds : List WData} : Dw K H v d → DwAll K H vs ds → DwAll K H (v :: vs) (d :: ds)
end
theorem dw_ints {K : PySem.W.Frag} {H : Hp} : ∀ ns : List Int,DwAll K H (ns.map V.int) (ns.map WData.int)
 | [] => .nil
 | n :: r => .cons (.int n) (dw_ints r)
theorem ints_dw {K : PySem.W.Frag} {H : Hp} : ∀ (ns : List Int) (xs : List V),DwAll K H xs (ns.map WData.int) → xs = ns.map V.int
 | [],xs,h => by
  cases h
  rfl
 | n :: r,xs,h => by
  cases h with
  | cons h1 h2 =>
   cases h1
   rw [ints_dw r _ h2] <;> rfl
section
variable {P : Program} {w : World} {K : PySem.W.Frag} {H : Hp} {h : Heap} {R : PySem.W.WRecords} {cl : Str → Option Addr}
theorem sqL_at {a : Addr} {xs : List V} (hok : HOk P w H h) (KX : K.In h) (q : SqL K H a xs) : ∃ (its : List Value) (o : Obj) (n : Nat),Vals xs its ∧ h.get? a = some o ∧ o.cls = .type "list" ∧ o.data = .seq its.toArray n := by
 rcases q with q | ⟨o,its,n,e,hc,_,hd,_,hv⟩
 ·obtain ⟨_,its,n,hv,e⟩ := (show ObjOk P w H h a (.lst xs) from q.ok hok)
  exact ⟨its,_,n,hv,e,rfl,rfl⟩
 ·exact ⟨its.toList,o,n,hv,KX _ _ e,hc,by simp [hd]⟩
theorem sqT_at {a : Addr} {xs : List V} (hok : HOk P w H h) (KX : K.In h) (q : SqT K H a xs) : ∃ (its : List Value) (o : Obj) (n : Nat),Vals xs its ∧ h.get? a = some o ∧ o.cls = .type "tuple" ∧ o.data = .seq its.toArray n := by
 rcases q with q | ⟨o,its,n,e,hc,hd,_,hv⟩
 ·obtain ⟨_,its,hv,o,e,hc,n,hd⟩ := (show ObjOk P w H h a (.tup xs) from q.ok hok)
  exact ⟨its,o,n,hv,e,hc,hd⟩
 ·exact ⟨its.toList,o,n,hv,KX _ _ e,hc,by simp [hd]⟩
mutual
theorem Dw.reads (hok : HOk P w H h) (KX : K.In h) : ∀ (d : WData) (v : V) (u : Value),Dw K H v d → RelV v u → ∃ as,ReadsW R cl h u d as
 | .none,_,_,x,r => by
  cases x
  cases r
  exact ⟨_,ReadsW.none⟩
 | .bool b,_,_,x,r => by
  cases x
  cases r
  exact ⟨_,ReadsW.bool b⟩
 | .int i,_,_,x,r => by
  cases x
  obtain ⟨t,rfl⟩ := r
  exact ⟨_,ReadsW.int i t⟩
 | .str s,_,_,x,r => by
  cases x
  obtain ⟨t,rfl⟩ := r
  exact ⟨_,ReadsW.str s t⟩
 | .bytes b,_,_,x,r => by
  cases x
  obtain ⟨t,rfl⟩ := r
  exact ⟨_,ReadsW.bytes _ t⟩
 | .list ds,_,_,x,r => by
  cases x with
  | lst hs ha =>
   cases r
   obtain ⟨its,o,n,rv,ho,hc,hd⟩ := sqL_at hok KX hs
   obtain ⟨as,hr⟩ := Dw.readsAll hok KX ds _ its ha rv
   exact ⟨_,ReadsW.list ho hc hd hr⟩
 | .tuple ds,_,_,x,r => by
  cases x with
  | tup hs ha =>
   cases r
   obtain ⟨its,o,n,rv,ho,hc,hd⟩ := sqT_at hok KX hs
   obtain ⟨as,hr⟩ := Dw.readsAll hok KX ds _ its ha rv
   exact ⟨_,ReadsW.tuple ho hc hd hr⟩
 | .float _,_,_,x,_ => by cases x
 | .dict _,_,_,x,_ => by cases x
 | .bytearray _,_,_,x,_ => by cases x
 | .set _,_,_,x,_ => by cases x
 | .frozenset _,_,_,x,_ => by cases x
 | .obj _ _,_,_,x,_ => by cases x
theorem Dw.readsAll (hok : HOk P w H h) (KX : K.In h) : ∀ (ds : List WData) (vs : List V) (us : List Value),DwAll K H vs ds → Vals vs us → ∃ as,ReadsAllW R cl h us ds as
 | [],_,_,x,r => by
  cases x
  cases r
  exact ⟨_,ReadsAllW.nil⟩
 | d :: ds,_,_,x,r => by
  cases x with
  | cons h1 h2 =>
   cases r with
   | cons r1 r2 =>
    obtain ⟨as,q1⟩ := Dw.reads hok KX d _ _ h1 r1
    obtain ⟨bs,q2⟩ := Dw.readsAll hok KX ds _ _ h2 r2
    exact ⟨_,ReadsAllW.cons q1 q2⟩
end
end
mutual
def plW : WData → Bool
 | .none => true
 | .bool _ => true
 | .int _ => true
 | .str _ => true
 | .bytes _ => true
 | .list xs => plWs xs
 | .tuple xs => plWs xs
 | _ => false
def plWs : List WData → Bool
 | [] => true
 | x :: r => plW x && plWs r
end
theorem plWs_map {α : Type} {f : α → WData} (h : ∀ a,plW (f a) = true) : ∀ l : List α,plWs (l.map f) = true
 | [] => rfl
 | x :: r => by
  show (plW (f x) && plWs (r.map f)) = true
  rw [h x,plWs_map h r] <;> rfl
theorem pl_enc : ∀ (c : Codec) (a : c.denote),plW (c.enc a) = true
 | .unit,_ => rfl
 | .bool,_ => rfl
 | .int _ _,_ => rfl
 | .nat _ _,_ => rfl
 | .u8,_ => rfl
 | .bytes _ _,_ => rfl
 | .text _ _ _ _,_ => rfl
 | .list _ _ c,a => plWs_map (fun x => pl_enc c x) a
 | .pair c d,a => by
  show (plW (c.enc a.1) && (plW (d.enc a.2) && true)) = true
  rw [pl_enc c a.1,pl_enc d a.2] <;> rfl
 | .triple c d e,a => by
  show (plW (c.enc a.1) && (plW (d.enc a.2.1) && (plW (e.enc a.2.2) && true))) = true
  rw [pl_enc c a.1,pl_enc d a.2.1,pl_enc e a.2.2] <;> rfl
 | .option c,none => rfl
 | .option c,some x => pl_enc c x
theorem pl_encAll : ∀ (cs : List Codec) (a : Codec.denoteAll cs),plWs (Codec.encAll cs a) = true
 | [],_ => rfl
 | c :: cs,a => by
  show (plW (c.enc a.1) && plWs (Codec.encAll cs a.2)) = true
  rw [pl_enc c a.1,pl_encAll cs a.2] <;> rfl
theorem weight_mem : ∀ {xs : List WData} {d : WData},d ∈ xs → d.weight ≤ WData.weightAll xs
 | [],d,h => absurd h (by simp)
 | x :: r,d,h => by
  show d.weight ≤ x.weight + 1 + WData.weightAll r
  rcases List.mem_cons.mp h with e | m
  ·rw [e]
   omega
  ·have z := weight_mem m
   omega
def toV : Value → V
 | .none => .non
 | .bool b => .bl b
 | .int i _ => .int i
 | .str x _ => .str x
 | .bytes b _ => .byt b
 | .ref a => .ref a
 | _ => .non
def OkU (A : List Addr) : Value → Prop
 | .none => True
 | .bool _ => True
 | .int _ _ => True
 | .str _ _ => True
 | .bytes _ _ => True
 | .ref a => a ∈ A
 | _ => False
theorem OkU.mono {A B : List Addr} (h : ∀ a ∈ A,a ∈ B) : ∀ {u : Value},OkU A u → OkU B u := fun {u} x => by
 cases u with
 | ref a => exact h a x
 | none => trivial
 | bool b => trivial
 | int i t => trivial
 | str s t => trivial
 | bytes b t => trivial
 | _ => exact False.elim x
theorem relV_toV {A : List Addr} {u : Value} (x : OkU A u) : RelV (toV u) u := by
 cases u with
 | ref a => rfl
 | none => rfl
 | bool b => rfl
 | int i t => exact ⟨t,rfl⟩
 | str s t => exact ⟨t,rfl⟩
 | bytes b t => exact ⟨t,rfl⟩
 | _ => exact False.elim x
theorem vals_toV {A : List Addr} : ∀ {vs : List Value},(∀ u ∈ vs,OkU A u) → Vals (vs.map toV) vs
 | [],_ => .nil
 | u :: r,h => .cons (relV_toV (h u (List.mem_cons_self ..))) (vals_toV fun x hx => h x (List.mem_cons_of_mem _ hx))
def ArgOb (h : Heap) (A : List Addr) (a : Addr) : Prop := ∃ vs : List Value,vs.length ≤ sizeLine ∧ (∀ u ∈ vs,OkU A u) ∧
 (h.get? a = some { cls := .type "list",data := .seq vs.toArray } ∨ h.get? a = some { cls := .type "tuple",data := .seq vs.toArray })
theorem ArgOb.mono {h : Heap} {A B : List Addr} {a : Addr} (k : ∀ a ∈ A,a ∈ B) (x : ArgOb h A a) : ArgOb h B a := by
 obtain ⟨vs,h1,h2,h3⟩ := x
 exact ⟨vs,h1,fun u hu => (h2 u hu).mono k,h3⟩
theorem wellAll_len {P : Params} {h : Heap} : ∀ {vs : List Value} {ds : List WData},WellAll P h vs ds → vs.length = ds.length
 | _,_,.nil => rfl
 | _,_,.cons _ b => by
  show _ + 1 = _ + 1
  rw [wellAll_len b]
theorem well_list {P : Params} {h : Heap} {v : Value} {ds : List WData} (x : Well P h v (.list ds)) : ∃ (a : Addr) (vs : List Value),v = .ref a ∧ h.get? a = some { cls := .type "list",data := .seq vs.toArray } ∧ WellAll P h vs ds := by
 cases x with
 | list ho hall => exact ⟨_,_,rfl,ho,hall⟩
theorem well_tuple {P : Params} {h : Heap} {v : Value} {ds : List WData} (x : Well P h v (.tuple ds)) : ∃ (a : Addr) (vs : List Value),v = .ref a ∧ h.get? a = some { cls := .type "tuple",data := .seq vs.toArray } ∧ WellAll P h vs ds := by
 cases x with
 | tuple ho hall => exact ⟨_,_,rfl,ho,hall⟩
theorem well_cons {P : Params} {h : Heap} {us : List Value} {d : WData} {ds : List WData} (x : WellAll P h us (d :: ds)) : ∃ (v : Value) (vs : List Value),us = v :: vs ∧ Well P h v d ∧ WellAll P h vs ds := by
 cases x with
 | cons a b => exact ⟨_,_,rfl,a,b⟩
theorem line_of {n : Nat} (h : n ≤ 1048576) : n ≤ sizeLine := Nat.le_trans h (by decide)
section
variable {P : Params} {h : Heap}
mutual
theorem area_one : ∀ (d : WData) (v : Value),Well P h v d → plW d = true → d.weight ≤ 1048576 → ∃ A : List Addr,OkU A v ∧ ∀ a ∈ A,ArgOb h A a
 | .none,_,x,_,_ => by
  cases x
  exact ⟨[],trivial,fun a m => absurd m (by simp)⟩
 | .bool b,_,x,_,_ => by
  cases x
  exact ⟨[],trivial,fun a m => absurd m (by simp)⟩
 | .int i,_,x,_,_ => by
  cases x
  exact ⟨[],trivial,fun a m => absurd m (by simp)⟩
 | .str s,_,x,_,_ => by
  cases x
  exact ⟨[],trivial,fun a m => absurd m (by simp)⟩
 | .bytes b,_,x,_,_ => by
  cases x
  exact ⟨[],trivial,fun a m => absurd m (by simp)⟩
 | .list ds,_,x,p,z => by
  obtain ⟨a,vs,rfl,ho,hall⟩ := well_list x
  have z2 : WData.weightAll ds ≤ 1048576 := z
  obtain ⟨A,h1,h2⟩ := area_all ds _ hall p fun d hd => Nat.le_trans (weight_mem hd) z2
  have k : ∀ b ∈ A,b ∈ a :: A := fun b hb => List.mem_cons_of_mem _ hb
  refine ⟨a :: A,List.mem_cons_self ..,fun b hb => ?_⟩
  rcases List.mem_cons.mp hb with e | m
  ·rw [e]
   exact ⟨vs,line_of (by rw [wellAll_len hall]; exact Nat.le_trans (PySem.W.length_le_weightAllW ds) z2),fun u hu => (h1 u hu).mono k,.inl ho⟩
  ·exact (h2 b m).mono k
 | .tuple ds,_,x,p,z => by
  obtain ⟨a,vs,rfl,ho,hall⟩ := well_tuple x
  have z2 : WData.weightAll ds ≤ 1048576 := z
  obtain ⟨A,h1,h2⟩ := area_all ds _ hall p fun d hd => Nat.le_trans (weight_mem hd) z2
  have k : ∀ b ∈ A,b ∈ a :: A := fun b hb => List.mem_cons_of_mem _ hb
  refine ⟨a :: A,List.mem_cons_self ..,fun b hb => ?_⟩
  rcases List.mem_cons.mp hb with e | m
  ·rw [e]
   exact ⟨vs,line_of (by rw [wellAll_len hall]; exact Nat.le_trans (PySem.W.length_le_weightAllW ds) z2),fun u hu => (h1 u hu).mono k,.inr ho⟩
  ·exact (h2 b m).mono k
 | .float _,_,_,p,_ => Bool.noConfusion (show false = true from p)
 | .dict _,_,_,p,_ => Bool.noConfusion (show false = true from p)
 | .bytearray _,_,_,p,_ => Bool.noConfusion (show false = true from p)
 | .set _,_,_,p,_ => Bool.noConfusion (show false = true from p)
 | .frozenset _,_,_,p,_ => Bool.noConfusion (show false = true from p)
 | .obj _ _,_,_,p,_ => Bool.noConfusion (show false = true from p)
theorem area_all : ∀ (ds : List WData) (vs : List Value),WellAll P h vs ds → plWs ds = true → (∀ d ∈ ds,d.weight ≤ 1048576) → ∃ A : List Addr,(∀ u ∈ vs,OkU A u) ∧ ∀ a ∈ A,ArgOb h A a
 | [],_,x,_,_ => by
  cases x
  exact ⟨[],fun u m => absurd m (by simp),fun a m => absurd m (by simp)⟩
 | d :: ds,_,x,p,z => by
  obtain ⟨v,vs,rfl,x1,x2⟩ := well_cons x
  have q : plW d = true ∧ plWs ds = true := Bool.and_eq_true_iff.mp p
  obtain ⟨A,a1,a2⟩ := area_one d v x1 q.1 (z d (List.mem_cons_self ..))
  obtain ⟨B,b1,b2⟩ := area_all ds vs x2 q.2 fun e he => z e (List.mem_cons_of_mem _ he)
  have kA : ∀ b ∈ A,b ∈ A ++ B := fun b hb => List.mem_append.mpr (.inl hb)
  have kB : ∀ b ∈ B,b ∈ A ++ B := fun b hb => List.mem_append.mpr (.inr hb)
  refine ⟨A ++ B,fun u hu => ?_,fun b hb => ?_⟩
  ·rcases List.mem_cons.mp hu with e | m
   ·rw [e]
    exact a1.mono kA
   ·exact (b1 u m).mono kB
  ·rcases List.mem_append.mp hb with m | m
   ·exact (a2 b m).mono kA
   ·exact (b2 b m).mono kB
end
end
def hoOf (o : Obj) : Option HO := match o.data with
 | .seq vs _ => if (o.cls == Value.type "list") = true then some (.frz o (.lst (vs.toList.map toV))) else some (.frz o (.tup (vs.toList.map toV)))
 | _ => none
def argH (K : PySem.W.Frag) (h : Heap) (A : List Addr) : Hp := fun b => if b ∈ A then (if (K.lookup b).isNone = true then (h.get? b).bind hoOf else none) else none
def OnlyF (H : Hp) : Prop := ∀ b,H b = none ∨ ∃ o u,H b = some (.frz o u)
theorem hoOf_lst (vs : List Value) : hoOf { cls := .type "list",data := .seq vs.toArray } = some (.frz { cls := .type "list",data := .seq vs.toArray } (.lst (vs.map toV))) := by
 show (if (Value.type "list" == Value.type "list") = true then some (HO.frz { cls := .type "list",data := .seq vs.toArray } (.lst (vs.toArray.toList.map toV))) else some (HO.frz { cls := .type "list",data := .seq vs.toArray } (.tup (vs.toArray.toList.map toV)))) = _
 rw [if_pos (beq_self_eq_true _)]
theorem hoOf_tup (vs : List Value) : hoOf { cls := .type "tuple",data := .seq vs.toArray } = some (.frz { cls := .type "tuple",data := .seq vs.toArray } (.tup (vs.map toV))) := by
 show (if (Value.type "tuple" == Value.type "list") = true then some (HO.frz { cls := .type "tuple",data := .seq vs.toArray } (.lst (vs.toArray.toList.map toV))) else some (HO.frz { cls := .type "tuple",data := .seq vs.toArray } (.tup (vs.toArray.toList.map toV)))) = _
 rw [if_neg (by decide)]
section
variable {P : Program} {w : World} {K : PySem.W.Frag} {h : Heap} {A : List Addr}
theorem argH_at {b : Addr} {o : Obj} (hb : b ∈ A) (hk : K.lookup b = none) (e : h.get? b = some o) : argH K h A b = hoOf o := by
 unfold argH
 rw [if_pos hb,hk,if_pos (show (none : Option Obj).isNone = true from rfl),e] <;> rfl
theorem of_argH {b : Addr} {u : HO} (q : argH K h A b = some u) : b ∈ A ∧ K.lookup b = none := by
 unfold argH at q
 by_cases hb : b ∈ A
 ·rw [if_pos hb] at q
  cases hk : K.lookup b with
  | none => exact ⟨hb,rfl⟩
  | some o =>
   rw [hk,if_neg (by simp)] at q
   cases q
 ·rw [if_neg hb] at q
  cases q
theorem argH_is (ar : ∀ a ∈ A,ArgOb h A a) {b : Addr} {u : HO} (q : argH K h A b = some u) : K.lookup b = none ∧ ∃ vs : List Value,vs.length ≤ sizeLine ∧ (∀ u ∈ vs,OkU A u) ∧
  ((h.get? b = some { cls := .type "list",data := .seq vs.toArray } ∧ u = .frz { cls := .type "list",data := .seq vs.toArray } (.lst (vs.map toV))) ∨
    (h.get? b = some { cls := .type "tuple",data := .seq vs.toArray } ∧ u = .frz { cls := .type "tuple",data := .seq vs.toArray } (.tup (vs.map toV)))) := by
 obtain ⟨hb,hk⟩ := of_argH q
 obtain ⟨vs,h1,h2,h3⟩ := ar b hb
 refine ⟨hk,vs,h1,h2,?_⟩
 rcases h3 with e | e
 ·rw [argH_at hb hk e,hoOf_lst] at q
  exact .inl ⟨e,(Option.some.inj q).symm⟩
 ·rw [argH_at hb hk e,hoOf_tup] at q
  exact .inr ⟨e,(Option.some.inj q).symm⟩
theorem argH_only (ar : ∀ a ∈ A,ArgOb h A a) : OnlyF (argH K h A) := fun b => by
 cases q : argH K h A b with
 | none => exact .inl rfl
 | some u =>
  obtain ⟨_,vs,_,_,⟨_,e⟩ | ⟨_,e⟩⟩ := argH_is ar q
  ·exact .inr ⟨_,_,by rw [e]⟩
  ·exact .inr ⟨_,_,by rw [e]⟩
theorem argH_ok (ar : ∀ a ∈ A,ArgOb h A a) : HOk P w (argH K h A) h := fun b u q => by
 obtain ⟨_,vs,h1,h2,⟨e,rfl⟩ | ⟨e,rfl⟩⟩ := argH_is ar q
 ·exact ⟨e,by rw [List.length_map]; exact h1,vs,_,vals_toV h2,e⟩
 ·exact ⟨e,by rw [List.length_map]; exact h1,vs,vals_toV h2,_,e,rfl,_,rfl⟩
theorem seq_inj {c c' : Value} {vs us : List Value} (e : (some { cls := c,data := .seq vs.toArray } : Option Obj) = some { cls := c',data := .seq us.toArray }) : c = c' ∧ vs = us := by
 have e1 := Option.some.inj e
 have e2 : c = c' := congrArg Obj.cls e1
 have e3 : Data.seq vs.toArray = Data.seq us.toArray := congrArg Obj.data e1
 injection e3 with e4
 refine ⟨e2,?_⟩
 have e5 := congrArg Array.toList e4
 simpa using e5
theorem argL (KX : K.In h) (ar : ∀ a ∈ A,ArgOb h A a) {a : Addr} {vs : List Value} (ha : a ∈ A) (e : h.get? a = some { cls := .type "list",data := .seq vs.toArray }) : (∀ u ∈ vs,OkU A u) ∧ SqL K (argH K h A) a (vs.map toV) := by
 obtain ⟨us,h1,h2,h3⟩ := ar a ha
 have hu : us = vs := by
  rcases h3 with q | q
  ·rw [e] at q
   exact (seq_inj q).2.symm
  ·rw [e] at q
   exact absurd (Value.type.inj (seq_inj q).1) (by decide)
 subst hu
 refine ⟨h2,?_⟩
 cases hk : K.lookup a with
 | none => exact .inl (.inr ⟨_,by rw [argH_at ha hk e,hoOf_lst]⟩)
 | some o =>
  have e2 := KX a o hk
  rw [e] at e2
  obtain rfl := Option.some.inj e2
  exact .inr ⟨_,us.toArray,_,hk,rfl,rfl,rfl,by rw [List.size_toArray]; exact h1,by simpa using vals_toV h2⟩
theorem argT (KX : K.In h) (ar : ∀ a ∈ A,ArgOb h A a) {a : Addr} {vs : List Value} (ha : a ∈ A) (e : h.get? a = some { cls := .type "tuple",data := .seq vs.toArray }) : (∀ u ∈ vs,OkU A u) ∧ SqT K (argH K h A) a (vs.map toV) := by
 obtain ⟨us,h1,h2,h3⟩ := ar a ha
 have hu : us = vs := by
  rcases h3 with q | q
  ·rw [e] at q
   exact absurd (Value.type.inj (seq_inj q).1) (by decide)
  ·rw [e] at q
   exact (seq_inj q).2.symm
 subst hu
 refine ⟨h2,?_⟩
 cases hk : K.lookup a with
 | none => exact .inl (.inr ⟨_,by rw [argH_at ha hk e,hoOf_tup]⟩)
 | some o =>
  have e2 := KX a o hk
  rw [e] at e2
  obtain rfl := Option.some.inj e2
  exact .inr ⟨_,us.toArray,_,hk,rfl,rfl,by rw [List.size_toArray]; exact h1,by simpa using vals_toV h2⟩
mutual
theorem dw_one {Pm : Params} (KX : K.In h) (ar : ∀ a ∈ A,ArgOb h A a) : ∀ (d : WData) (v : Value),Well Pm h v d → plW d = true → OkU A v → Dw K (argH K h A) (toV v) d
 | .none,_,x,_,_ => by
  cases x
  exact .non
 | .bool b,_,x,_,_ => by
  cases x
  exact .bl b
 | .int i,_,x,_,_ => by
  cases x
  exact .int i
 | .str s,_,x,_,_ => by
  cases x
  exact .str s
 | .bytes b,_,x,_,_ => by
  cases x
  have z := Dw.byt (K := K) (H := argH K h A) b.toArray
  exact z
 | .list ds,_,x,p,hu => by
  obtain ⟨a,vs,rfl,ho,hall⟩ := well_list x
  obtain ⟨h2,hs⟩ := argL KX ar hu ho
  exact .lst hs (dw_all KX ar ds _ hall p h2)
 | .tuple ds,_,x,p,hu => by
  obtain ⟨a,vs,rfl,ho,hall⟩ := well_tuple x
  obtain ⟨h2,hs⟩ := argT KX ar hu ho
  exact .tup hs (dw_all KX ar ds _ hall p h2)
 | .float _,_,_,p,_ => Bool.noConfusion (show false = true from p)
 | .dict _,_,_,p,_ => Bool.noConfusion (show false = true from p)
 | .bytearray _,_,_,p,_ => Bool.noConfusion (show false = true from p)
 | .set _,_,_,p,_ => Bool.noConfusion (show false = true from p)
 | .frozenset _,_,_,p,_ => Bool.noConfusion (show false = true from p)
 | .obj _ _,_,_,p,_ => Bool.noConfusion (show false = true from p)
theorem dw_all {Pm : Params} (KX : K.In h) (ar : ∀ a ∈ A,ArgOb h A a) : ∀ (ds : List WData) (vs : List Value),WellAll Pm h vs ds → plWs ds = true → (∀ u ∈ vs,OkU A u) → DwAll K (argH K h A) (vs.map toV) ds
 | [],_,x,_,_ => by
  cases x
  exact .nil
 | d :: ds,_,x,p,hu => by
  obtain ⟨v,vs,rfl,x1,x2⟩ := well_cons x
  have q : plW d = true ∧ plWs ds = true := Bool.and_eq_true_iff.mp p
  exact .cons (dw_one KX ar d v x1 q.1 (hu _ (List.mem_cons_self ..))) (dw_all KX ar ds vs x2 q.2 fun u m => hu u (List.mem_cons_of_mem _ m))
end
end
theorem spec_call {P : Program} {w : World} {K : PySem.W.Frag} {mg mb : Str → Option Value} {CX : CXT} {k : Nat} {fa : Addr} {fd : FuncData} {ps : List Str} {sp : Sp} {s₁ : Shared} {vals : List Value} {ds : List WData} {R : PySem.W.WRecords} {cl : Str → Option Addr} {d0 : WData}
  (KX : K.In s₁.heap) (hns : s₁.heap.Ns mainGlobals mg) (hb : s₁.heap.Ns builtinsNs mb) (hbb : ∀ x : Str,x ≠ "__name__" → mb x = bootBuiltins x) (hlim : s₁.heap.NoLimit) (hg : s₁.gens = #[])
  (hwl : WellAll w.params s₁.heap vals ds) (hpl : plWs ds = true) (hwt : ∀ d ∈ ds,d.weight ≤ 1048576) (hr : Room k callerA)
  (F : ∀ base : Heap,K.In base → base.Ns mainGlobals mg → FnOk P w K mg base CX k fa fd ps sp) (hbind : ∀ (s : Shared) (us : List Value),us.length = ps.length → BindsTo s fd ⟨us,[]⟩ (ps.zip us)) (hlen : ds.length = ps.length)
  (hsp : ∀ (H : Hp) (xs : List V),OnlyF H → DwAll K H xs ds → sp xs H (fun v H' => Dw K H' v d0) fun _ _ _ => False)
  (hCX : ∀ H e s',CX [] H s₁ (fun _ _ _ => False) e s' → False) :
  codeAny (model P w) callerA (.call (.ref fa) ⟨vals,[]⟩) (fun r s' => ∃ u as,r = .ok (.ret u) ∧ ReadsW R cl s'.heap u d0 as ∧ OldK s₁.heap s'.heap ∧ s'.os = s₁.os ∧ AllBare s'.gens) s₁ := by
 obtain ⟨A,ho,ar⟩ := area_all ds vals hwl hpl hwt
 have hO : OnlyF (argH K s₁.heap A) := argH_only ar
 have hok : HOk P w (argH K s₁.heap A) s₁.heap := argH_ok ar
 have hS := dw_all KX ar ds vals hwl hpl ho
 have hV := vals_toV ho
 have hK : ∀ b u,argH K s₁.heap A b = some u → K.lookup b = none := fun b u q => (argH_is ar q).1
 have noA : ∀ {b : Addr} {o : Obj} {es : Array DictEntry} {ep : Nat},s₁.heap.get? b = some o → o.data = .dict es ep → argH K s₁.heap A b = none := fun {b o es ep} e d => by
  cases q : argH K s₁.heap A b with
  | none => rfl
  | some u =>
   obtain ⟨_,vs,_,_,⟨e2,_⟩ | ⟨e2,_⟩⟩ := argH_is ar q
   ·rw [e2] at e
    cases e
    have d' : Data.seq vs.toArray _ = Data.dict es ep := d
    cases d'
   ·rw [e2] at e
    cases e
    have d' : Data.seq vs.toArray _ = Data.dict es ep := d
    cases d'
 generalize argH K s₁.heap A = H at hO hok hS hK noA
 have base_of : ∀ {b : Addr} {o : Obj},s₁.heap.get? b = some o → H b = none → (hidT s₁.heap H).get? b = some o := fun e n => hidT_get e n
 have nsK : ∀ {b : Addr} {m : Str → Option Value},s₁.heap.Ns b m → (hidT s₁.heap H).Ns b m := fun {b m} ⟨o,es,ep,e,d,r⟩ => ⟨o,es,ep,base_of e (noA e d),d,r⟩
 have nK : ∀ b o,K.lookup b = some o → H b = none := fun b o e => by
  cases q : H b with
  | none => rfl
  | some u =>
   rw [hK b u q] at e
   cases e
 have hKb : K.In (hidT s₁.heap H) := fun b o e => base_of (KX b o e) (nK b o e)
 have hM : Mod K mg (hidT s₁.heap H) := ⟨hKb,nsK hns,⟨mb,nsK hb,hbb⟩,let ⟨mc,h1,h2⟩ := hlim; ⟨mc,nsK h1,h2⟩⟩
 have e0 : Env0 P w K mg (hidT s₁.heap H) callerA [] s₁ H := ⟨rfl,hM,fun b o e => of_hidT e,Nat.le_of_eq (hidT_size _ _),trivial,fun b hb => absurd (show b ∈ ([] : List Addr) from hb) (by simp),hok,.of_eq hg⟩
 have hl : vals.length = ps.length := by rw [wellAll_len hwl]; exact hlen
 refine codeAny_mono ((F _ hKb (nsK hns)).run callerA [] s₁ H ⟨vals,[]⟩ vals (vals.map toV) _ _ hr e0 (hbind s₁ vals hl) hV (hsp H _ hO hS)) fun r s' x => ?_
 cases r with
 | error e => exact (hCX H e s' x).elim
 | ok fl =>
  cases fl with
  | next => exact False.elim x
  | brk => exact False.elim x
  | cont => exact False.elim x
  | ret u =>
   obtain ⟨v,H',os,bare,un,hok',r',q⟩ := x
   have kept : ∀ b o,s₁.heap.get? b = some o → s'.heap.get? b = some o := fun b o e => by
    cases q2 : H b with
    | none => exact un.keep b o e q2 (by intro z; exact absurd (show b ∈ ([] : List Addr) from z) (by simp)) (by simp)
    | some u2 =>
     rcases hO b with z | ⟨ob,u3,z⟩
     ·rw [q2] at z
      cases z
     ·have z2 := un.frzs b ob _ z
      obtain ⟨e1,_⟩ := hok b _ z
      obtain ⟨e2,_⟩ := hok' b _ z2
      rw [e] at e1
      cases e1
      exact e2
   have KX' : K.In s'.heap := fun b o e => kept b o (KX b o e)
   obtain ⟨as,hrd⟩ := Dw.reads (R := R) (cl := cl) hok' KX' d0 v u q r'
   exact ⟨u,as,rfl,hrd,OldK.of_keep kept,os,bare⟩
theorem layable_weight {ds : List WData} (h : WData.layableAll ds = true) : ∀ d ∈ ds,d.weight ≤ 1048576 := fun d hd =>
 (PySem.W.layableW_iff.mp (List.all_eq_true.mp h d hd)).2.2
theorem encAll_len : ∀ (cs : List Codec) (a : Codec.denoteAll cs),(Codec.encAll cs a).length = cs.length
 | [],_ => rfl
 | c :: cs,a => by
  show (Codec.encAll cs a.2).length + 1 = cs.length + 1
  rw [encAll_len cs a.2]
theorem walk_spec {r : OpenSpec} {k : Nat} {q : Program} {loose : List Str} {XP : (Str → Option Value) → Heap → Prop} {YP : World → Heap → Prop} {d : DefRec} {K : Params → PySem.W.Frag} {CX : World → CXT} {ps : List Str} {sp : World → Sp}
  (hwell : r.wellSaid = true) (hdf : d.params.defaults = []) (hlen : r.args.length = ps.length) (hr : Room k callerA)
  (hY : ∀ (w : World) (h : Heap),YP w h → (K w.params).In h)
  (F : ∀ (w : World) (mg : Str → Option Value) (fa : Addr) (h : Heap),YP w h → (K w.params).In h → h.Ns mainGlobals mg → mg d.name = some (.ref fa) →
   ∃ fd : FuncData,(∀ (s : Shared) (us : List Value),us.length = ps.length → BindsTo s fd ⟨us,[]⟩ (ps.zip us)) ∧
    ∀ base : Heap,(K w.params).In base → base.Ns mainGlobals mg → FnOk r.prog w (K w.params) mg base (CX w) k fa fd ps (sp w))
  (hsp : ∀ (w : World) (H : Hp) (xs : List V) (a : Codec.denoteAll r.args),OnlyF H → Codec.withinAll r.args a = true → Codec.app r.args r.asked a = true → DwAll (K w.params) H xs (Codec.encAll r.args a) →
   sp w xs H (fun v H' => Dw (K w.params) H' v (r.ret.enc (Codec.app r.args r.f a))) fun _ _ _ => False)
  (hCX : ∀ (w : World) (H : Hp) (s : Shared) (e : Value) (s' : Shared),CX w [] H s (fun _ _ _ => False) e s' → False) :
  PySem.W.WalkOS q loose XP YP r d [] (fun f vs => PySem.call f vs) := by
 intro w s_0 s₁ mg mb G Y fa o pm cd doc dV kV ho hd hcd hD hmg hg args vals as hpre hlay hrd hwl hlo
 obtain ⟨a,e1,e2⟩ := PySem.W.os_pre_some hpre
 obtain ⟨e3,hwi⟩ := Codec.encAll_of_decAll r.args args a e1
 subst e3
 have KX := hY w _ Y
 obtain ⟨fd,hb,hF⟩ := F w mg fa _ Y KX G.T.g hmg
 refine PySem.W.enter_call (codeAny_mono (spec_call (R := []) (cl := classAt s_0.heap) (d0 := r.ret.enc (Codec.app r.args r.f a)) KX G.T.g G.T.b G.T.builtins G.T.nolimit hg hwl (pl_encAll _ _) (layable_weight hlay) hr hF hb (by rw [encAll_len]; exact hlen)
  (fun H xs hO hS => hsp w H xs a hO hwi e2 hS) fun H e s' => hCX w H s₁ e s') fun r' s' hq => ?_)
 obtain ⟨u,as',rfl,h1,h2,h3,h4⟩ := hq
 exact ⟨.inl ⟨u,_,as',rfl,fun _ => rfl,h1,(OpenSpec.post_iff hwell hwi _ _).mpr rfl,fun z => Bool.noConfusion (show false = true from z)⟩,h2,h3,h4⟩
theorem walk_specK {r : OpenSpec} {k : Nat} {q : Program} {loose : List Str} {XP : (Str → Option Value) → Heap → Prop} {YP : World → Heap → Prop} {d : DefRec} {K : Params → PySem.W.Frag} {CX : CXT} {ps : List Str} {sp : PySem.W.Frag → Sp}
  (hwell : r.wellSaid = true) (hdf : d.params.defaults = []) (hlen : r.args.length = ps.length) (hr : Room k callerA)
  (hY : ∀ (w : World) (h : Heap),YP w h → (K w.params).In h)
  (F : ∀ (w : World) (mg : Str → Option Value) (fa : Addr) (h : Heap),YP w h → (K w.params).In h → h.Ns mainGlobals mg → mg d.name = some (.ref fa) →
   ∃ fd : FuncData,(∀ (s : Shared) (us : List Value),us.length = ps.length → BindsTo s fd ⟨us,[]⟩ (ps.zip us)) ∧
    ∀ base : Heap,(K w.params).In base → base.Ns mainGlobals mg → FnOk r.prog w (K w.params) mg base CX k fa fd ps (sp (K w.params)))
  (hsp : ∀ (K : PySem.W.Frag) (H : Hp) (xs : List V) (a : Codec.denoteAll r.args),OnlyF H → Codec.withinAll r.args a = true → Codec.app r.args r.asked a = true → DwAll K H xs (Codec.encAll r.args a) →
   sp K xs H (fun v H' => Dw K H' v (r.ret.enc (Codec.app r.args r.f a))) fun _ _ _ => False)
  (hCX : ∀ (H : Hp) (s : Shared) (e : Value) (s' : Shared),CX [] H s (fun _ _ _ => False) e s' → False) :
  PySem.W.WalkOS q loose XP YP r d [] (fun f vs => PySem.call f vs) :=
 walk_spec (K := K) (CX := fun _ => CX) (sp := fun w => sp (K w.params)) hwell hdf hlen hr hY F (fun w H xs a h1 h2 h3 h4 => hsp (K w.params) H xs a h1 h2 h3 h4) fun _ H s e s' => hCX H s e s'
end L2
end
section
namespace L2
open PySem PySem.Spec PyProof.Rows
def Fit (i : Int) : Prop := ∃ m : Nat,m ≤ 1000000 ∧ i.natAbs < 2 ^ m
theorem Fit.bits {i : Int} (h : Fit i) : Builtin.Int.intBits i ≤ 1000000 := by
 obtain ⟨m,h1,h2⟩ := h
 exact Nat.le_trans (intBits_le_iff.mpr h2) h1
section
variable {X : Cx}
def CShl (i j : Int) : Prop := 0 ≤ j ∧ j ≤ 1000000 ∧ Fit i
theorem op_shlB : OpR X (binaryOp .LShift) (rI CShl fun i j => .int (i * 2 ^ j.toNat)) := opI fun _ _ _ _ _ _ _ hc q => by
 obtain ⟨h0,h1,h2⟩ := hc
 have hb := h2.bits
 refine lshift_int h0 ?_ q
 have : (2 : Int) ^ 27 = 134217728 := by decide
 rw [this]
 omega
def CMulB (i j : Int) : Prop := Fit i ∧ Fit j
theorem op_mulB : OpR X (binaryOp .Mult) (rI CMulB fun i j => .int (i * j)) := opI fun _ _ _ _ _ _ _ hc q =>
 PyProof.Rows.mul_int q (IntMulOk.of_le hc.1.bits hc.2.bits (by decide))
def CDivB (i j : Int) : Prop := 0 < j ∧ (i.natAbs < j.natAbs * 2 ^ 4000 ∨ j.natAbs.log2 < 9000)
theorem noPy {i j : Int} (h : CDivB i j) : Builtin.divisionGoesByPylong i j = false := by
 obtain ⟨h1,h2 | h3⟩ := h
 case inr => exact PyProof.noPylong_of_log2 h3
 unfold Builtin.divisionGoesByPylong
 have hj : (j == 0) = false := by simp; omega
 have hj0 : j.natAbs ≠ 0 := by omega
 have key : (if (i == 0) = true then 0 else i.natAbs.log2 / 30 + 1) ≤ (if (j == 0) = true then 0 else j.natAbs.log2 / 30 + 1) + 150 := by
  rw [hj]
  by_cases hi : (i == 0) = true
  ·rw [if_pos hi]; exact Nat.zero_le _
  ·rw [if_neg hi,if_neg Bool.false_ne_true]
   have hi0 : i.natAbs ≠ 0 := by
    intro e
    apply hi
    simp
    omega
   have hl : i.natAbs.log2 < j.natAbs.log2 + 1 + 4000 := by
    refine (Nat.log2_lt hi0).mpr ?_
    rw [Nat.pow_add]
    exact Nat.lt_of_lt_of_le h2 (Nat.mul_le_mul_right _ (Nat.le_of_lt (Nat.lt_log2_self)))
   omega
 have e2 : ¬ ((if (i == 0) = true then 0 else i.natAbs.log2 / 30 + 1) > (if (j == 0) = true then 0 else j.natAbs.log2 / 30 + 1) + 150) := Nat.not_lt.mpr key
 show (decide _ && decide ((if (i == 0) = true then 0 else i.natAbs.log2 / 30 + 1) > (if (j == 0) = true then 0 else j.natAbs.log2 / 30 + 1) + 150)) = false
 rw [decide_eq_false e2,Bool.and_false]
theorem op_fdivB : OpR X (binaryOp .FloorDiv) (rI CDivB fun i j => .int (i / j)) := opI fun i j _ _ _ _ _ hc q => by
 have h1 : (0 : Int) < j := hc.1
 exact floordiv_int (by omega) (by rw [Int.fdiv_eq_ediv_of_nonneg i (by omega)]; exact q) (.inl (noPy hc))
def rBitLen : V → List V → Hp → VK → Prop := fun x xs H Q => ∃ i,x = .int i ∧ xs = [] ∧ Q (.int (Builtin.Int.intBits i : Nat)) H
theorem mt_bitlen : MtR X "int.bit_length" rBitLen := by
 intro pins s σ H x xs v us Q I rx rv h
 obtain ⟨i,rfl,rfl,q⟩ := h
 obtain ⟨t,rfl⟩ := rx
 have e := rv.zero
 subst e
 exact call_gives F.slot_int_bit_length (typeIs_int s i t) F.entry_int_bit_length (F.args_int_bit_length_1 _) (AutoIntG2.int_bit_length_int_0 i t) ⟨.int _,H,I.tok _,⟨_,rfl⟩,q⟩
end
section
variable {X : Cx} {CX : CXT} {E : XK} {o e : Expr} {es : List Expr} {pos : Pos} {to : TE} {t : TA}
def Callable (X : Cx) (CX : CXT) (f : Addr) (sp : Sp) : Prop := ∃ (k : Nat) (fd : FuncData) (ps : List Str),FnOk X.prog X.w X.K X.mg X.base CX k f fd ps sp ∧ Room k X.A ∧ PySem.W.keepIn X.K (.ref f) = true ∧ Binds X.K fd ps []
def tCallV (X : Cx) (CX : CXT) (E : XK) (to : TE) (t : TA) : TE := fun σ H Q => to σ H fun x H1 => ∃ f sp,x = .ref f ∧ Callable X CX f sp ∧ t σ H1 fun vs H2 => sp vs H2 Q E
theorem pe_callV (ho : PE X o to) (hx : Passes CX X E) (ha : PA X (e :: es) t)
  (hev : eval (.Call o (e :: es) [] pos) X.env = (do callWith pos (← eval o X.env) [] (backTo pos (starEach (e :: es) X.env)) (backToKw pos (keywordEach [] X.env))) := by rfl)
  (he : starEach (e :: es) X.env = (false,eval e X.env) :: starEach es X.env := by rfl) (hpl : (backTo pos (starEach es X.env)).any (·.1) = false := by rfl) :
  PE X (.Call o (e :: es) [] pos) (tCallV X CX E to t) := by
 intro pins s σ H Q I h
 refine PyProof.Rows.Call_ (thn (ho pins s σ H _ I h) fun u s1 ⟨x,H1,I1,rx,f,sp,ex,⟨k,fd,ps,F,hr,hk,hb⟩,q⟩ => ?_) hev
 subst ex
 obtain rfl : u = Value.ref f := rx
 refine PySem.W.callWith_K (h₀ := X.base) I.ok.mod.kin hk (thn (ha pos pins s1 σ H1 _ I1 q) fun us s2 ⟨vs,H2,I2,r,q2⟩ => ⟨I2.kIn,?_⟩) he hpl
 exact run_fn F hr hb .nil hx I2 r (by rw [List.append_nil]; exact q2)
end
def KDict (K : PySem.W.Frag) (D : Addr) (kvs : List (Int × Value)) : Prop := ∃ (o : Obj) (es : Array DictEntry) (ep : _),K.lookup D = some o ∧ o.ExactDict ∧ o.data = .dict es ep ∧
 (kvs.map (·.1)).Nodup ∧ Paired (fun (e : DictEntry) (kv : Int × Value) => Value.isInt kv.1 e.key = true ∧ e.val = kv.2 ∧ e.hash = hashInt kv.1) es.toList kvs
end L2
end
section
namespace L2
open PySem PySem.Spec PyProof.Rows
section
variable {X : Cx} {o i : Expr} {pos : Pos} {td ty : TE}
theorem isInt_mix {P : Program} {w : World} {k : Int} {v : Value} : Value.isInt k v = true → (mixKind P w).is (.inl k) v = true := fun h => h
theorem pairs_mix {P : Program} {w : World} : ∀ {es : List DictEntry} {kvs : List (Int × Value)},Paired (fun (e : DictEntry) (kv : Int × Value) => Value.isInt kv.1 e.key = true ∧ e.val = kv.2 ∧ e.hash = hashInt kv.1) es kvs →
  Pairs (mixKind P w) es (kvs.map fun kv => ((Sum.inl kv.1 : Key),kv.2)) ∧ ∀ e,e ∈ es → ∃ k,(mixKind P w).is k e.key = true ∧ e.hash = (mixKind P w).hash k
 | _,_,.nil => ⟨.nil,fun e h => absurd h (by simp)⟩
 | _,_,.cons (a := a) (b := b) r t => by
  obtain ⟨h1,h2⟩ := pairs_mix (P := P) (w := w) t
  refine ⟨.cons r.1 r.2.1 h1,fun e he => ?_⟩
  rcases List.mem_cons.mp he with e1 | he
  ·subst e1
   exact ⟨.inl b.1,r.1,r.2.2⟩
  ·exact h2 e he
theorem nodup_mix : ∀ {kvs : List (Int × Value)},(kvs.map (·.1)).Nodup → ((kvs.map fun kv => ((Sum.inl kv.1 : Key),kv.2)).map (·.1)).Nodup := fun {kvs} h => by
 have e : (kvs.map fun kv => ((Sum.inl kv.1 : Key),kv.2)).map (·.1) = (kvs.map (·.1)).map (fun k => (Sum.inl k : Key)) := by
  rw [List.map_map,List.map_map]
  rfl
 rw [e]
 unfold List.Nodup at h ⊢
 rw [List.pairwise_map]
 exact h.imp fun hne e => hne (Sum.inl.inj e)
theorem KDict.of {K : PySem.W.Frag} {D : Addr} {kvs : List (Int × Value)} {P : Program} {w : World} {h : Heap} (k : KDict K D kvs) (x : K.In h) : h.DictOf (mixKind P w) D (kvs.map fun kv => ((Sum.inl kv.1 : Key),kv.2)) := by
 obtain ⟨ob,es,ep,h1,h2,h3,h4,h5⟩ := k
 obtain ⟨p1,p2⟩ := pairs_mix (P := P) (w := w) h5
 exact ⟨ob,es,ep,x D ob h1,h2,h3,fun e he => p2 e (by simpa using he),p1,nodup_mix h4⟩
theorem value_mix (kvs : List (Int × Value)) (k : Int) : valueAt (kvs.map fun kv => ((Sum.inl kv.1 : Key),kv.2)) (Sum.inl k) = (kvs.find? fun kv => kv.1 = k).map (·.2) := by
 unfold valueAt
 induction kvs with
 | nil => rfl
 | cons a r ih =>
  by_cases h : a.1 = k
  ·simp [List.find?_cons,h]
  ·have h' : ¬ ((Sum.inl a.1 : Key) = Sum.inl k) := fun e => h (Sum.inl.inj e)
   simp only [List.map_cons,List.find?_cons]
   rw [decide_eq_false h,decide_eq_false h']
   exact ih
def tKGet (K : PySem.W.Frag) (td ty : TE) : TE := fun σ H Q => td σ H fun x H1 => ty σ H1 fun y H2 => ∃ a kvs k u v,x = .ref a ∧ y = .int k ∧ KDict K a kvs ∧ (kvs.find? fun kv => kv.1 = k).map (·.2) = some u ∧ RelV v u ∧ Q v H2
theorem pe_kget (ho : PE X o td) (hi : PE X i ty) (hs : NoSl i) : PE X (.Subscript o i pos) (tKGet X.K td ty) := by
 intro pins s σ H Q I h
 refine subD_of PySem.F.slot_dict_getitem.lookup hs (thn (ho pins s σ H _ I h) fun u s1 ⟨x,H1,I1,rx,q1⟩ => thn (hi pins s1 σ H1 _ I1 q1) fun iv s2 ⟨y,H2,I2,ry,a,kvs,k,u',v,ex,ey,kd,hf,rv,q2⟩ => ?_)
 subst ex ey
 obtain rfl : u = Value.ref a := rx
 obtain ⟨t,rfl⟩ := ry
 have dd := kd.of (P := X.prog) (w := X.w) I2.kIn
 refine ⟨dd.typeIs,wpAny_getItem_of (mixKind_int X.prog X.w k t) dd.mapOf (by rw [value_mix]; exact hf) ?_⟩
 exact ⟨v,H2,I2.tok _,rv,q2⟩
end
end L2
end
section
namespace Rr
open PySem PySem.Spec PyProof.Rows L2
structure Fn (P : Program) (w : World) (K : PySem.W.Frag) (mg : Str → Option Value) (base : Heap) (x : Str) (k : Nat) (ps : List Str) (sp : Sp) : Prop where
 ex : ∃ (f : Addr) (fd : FuncData),FnOk P w K mg base CX0 k f fd ps sp ∧ mg x = some (.ref f) ∧ PySem.W.keepIn K (.ref f) = true ∧ Binds K fd ps []
structure Src (K : PySem.W.Frag) (mg : Str → Option Value) (x : Str) (st : Stmt) (ps : List Str) : Prop where
 ex : ∃ (f : Addr) (fd : FuncData),Fun K x x st f fd ∧ mg x = some (.ref f) ∧ Binds K fd ps []
def Con1 (mg : Str → Option Value) (x : Str) (v : V) : Prop := ∃ u,mg x = some u ∧ RelV v u
structure SrcM (K : PySem.W.Frag) (C : Addr) (m qual : Str) (st : Stmt) (ps : List Str) : Prop where
 ex : ∃ (f : Addr) (fd : FuncData),Fun K m qual st f fd ∧ Meth K C m f ∧ Binds K fd ps []
structure Mtd (P : Program) (w : World) (K : PySem.W.Frag) (mg : Str → Option Value) (base : Heap) (C : Addr) (m : Str) (k : Nat) (ps : List Str) (sp : Sp) : Prop where
 ex : ∃ (f : Addr) (fd : FuncData),FnOk P w K mg base CX0 k f fd ps sp ∧ Meth K C m f ∧ Binds K fd ps []
structure SrcC (K : PySem.W.Frag) (mg : Str → Option Value) (x : Str) (C : Addr) (qual : Str) (st : Stmt) (ps : List Str) : Prop where
 cl : Cls K C
 mgC : mg x = some (.ref C)
 ex : ∃ (f : Addr) (fd : FuncData),Fun K "__init__" qual st f fd ∧ Mk K C f ∧ Binds K fd ps []
structure Cla (P : Program) (w : World) (K : PySem.W.Frag) (mg : Str → Option Value) (base : Heap) (x : Str) (C : Addr) (k : Nat) (ps : List Str) (sp : Sp) : Prop where
 cl : Cls K C
 mgC : mg x = some (.ref C)
 ex : ∃ (f : Addr) (fd : FuncData),FnOk P w K mg base CX0 k f fd ps sp ∧ Mk K C f ∧ Binds K fd ps []
section
variable {P : Program} {w : World} {K : PySem.W.Frag} {mg : Str → Option Value} {base : Heap} {x m qual : Str} {st : Stmt} {ps N : List Str} {k : Nat} {sp : Sp} {C : Addr}
theorem Src.fn (F : Src K mg x st ps) (S : FnScope N ps (defScope st)) (len : ∀ vs H Q E,sp vs H Q E → vs.length = ps.length)
  (hbody : ∀ (f : Addr) (cdv : Value) (A : Around) (outer : List Env) (s : Shared) (H : Hp) (vs : List V) (Q : VK) (E : XK),Room k (A.deeper (envOfC x (defScope st) s.heap.objs.size f cdv)) → sp vs H Q E →
   ∃ t,PSs (cxOf CX0 P w K mg base N x (defScope st) f cdv A outer s H E).nox (defBody st) t ∧ t { nx := fun _ H' => Q .non H',rt := Q } (start N vs) H) : Fn P w K mg base x (k + 1) ps sp := by
 obtain ⟨f,fd,F1,h2,h3⟩ := F.ex
 exact ⟨f,fd,F1.ok S len (hbody f),h2,F1.kp,h3⟩
theorem SrcM.mt (F : SrcM K C m qual st ps) (S : FnScope N ps (defScope st)) (len : ∀ vs H Q E,sp vs H Q E → vs.length = ps.length)
  (hbody : ∀ (f : Addr) (cdv : Value) (A : Around) (outer : List Env) (s : Shared) (H : Hp) (vs : List V) (Q : VK) (E : XK),Room k (A.deeper (envOfC qual (defScope st) s.heap.objs.size f cdv)) → sp vs H Q E →
   ∃ t,PSs (cxOf CX0 P w K mg base N qual (defScope st) f cdv A outer s H E).nox (defBody st) t ∧ t { nx := fun _ H' => Q .non H',rt := Q } (start N vs) H) : Mtd P w K mg base C m (k + 1) ps sp := by
 obtain ⟨f,fd,F1,h2,h3⟩ := F.ex
 exact ⟨f,fd,F1.ok S len (hbody f),h2,h3⟩
theorem SrcC.cla (F : SrcC K mg x C qual st ps) (S : FnScope N ps (defScope st)) (len : ∀ vs H Q E,sp vs H Q E → vs.length = ps.length)
  (hbody : ∀ (f : Addr) (cdv : Value) (A : Around) (outer : List Env) (s : Shared) (H : Hp) (vs : List V) (Q : VK) (E : XK),Room k (A.deeper (envOfC qual (defScope st) s.heap.objs.size f cdv)) → sp vs H Q E →
   ∃ t,PSs (cxOf CX0 P w K mg base N qual (defScope st) f cdv A outer s H E).nox (defBody st) t ∧ t { nx := fun _ H' => Q .non H',rt := Q } (start N vs) H) : Cla P w K mg base x C (k + 1) ps sp := by
 obtain ⟨f,fd,F1,h2,h3⟩ := F.ex
 exact ⟨F.cl,F.mgC,f,fd,F1.ok S len (hbody f),h2,h3⟩
end
section
variable {X : Cx} {x m : Str} {ps : List Str} {k : Nat} {sp : Sp} {C : Addr} {e o : Expr} {es : List Expr} {p pos apos : Pos} {t : TA} {ta : TE} {v : V}
def tFn (sp : Sp) (t : TA) : TE := fun σ H Q => t σ H fun vs H1 => sp vs H1 Q E0
theorem pe_fn (F : Fn X.prog X.w X.K X.mg X.base x k ps sp) (hr : Room k X.A) (hg : Gl X x) (ha : PA X (e :: es) t) (hdb : (x == ("__debug__" : Str)) = false := by decide)
  (he : starEach (e :: es) X.env = (false,eval e X.env) :: starEach es X.env := by rfl) (hpl : (backTo pos (starEach es X.env)).any (·.1) = false := by rfl) :
  PE X (.Call (.Name x p) (e :: es) [] pos) (tFn sp t) := by
 obtain ⟨f,fd,F1,h1,h2,h3⟩ := F.ex
 intro pins s σ H Q I h
 have q := pe_call (pos := pos) (p := p) F1 hr hg h1 h2 h3 .nil (pass0 (X := X)) ha hdb he hpl
 refine q pins s σ H Q I ?_
 show t σ H fun vs H1 => sp (vs ++ []) H1 Q E0
 have e1 : (fun (vs : List V) (H1 : Hp) => sp (vs ++ []) H1 Q E0) = fun vs H1 => sp vs H1 Q E0 := by funext vs H1; rw [List.append_nil]
 rw [e1]
 exact h
theorem pe_fn0 (F : Fn X.prog X.w X.K X.mg X.base x k ps sp) (hr : Room k X.A) (hg : Gl X x) (hdb : (x == ("__debug__" : Str)) = false := by decide) :
  PE X (.Call (.Name x p) [] [] pos) (tFn sp tNil) := by
 obtain ⟨f,fd,F1,h1,h2,h3⟩ := F.ex
 intro pins s σ H Q I h
 exact pe_call0 (pos := pos) (p := p) F1 hr hg h1 h2 h3 .nil (pass0 (X := X)) hdb pins s σ H Q I h
def tNew (C : Addr) (sp : Sp) (t : TA) : TE := fun σ H Q => t σ H fun vs H1 => ∀ x dx,H1 x = none → H1 dx = none → dx ≠ x →
 sp (.ref x :: vs) (upd (upd H1 dx (.own x)) x (.ins C dx [])) (fun v H2 => v = .non ∧ Q (.ref x) H2) E0
theorem pe_new (F : Cla X.prog X.w X.K X.mg X.base x C k ps sp) (hr : Room (k + 1) X.A) (hg : Gl X x) (ha : PA X (e :: es) t) (hdb : (x == ("__debug__" : Str)) = false := by decide)
  (he : starEach (e :: es) X.env = (false,eval e X.env) :: starEach es X.env := by rfl) (hpl : (backTo pos (starEach es X.env)).any (·.1) = false := by rfl) :
  PE X (.Call (.Name x p) (e :: es) [] pos) (tNew C sp t) := by
 obtain ⟨f,fd,F1,h1,h2⟩ := F.ex
 intro pins s σ H Q I h
 have q := pe_make (pos := pos) (p := p) h1 F1 hr hg F.mgC h2 .nil (pass0 (X := X)) ha hdb he hpl
 refine q pins s σ H Q I ?_
 have e1 : (fun (vs : List V) (H1 : Hp) => ∀ x dx,H1 x = none → H1 dx = none → dx ≠ x → sp (.ref x :: (vs ++ [])) (upd (upd H1 dx (.own x)) x (.ins C dx [])) (fun v H2 => v = .non ∧ Q (.ref x) H2) E0)
   = fun vs H1 => ∀ x dx,H1 x = none → H1 dx = none → dx ≠ x → sp (.ref x :: vs) (upd (upd H1 dx (.own x)) x (.ins C dx [])) (fun v H2 => v = .non ∧ Q (.ref x) H2) E0 := by
  funext vs H1; rw [List.append_nil]
 show t σ H fun vs H1 => ∀ x dx,H1 x = none → H1 dx = none → dx ≠ x → sp (.ref x :: (vs ++ [])) (upd (upd H1 dx (.own x)) x (.ins C dx [])) (fun v H2 => v = .non ∧ Q (.ref x) H2) E0
 rw [e1]
 exact h
theorem pe_new0 (F : Cla X.prog X.w X.K X.mg X.base x C k ps sp) (hr : Room (k + 1) X.A) (hg : Gl X x) (hdb : (x == ("__debug__" : Str)) = false := by decide) :
  PE X (.Call (.Name x p) [] [] pos) (tNew C sp tNil) := by
 obtain ⟨f,fd,F1,h1,h2⟩ := F.ex
 intro pins s σ H Q I h
 exact pe_make0 (pos := pos) (p := p) h1 F1 hr hg F.mgC h2 .nil (pass0 (X := X)) hdb pins s σ H Q I h
def tMt (C : Addr) (m : Str) (sp : Sp) (ta : TE) (t : TA) : TE := fun σ H Q => ta σ H fun x H1 => ∃ a dx fs,x = .ref a ∧ H1 a = some (.ins C dx fs) ∧ fs.lookup m = none ∧ t σ H1 fun vs H2 => sp (x :: vs) H2 Q E0
theorem pe_mt {pl : Sem Bool} (he : PE X o ta) (c : Cls X.K C) (F : Mtd X.prog X.w X.K X.mg X.base C m k ps sp) (hr : Room k X.A) (ha : PA X (e :: es) t)
  (hst : starEach (e :: es) X.env = (false,eval e X.env) :: starEach es X.env := by rfl) (hpl : (backTo pos (starEach es X.env)).any (·.1) = false := by rfl)
  (ht : eval (.Call (.Attribute o m apos) (e :: es) [] pos) X.env = (do
   let ov ← eval o X.env
   standAt apos.atName
   let (f,first) ← holding [ov] (getMethod ov m pl)
   callWith pos f first (backTo pos (starEach (e :: es) X.env)) (backToKw pos (keywordEach [] X.env))) := by rfl) :
  PE X (.Call (.Attribute o m apos) (e :: es) [] pos) (tMt C m sp ta t) := by
 obtain ⟨f,fd,F1,h1,h2⟩ := F.ex
 intro pins s σ H Q I h
 have q := pe_meth (pos := pos) (apos := apos) (pl := pl) he c h1 F1 hr h2 .nil (pass0 (X := X)) ha hst hpl ht
 refine q pins s σ H Q I ?_
 have e1 : (fun (x : V) (H1 : Hp) => ∃ a dx fs,x = .ref a ∧ H1 a = some (.ins C dx fs) ∧ fs.lookup m = none ∧ t σ H1 fun vs H2 => sp (x :: (vs ++ [])) H2 Q E0)
   = fun x H1 => ∃ a dx fs,x = .ref a ∧ H1 a = some (.ins C dx fs) ∧ fs.lookup m = none ∧ t σ H1 fun vs H2 => sp (x :: vs) H2 Q E0 := by
  funext x H1
  have e2 : (fun (vs : List V) (H2 : Hp) => sp (x :: (vs ++ [])) H2 Q E0) = fun vs H2 => sp (x :: vs) H2 Q E0 := by funext vs H2; rw [List.append_nil]
  rw [e2]
 show ta σ H fun x H1 => ∃ a dx fs,x = .ref a ∧ H1 a = some (.ins C dx fs) ∧ fs.lookup m = none ∧ t σ H1 fun vs H2 => sp (x :: (vs ++ [])) H2 Q E0
 rw [e1]
 exact h
theorem pe_mt0 {pl : Sem Bool} (he : PE X o ta) (c : Cls X.K C) (F : Mtd X.prog X.w X.K X.mg X.base C m k ps sp) (hr : Room k X.A)
  (ht : eval (.Call (.Attribute o m apos) [] [] pos) X.env = (do
   let ov ← eval o X.env
   standAt apos.atName
   let (f,first) ← holding [ov] (getMethod ov m pl)
   callWith pos f first (backTo pos (starEach [] X.env)) (backToKw pos (keywordEach [] X.env))) := by rfl) :
  PE X (.Call (.Attribute o m apos) [] [] pos) (tMt C m sp ta tNil) := by
 obtain ⟨f,fd,F1,h1,h2⟩ := F.ex
 intro pins s σ H Q I h
 exact pe_meth0 (pos := pos) (apos := apos) (pl := pl) he c h1 F1 hr h2 .nil (pass0 (X := X)) ht pins s σ H Q I h
theorem pf {k' : Nat} (F : Fn X.prog X.w X.K X.mg X.base x k ps sp) (hr : Room k' X.A) (ha : PA X (e :: es) t) (hg : Gl X x := by rfl) (hk : k ≤ k' := by decide) (hdb : (x == ("__debug__" : Str)) = false := by decide)
  (he : starEach (e :: es) X.env = (false,eval e X.env) :: starEach es X.env := by rfl) (hpl : (backTo pos (starEach es X.env)).any (·.1) = false := by rfl) : PE X (.Call (.Name x p) (e :: es) [] pos) (tFn sp t) := pe_fn F (hr.mono hk) hg ha hdb he hpl
theorem pf0 {k' : Nat} (F : Fn X.prog X.w X.K X.mg X.base x k ps sp) (hr : Room k' X.A) (hg : Gl X x := by rfl) (hk : k ≤ k' := by decide) (hdb : (x == ("__debug__" : Str)) = false := by decide) : PE X (.Call (.Name x p) [] [] pos) (tFn sp tNil) := pe_fn0 F (hr.mono hk) hg hdb
theorem pn {k' : Nat} (F : Cla X.prog X.w X.K X.mg X.base x C k ps sp) (hr : Room k' X.A) (ha : PA X (e :: es) t) (hg : Gl X x := by rfl) (hk : k + 1 ≤ k' := by decide) (hdb : (x == ("__debug__" : Str)) = false := by decide)
  (he : starEach (e :: es) X.env = (false,eval e X.env) :: starEach es X.env := by rfl) (hpl : (backTo pos (starEach es X.env)).any (·.1) = false := by rfl) : PE X (.Call (.Name x p) (e :: es) [] pos) (tNew C sp t) := pe_new F (hr.mono hk) hg ha hdb he hpl
theorem pn0 {k' : Nat} (F : Cla X.prog X.w X.K X.mg X.base x C k ps sp) (hr : Room k' X.A) (hg : Gl X x := by rfl) (hk : k + 1 ≤ k' := by decide) (hdb : (x == ("__debug__" : Str)) = false := by decide) : PE X (.Call (.Name x p) [] [] pos) (tNew C sp tNil) := pe_new0 F (hr.mono hk) hg hdb
theorem pe_c1 (h : Con1 X.mg x v) (hg : Gl X x) (hd : (x == ("__debug__" : Str)) = false := by decide) : PE X (.Name x pos) (tC v) := by
 obtain ⟨u,h1,h2⟩ := h
 exact pe_glob hg h1 h2 hd
end
def Obj (C : Addr) (fs : List (Str × V)) (H : Hp) (a : Addr) : Prop := ∃ dx,H a = some (.ins C dx fs)
theorem Obj.same {C : Addr} {fs : List (Str × V)} {H H' : Hp} {a : Addr} (h : Obj C fs H a) (s : Same H H') : Obj C fs H' a := by
 obtain ⟨dx,h⟩ := h
 exact ⟨dx,s _ _ h⟩
def spInit (C : Addr) (n : Nat) (mk : List V → List (Str × V)) : Sp := fun vs H Q _ => ∃ p dx as,vs = .ref p :: as ∧ as.length = n ∧ H p = some (.ins C dx []) ∧ ∀ H' : Hp,H' p = some (.ins C dx (mk as)) → (∀ b o,H b = some o → b ≠ p → H' b = some o) → Q .non H'
theorem new_of {C : Addr} {n : Nat} {mk : List V → List (Str × V)} {as : List V} {H : Hp} {Q : Addr → Hp → Prop} (hn : as.length = n) (h : ∀ p H',Same H H' → H p = none → Obj C (mk as) H' p → Q p H') :
  ∀ x dx,H x = none → H dx = none → dx ≠ x → spInit C n mk (.ref x :: as) (upd (upd H dx (.own x)) x (.ins C dx [])) (fun v H2 => v = .non ∧ Q x H2) E0 := fun x dx nx nd ne =>
 ⟨x,dx,as,rfl,hn,upd_same,fun H' h1 k => ⟨rfl,h x H' (Same.made nx nd k) nx ⟨dx,h1⟩⟩⟩
theorem putF_len (f : Str) (y : V) : ∀ fs : List (Str × V),(putF f y fs).length ≤ fs.length + 1
 | [] => Nat.le_refl _
 | (g,v) :: r => by
  unfold putF
  split
  ·simp
  ·have := putF_len f y r
   simp only [List.length_cons]
   omega
theorem lt1000 {fs : List (Str × V)} {n : Nat} (h : fs.length ≤ n) (hn : n < 1000) : fs.length < 1000 := Nat.lt_of_le_of_lt h hn
theorem putF_lt {f : Str} {y : V} {fs : List (Str × V)} {n : Nat} (h : fs.length ≤ n) : (putF f y fs).length ≤ n + 1 := Nat.le_trans (putF_len f y fs) (Nat.succ_le_succ h)
theorem few0 : ([] : List (Str × V)).length < 1000 := by decide
theorem few1 {f : Str} {y : V} : (putF f y []).length < 1000 := lt1000 (putF_lt (Nat.le_refl _)) (by decide)
theorem few2 {f f' : Str} {y y' : V} : (putF f y (putF f' y' [])).length < 1000 := lt1000 (putF_lt (putF_lt (Nat.le_refl _))) (by decide)
theorem few3 {f f' g : Str} {y y' z : V} : (putF f y (putF f' y' (putF g z []))).length < 1000 := lt1000 (putF_lt (putF_lt (putF_lt (Nat.le_refl _)))) (by decide)
theorem br_t {b : Bool} {A B : Prop} [Decidable (b = true)] (h : b = true) (x : A) : if b = true then A else B := by rw [if_pos h]; exact x
theorem br_f {b : Bool} {A B : Prop} [Decidable (b = true)] (h : b = false) (x : B) : if b = true then A else B := by rw [if_neg (by rw [h]; exact Bool.false_ne_true)]; exact x
theorem br2 {b : Bool} {A B : Prop} [Decidable (b = true)] (x : b = true → A) (y : b = false → B) : if b = true then A else B := by
 cases b with
 | true => exact br_t rfl (x rfl)
 | false => exact br_f rfl (y rfl)
theorem dV_t {a b : Int} (h : a = b) : decide (V.int a = V.int b) = true := by rw [h]; exact decide_eq_true rfl
theorem dV_f {a b : Int} (h : a ≠ b) : decide (V.int a = V.int b) = false := decide_eq_false fun e => h (V.int.inj e)
theorem dV_iff {a b : Int} : (decide (V.int a = V.int b) = true) ↔ a = b := by
 constructor
 ·intro h; exact V.int.inj (of_decide_eq_true h)
 ·exact dV_t
theorem dV_eq {a b : Int} : decide (V.int a = V.int b) = decide (a = b) := by
 by_cases h : a = b
 ·rw [dV_t h,decide_eq_true h]
 ·rw [dV_f h,decide_eq_false h]
def top (i : Nat) : Stmt := PySem.Challenge.pw_ringreckon_s01_answers.main.body.getD i (.Pass ⟨0,0,0,0⟩)
abbrev s_Exact_init : Stmt := inClass (top 16) 0
theorem sc_Exact_init : FnScope ["self","sign","size","power"] ["self","sign","size","power"] (defScope s_Exact_init) := ⟨rfl,rfl,rfl,by decide +kernel,rfl,by decide +kernel,by decide +kernel⟩
abbrev s_Form_init : Stmt := inClass (top 17) 0
theorem sc_Form_init : FnScope ["self","places","least","limit"] ["self","places","least","limit"] (defScope s_Form_init) := ⟨rfl,rfl,rfl,by decide +kernel,rfl,by decide +kernel,by decide +kernel⟩
abbrev s_Rounded_init : Stmt := inClass (top 18) 0
theorem sc_Rounded_init : FnScope ["self","value","flags"] ["self","value","flags"] (defScope s_Rounded_init) := ⟨rfl,rfl,rfl,by decide +kernel,rfl,by decide +kernel,by decide +kernel⟩
abbrev s_exact_whole : Stmt := top 19
theorem sc_exact_whole : FnScope ["n","power"] ["n","power"] (defScope s_exact_whole) := ⟨rfl,rfl,rfl,by decide +kernel,rfl,by decide +kernel,by decide +kernel⟩
abbrev s_lead_of : Stmt := top 20
theorem sc_lead_of : FnScope ["value"] ["value"] (defScope s_lead_of) := ⟨rfl,rfl,rfl,by decide +kernel,rfl,by decide +kernel,by decide +kernel⟩
abbrev s_outward : Stmt := top 21
theorem sc_outward : FnScope ["sign"] ["sign"] (defScope s_outward) := ⟨rfl,rfl,rfl,by decide +kernel,rfl,by decide +kernel,by decide +kernel⟩
abbrev s_grows : Stmt := top 22
theorem sc_grows : FnScope ["sign","whole","rest","one","way"] ["sign","whole","rest","one","way"] (defScope s_grows) := ⟨rfl,rfl,rfl,by decide +kernel,rfl,by decide +kernel,by decide +kernel⟩
abbrev s_made_whole : Stmt := top 23
theorem sc_made_whole : FnScope ["sign","size","one","way","whole","rest"] ["sign","size","one","way"] (defScope s_made_whole) := ⟨rfl,rfl,rfl,by decide +kernel,rfl,by decide +kernel,by decide +kernel⟩
abbrev s_size_by : Stmt := top 24
theorem sc_size_by : FnScope ["value","unit"] ["value","unit"] (defScope s_size_by) := ⟨rfl,rfl,rfl,by decide +kernel,rfl,by decide +kernel,by decide +kernel⟩
abbrev s_units_in : Stmt := top 25
theorem sc_units_in : FnScope ["value","unit","way"] ["value","unit","way"] (defScope s_units_in) := ⟨rfl,rfl,rfl,by decide +kernel,rfl,by decide +kernel,by decide +kernel⟩
abbrev s_to_multiple : Stmt := top 26
theorem sc_to_multiple : FnScope ["value","unit","way"] ["value","unit","way"] (defScope s_to_multiple) := ⟨rfl,rfl,rfl,by decide +kernel,rfl,by decide +kernel,by decide +kernel⟩
abbrev s_same_size : Stmt := top 27
theorem sc_same_size : FnScope ["one","other","unit"] ["one","other"] (defScope s_same_size) := ⟨rfl,rfl,rfl,by decide +kernel,rfl,by decide +kernel,by decide +kernel⟩
abbrev s_is_below : Stmt := top 28
theorem sc_is_below : FnScope ["value","power"] ["value","power"] (defScope s_is_below) := ⟨rfl,rfl,rfl,by decide +kernel,rfl,by decide +kernel,by decide +kernel⟩
abbrev s_overflowed : Stmt := top 29
theorem sc_overflowed : FnScope ["sign","form","way"] ["sign","form","way"] (defScope s_overflowed) := ⟨rfl,rfl,rfl,by decide +kernel,rfl,by decide +kernel,by decide +kernel⟩
abbrev s_is_tiny : Stmt := top 30
theorem sc_is_tiny : FnScope ["value","form","way"] ["value","form","way"] (defScope s_is_tiny) := ⟨rfl,rfl,rfl,by decide +kernel,rfl,by decide +kernel,by decide +kernel⟩
abbrev s_rounded : Stmt := top 31
theorem sc_rounded : FnScope ["value","form","way","unit","near"] ["value","form","way"] (defScope s_rounded) := ⟨rfl,rfl,rfl,by decide +kernel,rfl,by decide +kernel,by decide +kernel⟩
abbrev bl (n : Int) : Int := (Builtin.Int.intBits n : Nat)
def ob (neg : Bool) : Int := if neg = true then 1 else 0
theorem ob_one (neg : Bool) : decide (V.int (ob neg) = V.int 1) = neg := by cases neg <;> rfl
def Wide (m : Nat) : Prop := ∃ k,k ≤ 300000 ∧ m < 2 ^ k
theorem Wide.shl {m j : Nat} (h : Wide m) (hj : j ≤ 600000) : Fit ((m * 2 ^ j : Nat) : Int) := by
 obtain ⟨k,h1,h2⟩ := h
 refine ⟨k + j,by omega,?_⟩
 rw [Int.natAbs_natCast,Nat.pow_add]
 exact Nat.mul_lt_mul_of_pos_right h2 (Nat.two_pow_pos j)
theorem Wide.fit {m : Nat} (h : Wide m) : Fit (m : Int) := by
 obtain ⟨k,h1,h2⟩ := h
 exact ⟨k,by omega,by rw [Int.natAbs_natCast]; exact h2⟩
theorem fit_small {i : Int} (h : i.natAbs < 2 ^ 64) : Fit i := ⟨64,by decide,h⟩
theorem fit_pow {j : Nat} (h : j ≤ 900000) : Fit ((2 ^ j : Nat) : Int) := ⟨j + 1,by omega,by rw [Int.natAbs_natCast]; exact Nat.pow_lt_pow_right (by decide) (by omega)⟩
structure UPre (m : Nat) (e u : Int) : Prop where
 wide : Wide m
 e0 : -300000 ≤ e
 e1 : e ≤ 300000
 u0 : -300000 ≤ u
 u1 : u ≤ 300000
 quo : u ≤ e ∨ m < 2 ^ (u - e).toNat * 2 ^ 4000
def fE (s m e : Int) : List (Str × V) := [("sign",.int s),("size",.int m),("power",.int e)]
structure CE (K : PySem.W.Frag) (C : Addr) : Prop where
 cl : Cls K C
 nS : NoAttr K C "sign"
 nM : NoAttr K C "size"
 nP : NoAttr K C "power"
theorem fE_s (s m e : Int) : (fE s m e).lookup ("sign" : Str) = some (.int s) := rfl
theorem fE_m (s m e : Int) : (fE s m e).lookup ("size" : Str) = some (.int m) := rfl
theorem fE_p (s m e : Int) : (fE s m e).lookup ("power" : Str) = some (.int e) := rfl
abbrev Ex (C : Addr) (H : Hp) (a : Addr) (neg : Bool) (m : Nat) (e : Int) : Prop := Obj C (fE (ob neg) m e) H a
def mkE (as : List V) : List (Str × V) := match as with
 | [a,b,c] => [("sign",a),("size",b),("power",c)]
 | _ => []
def spLead (C : Addr) : Sp := fun vs H Q _ => ∃ a s m e,vs = [.ref a] ∧ Obj C (fE s m e) H a ∧ Q (.int (e + bl m - 1)) H
def spOut : Sp := fun vs H Q _ => ∃ neg,vs = [.int (ob neg)] ∧ Q (.int (if neg = true then 1 else 2)) H
def spGrows : Sp := fun vs H Q _ => ∃ (neg : Bool) (q r d way : Nat),vs = [.int (ob neg),.int q,.int r,.int d,.int way] ∧ 0 < r ∧ Fit r ∧ Q (.bl (Rd20.more way neg (decide (q % 2 = 1)) r d)) H
def spUnits (C : Addr) : Sp := fun vs H Q _ => ∃ a neg m e u way,vs = [.ref a,.int u,.int (way : Nat)] ∧ Ex C H a neg m e ∧ UPre m e u ∧ Q (.int ((Rd20.units way neg m e u).1 : Nat)) H
def spMult (C : Addr) : Sp := fun vs H Q _ => ∃ a neg m e u way,vs = [.ref a,.int u,.int (way : Nat)] ∧ Ex C H a neg m e ∧ UPre m e u ∧ ∀ p H',Same H H' → H p = none → Ex C H' p neg (Rd20.units way neg m e u).1 u → Q (.ref p) H'
structure SPre (m n : Nat) (e f : Int) : Prop where
 m : Wide m
 n : Wide n
 e0 : -300000 ≤ e
 e1 : e ≤ 300000
 f0 : -300000 ≤ f
 f1 : f ≤ 300000
def same (m n : Nat) (e f : Int) : Bool := decide (m * 2 ^ (e - min e f).toNat = n * 2 ^ (f - min e f).toNat)
def spSame (C : Addr) : Sp := fun vs H Q _ => ∃ a b neg neg' m n e f,vs = [.ref a,.ref b] ∧ Ex C H a neg m e ∧ Ex C H b neg' n f ∧ SPre m n e f ∧ Q (.bl (same m n e f)) H
def spBelow (C : Addr) : Sp := fun vs H Q _ => ∃ a neg m e p,vs = [.ref a,.int p] ∧ Ex C H a neg m e ∧ Q (.bl (decide (m = 0) || decide (Rd20.top m e < p))) H
def fF (b l t : Int) : List (Str × V) := [("places",.int b),("least",.int l),("limit",.int t)]
def mkF (as : List V) : List (Str × V) := match as with
 | [a,b,c] => [("places",a),("least",b),("limit",c)]
 | _ => []
def fR (v : V) (f : Int) : List (Str × V) := [("value",v),("flags",.int f)]
def mkR (as : List V) : List (Str × V) := match as with
 | [a,b] => [("value",a),("flags",b)]
 | _ => []
theorem fF_b (b l t : Int) : (fF b l t).lookup ("places" : Str) = some (.int b) := rfl
theorem fF_l (b l t : Int) : (fF b l t).lookup ("least" : Str) = some (.int l) := rfl
theorem fF_t (b l t : Int) : (fF b l t).lookup ("limit" : Str) = some (.int t) := rfl
structure CF1 (K : PySem.W.Frag) (C : Addr) : Prop where
 cl : Cls K C
 nB : NoAttr K C "places"
 nL : NoAttr K C "least"
 nT : NoAttr K C "limit"
structure CR1 (K : PySem.W.Frag) (C : Addr) : Prop where
 cl : Cls K C
 nV : NoAttr K C "value"
 nF : NoAttr K C "flags"
abbrev Fo (CF : Addr) (H : Hp) (a : Addr) (bits : Nat) (least most : Int) : Prop := Obj CF (fF bits least most) H a
def comeE (most : Int) : Rd20.Come → Nat × Int
 | .units q u => (q,u)
 | .inf => (1,most)
def overE (bits : Nat) (most : Int) (way : Nat) (neg : Bool) : Nat × Int := if Rd20.over way neg = true then (1,most) else (2 ^ bits - 1,most - bits)
def spOver (C CF : Addr) : Sp := fun vs H Q _ => ∃ neg f bits least most way,vs = [.int (ob neg),.ref f,.int (way : Nat)] ∧ Fo CF H f bits least most ∧ bits ≤ 64 ∧
 ∀ p H',Same H H' → H p = none → Ex C H' p neg (overE bits most way neg).1 (overE bits most way neg).2 → Q (.ref p) H'
theorem over_eq (way : Nat) (neg : Bool) : Rd20.over way neg = (decide (way = 0) || decide ((way : Int) = (if neg = true then 1 else 2))) := by
 unfold Rd20.over
 match way with
 | 0 => rfl
 | 1 => cases neg <;> rfl
 | 2 => cases neg <;> rfl
 | n + 3 =>
  have h1 : decide (((n + 3 : Nat) : Int) = (if neg = true then 1 else 2)) = false := decide_eq_false (by split <;> omega)
  rw [h1,decide_eq_false (by omega)]
  rfl
theorem qb {Q : VK} {H : Hp} {b c : Bool} (k : Q (.bl c) H) (e : b = c) : Q (.bl b) H := e ▸ k
theorem qi {Q : VK} {H : Hp} {b c : Int} (k : Q (.int c) H) (e : b = c) : Q (.int b) H := e ▸ k
theorem b_min : bootBuiltins (Str.ofString "min") = some (.builtin "min") := by decide +kernel
theorem b_max : bootBuiltins (Str.ofString "max") = some (.builtin "max") := by decide +kernel
theorem b_abs : bootBuiltins (Str.ofString "abs") = some (.builtin "abs") := by decide +kernel
theorem b_len : bootBuiltins (Str.ofString "len") = some (.builtin "len") := by decide +kernel
theorem b_any : bootBuiltins (Str.ofString "any") = some (.builtin "any") := by decide +kernel
theorem b_all : bootBuiltins (Str.ofString "all") = some (.builtin "all") := by decide +kernel
theorem bl_log (m : Nat) (h : m ≠ 0) : bl (m : Int) = (Nat.log2 m : Int) + 1 := by
 show ((Builtin.Int.intBits (m : Int) : Nat) : Int) = _
 unfold Builtin.Int.intBits
 have : ((m : Int) == 0) = false := by simp; exact h
 rw [this,if_neg Bool.false_ne_true,Int.natAbs_natCast]
 rfl
section
variable {P : Program} {w : World} {K : PySem.W.Frag} {mg : Str → Option Value} {base : Heap} {C CF CR : Addr}
theorem ok_Exact (F : SrcC K mg "Exact" C "Exact.__init__" s_Exact_init ["self","sign","size","power"]) (T : CE K C) : Cla P w K mg base "Exact" C 1 ["self","sign","size","power"] (spInit C 3 mkE) := by
 refine F.cla sc_Exact_init (fun vs H Q E h => ?_) (fun f cdv A outer s H vs Q E hr h => ?_)
 ·obtain ⟨p,dx,as,rfl,hl,_⟩ := h
  simp [hl]
 ·obtain ⟨p,dx,as,rfl,hl,hp,k⟩ := h
  match as,hl with
  | [a,b,c],_ =>
   refine ⟨_,(pss_cons (ps_fld (pv 0) (pv 1) rfl)
    (pss_cons (ps_fld (pv 0) (pv 2) rfl)
    (pss_one (ps_fld (pv 0) (pv 3) rfl)))),?_⟩
   refine ⟨_,rfl,_,rfl,p,C,dx,[],rfl,hp,T.cl,T.nS,few0,?_⟩
   refine ⟨_,rfl,_,rfl,p,C,dx,_,rfl,upd_same,T.cl,T.nM,few1,?_⟩
   refine ⟨_,rfl,_,rfl,p,C,dx,_,rfl,upd_same,T.cl,T.nP,few2,?_⟩
   exact k _ upd_same fun b o e hb => by rw [upd_ne hb,upd_ne hb,upd_ne hb]; exact e
theorem ok_lead (F : Src K mg "lead_of" s_lead_of ["value"]) (T : CE K C) : Fn P w K mg base "lead_of" 1 ["value"] (spLead C) := by
 refine F.fn sc_lead_of (fun vs H Q E h => ?_) (fun f cdv A outer s H vs Q E hr h => ?_)
 ·obtain ⟨a,s,m,e,rfl,_⟩ := h
  rfl
 ·obtain ⟨a,s',m,e,rfl,⟨dx,ha⟩,k⟩ := h
  refine ⟨_,(pss_one (ps_ret (pe_op op_sub (pe_op op_add (pe_fld (pv 0) rfl) (pe_bm0 PySem.F.plainAttrs_int PySem.F.slot_int_bit_length PySem.F.type_int_bit_length mt_bitlen (pe_fld (pv 0) rfl))) pe_int))),?_⟩
  refine ⟨_,rfl,a,C,dx,_,_,rfl,ha,T.cl,T.nP,fE_p _ _ _,?_⟩
  refine ⟨_,rfl,a,C,dx,_,_,rfl,ha,T.cl,T.nM,fE_m _ _ _,rfl,_,rfl,rfl,?_⟩
  exact ⟨_,_,rfl,rfl,_,_,rfl,rfl,k⟩
theorem ok_outward (F : Src K mg "outward" s_outward ["sign"]) (c_DOWN : Con1 mg "DOWN" (.int 1)) (c_UP : Con1 mg "UP" (.int 2)) : Fn P w K mg base "outward" 1 ["sign"] spOut := by
 refine F.fn sc_outward (fun vs H Q E h => ?_) (fun f cdv A outer s H vs Q E hr h => ?_)
 ·obtain ⟨neg,rfl,_⟩ := h
  rfl
 ·obtain ⟨neg,rfl,k⟩ := h
  refine ⟨_,(pss_one (ps_ret (pe_ifExp (pt_cmpR op_eq (pv 0) pe_int (nomark _)) (pe_c1 c_DOWN rfl) (pe_c1 c_UP rfl)))),?_⟩
  refine ⟨_,rfl,rfl,_,rfl,?_⟩
  cases neg
  ·exact k
  ·exact k
theorem ok_grows (F : Src K mg "grows" s_grows ["sign","whole","rest","one","way"]) (c_NEAREST : Con1 mg "NEAREST" (.int 0)) (f_outward : Fn P w K mg base "outward" 1 ["sign"] spOut) :
  Fn P w K mg base "grows" 2 ["sign","whole","rest","one","way"] spGrows := by
 refine F.fn sc_grows (fun vs H Q E h => ?_) (fun f cdv A outer s H vs Q E hr h => ?_)
 ·obtain ⟨neg,q,r,d,way,rfl,_⟩ := h
  rfl
 ·obtain ⟨neg,q,r,d,way,rfl,hr0,hf,k⟩ := h
  refine ⟨_,(pss_cons (ps_if (pt_cmpR op_eq (pv 4) (pe_c1 c_NEAREST rfl) (nomark _)) (pss_one (ps_ret (pe_or (pe_cmpR op_gt (pe_op op_mulB pe_int (pv 2)) (pv 3) (nomark _)) (pe_one (pe_and (pe_cmpR op_eq (pe_op op_mulB pe_int (pv 2)) (pv 3) (nomark _)) (pe_one (pe_cmpR op_eq (pe_op op_mod (pv 1) pe_int) pe_int (nomark _)))))))) pss_nil)
    (pss_one (ps_ret (pe_cmpR op_eq (pv 4) (pf f_outward hr (pa_cons (pv 0) pa_nil)) (nomark _))))),?_⟩
  have h2 : CMulB 2 (r : Int) := ⟨fit_small (by decide),hf⟩
  refine ⟨_,rfl,rfl,_,rfl,?_⟩
  unfold Rd20.more at k
  rw [if_neg (Nat.ne_of_gt hr0)] at k
  by_cases hw : way = 0
  ·subst hw
   rw [if_pos rfl] at k
   refine ⟨_,rfl,_,_,rfl,rfl,h2,_,rfl,_,_,rfl,rfl,_,rfl,?_⟩
   refine br2 (fun h => ?_) (fun h => ?_)
   ·have h' : d < 2 * r := by have := of_decide_eq_true h; omega
    rw [decide_eq_true h',Bool.true_or] at k
    exact k
   ·have h' : ¬ d < 2 * r := by have := of_decide_eq_false h; omega
    rw [decide_eq_false h',Bool.false_or] at k
    refine ⟨_,rfl,_,_,rfl,rfl,h2,_,rfl,rfl,_,rfl,?_⟩
    refine br2 (fun h => ?_) (fun h => ?_)
    ·have e1 : 2 * r = d := by have := dV_iff.mp h; omega
     rw [decide_eq_true e1,Bool.true_and] at k
     refine ⟨_,rfl,_,_,rfl,rfl,(by show (0 : Int) < 2; decide),rfl,?_⟩
     have e2 : decide (V.int ((q : Int) % 2) = V.int 1) = decide (q % 2 = 1) := by
      rw [dV_eq]
      exact decide_eq_decide.mpr (by omega)
     show Q (V.bl (decide (V.int ((q : Int) % 2) = V.int 1))) H
     rw [e2]
     exact k
    ·have e1 : ¬ 2 * r = d := by
      intro e
      have := (dV_iff (a := 2 * (r : Int)) (b := d)).mpr (by omega)
      rw [this] at h
      cases h
     rw [decide_eq_false e1,Bool.false_and] at k
     exact k
  ·rw [if_neg hw] at k
   refine br_f (dV_f (by omega)) ?_
   refine ⟨_,rfl,_,rfl,neg,rfl,rfl,?_⟩
   have e3 : decide (V.int (way : Int) = V.int (if neg = true then 1 else 2)) = (if way = 1 then neg else if way = 2 then !neg else false) := by
    rw [dV_eq]
    cases neg
    ·by_cases h1 : way = 1
     ·subst h1; rfl
     ·by_cases h2 : way = 2
      ·subst h2; rfl
      ·rw [if_neg h1,if_neg h2]; exact decide_eq_false (by simp; omega)
    ·by_cases h1 : way = 1
     ·subst h1; rfl
     ·by_cases h2 : way = 2
      ·subst h2; rfl
      ·rw [if_neg h1,if_neg h2]; exact decide_eq_false (by simp; omega)
   show Q (V.bl (decide (V.int (way : Int) = V.int (if neg = true then 1 else 2)))) H
   rw [e3]
   exact k
def madeE (way : Nat) (neg : Bool) (m d : Nat) : Nat := if Rd20.more way neg (decide (m / d % 2 = 1)) (m % d) d = true then m / d + 1 else m / d
def spMade : Sp := fun vs H Q _ => ∃ (neg : Bool) (m d way : Nat),vs = [.int (ob neg),.int m,.int d,.int way] ∧ 0 < d ∧ Fit m ∧ (m < d * 2 ^ 4000 ∨ d.log2 < 9000) ∧ Q (.int (madeE way neg m d)) H
def spSize (C : Addr) : Sp := fun vs H Q _ => ∃ a s m e u,vs = [.ref a,.int u] ∧ Obj C (fE s (m : Nat) e) H a ∧ Wide m ∧ u ≤ e ∧ e - u ≤ 1000000 ∧ Q (.int (m * 2 ^ (e - u).toNat : Nat)) H
def spExW (C : Addr) : Sp := fun vs H Q _ => ∃ n p : Int,vs = [.int n,.int p] ∧ ∀ a H',Same H H' → H a = none → Ex C H' a (decide (n < 0)) n.natAbs p → Q (.ref a) H'
theorem ok_made (F : Src K mg "made_whole" s_made_whole ["sign","size","one","way"]) (f_grows : Fn P w K mg base "grows" 2 ["sign","whole","rest","one","way"] spGrows) : Fn P w K mg base "made_whole" 3 ["sign","size","one","way"] spMade := by
 refine F.fn sc_made_whole (fun vs H Q E h => ?_) (fun f cdv A outer s H vs Q E hr h => ?_)
 ·obtain ⟨neg,m,d,way,rfl,_⟩ := h
  rfl
 ·obtain ⟨neg,m,d,way,rfl,hd,hw,hq,k⟩ := h
  refine ⟨_,(pss_cons (ps_set (i := 4) sc_made_whole.nd rfl (Or.inl rfl) (pe_op op_fdivB (pv 1) (pv 2)))
    (pss_cons (ps_set (i := 5) sc_made_whole.nd rfl (Or.inl rfl) (pe_op op_mod (pv 1) (pv 2)))
    (pss_cons (ps_if (PW.pt (pw_and (pt_cmpR op_gt (pv 5) pe_int (nomark _)) (pw_and1 (pt_val (pf f_grows hr (pa_cons (pv 0) (pa_cons (pv 4) (pa_cons (pv 5) (pa_cons (pv 2) (pa_cons (pv 3) pa_nil)))))))))) (pss_one (ps_ret (pe_op op_add (pv 4) pe_int))) pss_nil)
    (pss_one (ps_ret (pv 4)))))),?_⟩
  unfold madeE at k
  refine ⟨_,rfl,_,rfl,_,_,rfl,rfl,⟨by omega,by rw [Int.natAbs_natCast,Int.natAbs_natCast]; exact hq⟩,?_⟩
  refine ⟨_,rfl,_,rfl,_,_,rfl,rfl,(by show (0 : Int) < (d : Int); omega),?_⟩
  have e3 : (m : Int) / (d : Int) = ((m / d : Nat) : Int) := by simp
  have e4 : (m : Int) % (d : Int) = ((m % d : Nat) : Int) := by simp
  dsimp only
  rw [e3,e4]
  refine ⟨_,rfl,_,_,rfl,rfl,_,rfl,?_⟩
  have fit : Fit ((m % d : Nat) : Int) := by
   obtain ⟨kk,k1,k2⟩ := hw
   exact ⟨kk,by omega,by rw [Int.natAbs_natCast]; rw [Int.natAbs_natCast] at k2; exact Nat.lt_of_le_of_lt (Nat.mod_le _ _) k2⟩
  refine br2 (fun h => ?_) (fun h => ?_)
  ·have h1 : 0 < m % d := by have := of_decide_eq_true h; omega
   refine ⟨_,rfl,_,rfl,_,rfl,_,rfl,_,rfl,neg,m / d,m % d,d,way,rfl,h1,fit,?_⟩
   refine ⟨_,rfl,?_⟩
   refine br2 (fun h => ?_) (fun h => ?_)
   ·rw [if_pos h] at k
    exact ⟨_,rfl,_,_,rfl,rfl,k⟩
   ·rw [if_neg (by rw [h]; exact Bool.false_ne_true)] at k
    exact ⟨_,rfl,k⟩
  ·have h1 : m % d = 0 := by have := of_decide_eq_false h; omega
   have h2 : Rd20.more way neg (decide (m / d % 2 = 1)) (m % d) d = false := by unfold Rd20.more; rw [if_pos h1]
   rw [if_neg (by rw [h2]; exact Bool.false_ne_true)] at k
   refine br_f rfl ?_
   exact ⟨_,rfl,k⟩
theorem ok_size (F : Src K mg "size_by" s_size_by ["value","unit"]) (T : CE K C) : Fn P w K mg base "size_by" 1 ["value","unit"] (spSize C) := by
 refine F.fn sc_size_by (fun vs H Q E h => ?_) (fun f cdv A outer s H vs Q E hr h => ?_)
 ·obtain ⟨a,s,m,e,u,rfl,_⟩ := h
  rfl
 ·obtain ⟨a,s,m,e,u,rfl,⟨dx,ha⟩,hw,h1,h2,k⟩ := h
  refine ⟨_,(pss_one (ps_ret (pe_op op_shlB (pe_fld (pv 0) rfl) (pe_op op_sub (pe_fld (pv 0) rfl) (pv 1))))),?_⟩
  refine ⟨_,rfl,a,C,dx,_,_,rfl,ha,T.cl,T.nM,fE_m _ _ _,_,rfl,a,C,dx,_,_,rfl,ha,T.cl,T.nP,fE_p _ _ _,_,rfl,_,_,rfl,rfl,_,_,rfl,rfl,⟨by omega,by omega,hw.fit⟩,?_⟩
  exact qi k (by simp)
theorem ok_exw (F : Src K mg "exact_whole" s_exact_whole ["n","power"]) (n_abs : mg "abs" = none) (k_Exact : Cla P w K mg base "Exact" C 1 ["self","sign","size","power"] (spInit C 3 mkE)) : Fn P w K mg base "exact_whole" 3 ["n","power"] (spExW C) := by
 refine F.fn sc_exact_whole (fun vs H Q E h => ?_) (fun f cdv A outer s H vs Q E hr h => ?_)
 ·obtain ⟨n,p,rfl,_⟩ := h
  rfl
 ·obtain ⟨n,q,rfl,k⟩ := h
  refine ⟨_,(pss_one (ps_ret (pn k_Exact hr (pa_cons (pe_ifExp (pt_cmpR op_lt (pv 0) pe_int (nomark _)) pe_int pe_int) (pa_cons (pe_callB call_abs (by rfl) n_abs b_abs (pa_cons (pv 0) pa_nil)) (pa_cons (pv 1) pa_nil)))))),?_⟩
  refine ⟨_,rfl,_,_,rfl,rfl,_,rfl,?_⟩
  have e2 : (if n < 0 then -n else n) = ((n.natAbs : Nat) : Int) := by split <;> omega
  refine br2 (fun h => ?_) (fun h => ?_)
  ·refine ⟨_,rfl,n,rfl,_,rfl,?_⟩
   dsimp only
   rw [e2]
   rw [h] at k
   show ∀ (x dx : Addr),_ → _ → _ → _
   refine new_of (n := 3) (mk := mkE) (by rfl) ?_
   exact fun p H' s1 n1 o1 => k p H' s1 n1 o1
  ·refine ⟨_,rfl,n,rfl,_,rfl,?_⟩
   dsimp only
   rw [e2]
   rw [h] at k
   show ∀ (x dx : Addr),_ → _ → _ → _
   refine new_of (n := 3) (mk := mkE) (by rfl) ?_
   exact fun p H' s1 n1 o1 => k p H' s1 n1 o1
theorem units_made {way : Nat} {neg : Bool} {m : Nat} {e u : Int} (h : ¬ u ≤ e) : (Rd20.units way neg m e u).1 = madeE way neg m (2 ^ (u - e).toNat) := by
 unfold Rd20.units
 rw [if_neg h]
 rfl
theorem ok_units (F : Src K mg "units_in" s_units_in ["value","unit","way"]) (T : CE K C) (f_made_whole : Fn P w K mg base "made_whole" 3 ["sign","size","one","way"] spMade) (f_size_by : Fn P w K mg base "size_by" 1 ["value","unit"] (spSize C)) :
  Fn P w K mg base "units_in" 4 ["value","unit","way"] (spUnits C) := by
 refine F.fn sc_units_in (fun vs H Q E h => ?_) (fun f cdv A outer s H vs Q E hr h => ?_)
 ·obtain ⟨a,neg,m,e,u,way,rfl,_⟩ := h
  rfl
 ·obtain ⟨a,neg,m,e,u,way,rfl,⟨dx,ha⟩,hp,k⟩ := h
  obtain ⟨hw,e0,e1,u0,u1,hq⟩ := hp
  refine ⟨_,(pss_cons (ps_if (pt_cmpR op_ge (pe_fld (pv 0) rfl) (pv 1) (nomark _)) (pss_one (ps_ret (pf f_size_by hr (pa_cons (pv 0) (pa_cons (pv 1) pa_nil))))) pss_nil)
    (pss_one (ps_ret (pf f_made_whole hr (pa_cons (pe_fld (pv 0) rfl) (pa_cons (pe_fld (pv 0) rfl) (pa_cons (pe_op op_shlB pe_int (pe_op op_sub (pv 1) (pe_fld (pv 0) rfl))) (pa_cons (pv 2) pa_nil)))))))),?_⟩
  refine ⟨_,rfl,a,C,dx,_,_,rfl,ha,T.cl,T.nP,fE_p _ _ _,_,rfl,_,_,rfl,rfl,_,rfl,?_⟩
  refine br2 (fun h => ?_) (fun h => ?_)
  ·have h' : u ≤ e := of_decide_eq_true h
   have e1' : (Rd20.units way neg m e u).1 = m * 2 ^ (e - u).toNat := by unfold Rd20.units; rw [if_pos h']
   rw [e1'] at k
   exact ⟨_,rfl,_,rfl,a,_,m,e,u,rfl,⟨dx,ha⟩,hw,h',by omega,k⟩
  ·have h' : ¬ u ≤ e := of_decide_eq_false h
   rw [units_made h'] at k
   have hq' : m < 2 ^ (u - e).toNat * 2 ^ 4000 := hq.resolve_left h'
   have hd : 0 < 2 ^ (u - e).toNat := Nat.two_pow_pos _
   refine ⟨_,rfl,a,C,dx,_,_,rfl,ha,T.cl,T.nS,fE_s _ _ _,_,rfl,a,C,dx,_,_,rfl,ha,T.cl,T.nM,fE_m _ _ _,_,rfl,_,rfl,a,C,dx,_,_,rfl,ha,T.cl,T.nP,fE_p _ _ _,_,_,rfl,rfl,_,_,rfl,rfl,⟨by omega,by omega,fit_small (by decide)⟩,_,rfl,?_⟩
   have e2 : (1 : Int) * 2 ^ (u - e).toNat = ((2 ^ (u - e).toNat : Nat) : Int) := by simp
   dsimp only
   rw [e2]
   exact ⟨neg,m,2 ^ (u - e).toNat,way,rfl,hd,hw.fit,.inl hq',k⟩
theorem ok_mult (F : Src K mg "to_multiple" s_to_multiple ["value","unit","way"]) (T : CE K C) (k_Exact : Cla P w K mg base "Exact" C 1 ["self","sign","size","power"] (spInit C 3 mkE))
  (f_units_in : Fn P w K mg base "units_in" 4 ["value","unit","way"] (spUnits C)) : Fn P w K mg base "to_multiple" 5 ["value","unit","way"] (spMult C) := by
 refine F.fn sc_to_multiple (fun vs H Q E h => ?_) (fun f cdv A outer s H vs Q E hr h => ?_)
 ·obtain ⟨a,neg,m,e,u,way,rfl,_⟩ := h
  rfl
 ·obtain ⟨a,neg,m,e,u,way,rfl,⟨dx,ha⟩,hp,k⟩ := h
  refine ⟨_,(pss_one (ps_ret (pn k_Exact hr (pa_cons (pe_fld (pv 0) rfl) (pa_cons (pf f_units_in hr (pa_cons (pv 0) (pa_cons (pv 1) (pa_cons (pv 2) pa_nil)))) (pa_cons (pv 1) pa_nil)))))),?_⟩
  refine ⟨_,rfl,a,C,dx,_,_,rfl,ha,T.cl,T.nS,fE_s _ _ _,_,rfl,_,rfl,_,rfl,a,neg,m,e,u,way,rfl,⟨dx,ha⟩,hp,_,rfl,?_⟩
  exact new_of (n := 3) (mk := mkE) rfl fun p H' s1 n1 o1 => k p H' s1 n1 o1
theorem ok_same (F : Src K mg "same_size" s_same_size ["one","other"]) (T : CE K C) (n_min : mg "min" = none) (f_size_by : Fn P w K mg base "size_by" 1 ["value","unit"] (spSize C)) : Fn P w K mg base "same_size" 2 ["one","other"] (spSame C) := by
 refine F.fn sc_same_size (fun vs H Q E h => ?_) (fun f cdv A outer s H vs Q E hr h => ?_)
 ·obtain ⟨a,b,neg,neg',m,n,e,f,rfl,_⟩ := h
  rfl
 ·obtain ⟨a,b,neg,neg',m,n,e,f,rfl,⟨dx,ha⟩,⟨dy,hb⟩,hp,k⟩ := h
  obtain ⟨hm,hn,e0,e1,f0,f1⟩ := hp
  refine ⟨_,(pss_cons (ps_set (i := 2) sc_same_size.nd rfl (Or.inl rfl) (pe_callB (call_min2 rfl) (by rfl) n_min b_min (pa_cons (pe_fld (pv 0) rfl) (pa_cons (pe_fld (pv 1) rfl) pa_nil))))
    (pss_one (ps_ret (pe_cmpR op_eq (pf f_size_by hr (pa_cons (pv 0) (pa_cons (pv 2) pa_nil))) (pf f_size_by hr (pa_cons (pv 1) (pa_cons (pv 2) pa_nil))) (nomark _))))),?_⟩
  refine ⟨_,rfl,a,C,dx,_,_,rfl,ha,T.cl,T.nP,fE_p _ _ _,_,rfl,b,C,dy,_,_,rfl,hb,T.cl,T.nP,fE_p _ _ _,e,f,rfl,?_⟩
  have em : (if f < e then f else e) = min e f := by
   rw [Int.min_def]
   split <;> split <;> omega
  dsimp only
  rw [em]
  have h1 := Int.min_le_left e f
  have h2 := Int.min_le_right e f
  have h3 : -300000 ≤ min e f := by omega
  unfold same at k
  generalize min e f = u at *
  refine ⟨_,rfl,_,rfl,a,_,m,e,u,rfl,⟨dx,ha⟩,hm,h1,by omega,_,rfl,_,rfl,b,_,n,f,u,rfl,⟨dy,hb⟩,hn,h2,by omega,rfl,?_⟩
  refine qb k ?_
  show decide (V.int ((m * 2 ^ (e - u).toNat : Nat) : Int) = V.int ((n * 2 ^ (f - u).toNat : Nat) : Int)) = _
  rw [dV_eq]
  refine decide_eq_decide.mpr ?_
  exact Int.ofNat_inj
theorem ok_below (F : Src K mg "is_below" s_is_below ["value","power"]) (T : CE K C) (f_lead_of : Fn P w K mg base "lead_of" 1 ["value"] (spLead C)) : Fn P w K mg base "is_below" 2 ["value","power"] (spBelow C) := by
 refine F.fn sc_is_below (fun vs H Q E h => ?_) (fun f cdv A outer s H vs Q E hr h => ?_)
 ·obtain ⟨a,neg,m,e,p,rfl,_⟩ := h
  rfl
 ·obtain ⟨a,neg,m,e,p,rfl,⟨dx,ha⟩,k⟩ := h
  refine ⟨_,(pss_one (ps_ret (pe_or (pe_cmpR op_eq (pe_fld (pv 0) rfl) pe_int (nomark _)) (pe_one (pe_cmpR op_lt (pf f_lead_of hr (pa_cons (pv 0) pa_nil)) (pv 1) (nomark _)))))),?_⟩
  refine ⟨_,rfl,a,C,dx,_,_,rfl,ha,T.cl,T.nM,fE_m _ _ _,rfl,_,rfl,?_⟩
  refine br2 (fun h => ?_) (fun h => ?_)
  ·have hm : m = 0 := by have := dV_iff.mp h; omega
   rw [decide_eq_true hm,Bool.true_or] at k
   exact k
  ·have hm : m ≠ 0 := by
    intro e0
    rw [dV_t (by omega)] at h
    cases h
   rw [decide_eq_false hm,Bool.false_or] at k
   refine ⟨_,rfl,a,_,_,_,rfl,⟨dx,ha⟩,_,rfl,_,_,rfl,rfl,?_⟩
   dsimp only
   rw [bl_log m hm]
   have e4 : e + ((Nat.log2 m : Int) + 1) - 1 = Rd20.top m e := by unfold Rd20.top; omega
   rw [e4]
   exact k
theorem ok_over (F : Src K mg "overflowed" s_overflowed ["sign","form","way"]) (T : CF1 K CF) (c_NEAREST : Con1 mg "NEAREST" (.int 0)) (f_outward : Fn P w K mg base "outward" 1 ["sign"] spOut)
  (k_Exact : Cla P w K mg base "Exact" C 1 ["self","sign","size","power"] (spInit C 3 mkE)) : Fn P w K mg base "overflowed" 3 ["sign","form","way"] (spOver C CF) := by
 refine F.fn sc_overflowed (fun vs H Q E h => ?_) (fun f cdv A outer s H vs Q E hr h => ?_)
 ·obtain ⟨neg,f,bits,least,most,way,rfl,_⟩ := h
  rfl
 ·obtain ⟨neg,g,bits,least,most,way,rfl,⟨dx,hg⟩,hb,k⟩ := h
  refine ⟨_,(pss_cons (ps_if (PW.pt (pw_or (pt_cmpR op_eq (pv 2) (pe_c1 c_NEAREST rfl) (nomark _)) (pw_or1 (pt_cmpR op_eq (pv 2) (pf f_outward hr (pa_cons (pv 0) pa_nil)) (nomark _))))) (pss_one (ps_ret (pn k_Exact hr (pa_cons (pv 0) (pa_cons pe_int (pa_cons (pe_fld (pv 1) rfl) pa_nil)))))) pss_nil)
    (pss_one (ps_ret (pn k_Exact hr (pa_cons (pv 0) (pa_cons (pe_op op_sub (pe_op op_shlB pe_int (pe_fld (pv 1) rfl)) pe_int) (pa_cons (pe_op op_sub (pe_fld (pv 1) rfl) (pe_fld (pv 1) rfl)) pa_nil))))))),?_⟩
  have q1 : Rd20.over way neg = true → ∀ p H',Same H H' → H p = none → Ex C H' p neg 1 most → Q (.ref p) H' := fun h p H' a b c => k p H' a b (by unfold overE; rw [if_pos h]; exact c)
  have q2 : Rd20.over way neg = false → ∀ p H',Same H H' → H p = none → Ex C H' p neg (2 ^ bits - 1) (most - bits) → Q (.ref p) H' := fun h p H' a b c => k p H' a b (by unfold overE; rw [if_neg (by rw [h]; exact Bool.false_ne_true)]; exact c)
  rw [over_eq] at q1 q2
  have e5 : ((1 : Int) * 2 ^ bits - 1) = ((2 ^ bits - 1 : Nat) : Int) := by
   have := Nat.two_pow_pos bits
   have e6 : (2 : Int) ^ bits = ((2 ^ bits : Nat) : Int) := by simp
   rw [e6]
   omega
  refine ⟨_,rfl,rfl,_,rfl,?_⟩
  refine br2 (fun h => ?_) (fun h => ?_)
  ·have h0 : way = 0 := by have := dV_iff.mp h; omega
   refine br_t rfl ?_
   refine ⟨_,rfl,_,rfl,g,CF,dx,_,_,rfl,hg,T.cl,T.nT,fF_t _ _ _,?_⟩
   exact new_of (n := 3) (mk := mkE) rfl fun p H' s1 n1 o1 => q1 (by rw [decide_eq_true h0,Bool.true_or]) p H' s1 n1 o1
  ·have h0 : way ≠ 0 := by
    intro e0
    rw [dV_t (by omega)] at h
    cases h
   refine ⟨_,rfl,_,rfl,neg,rfl,rfl,_,rfl,?_⟩
   refine br2 (fun h => ?_) (fun h => ?_)
   ·have h1 := dV_iff.mp h
    refine ⟨_,rfl,_,rfl,g,CF,dx,_,_,rfl,hg,T.cl,T.nT,fF_t _ _ _,?_⟩
    exact new_of (n := 3) (mk := mkE) rfl fun p H' s1 n1 o1 => q1 (by rw [decide_eq_true h1,Bool.or_true]) p H' s1 n1 o1
   ·have h1 : ¬ ((way : Int) = if neg = true then 1 else 2) := by
     intro e0
     rw [dV_t e0] at h
     cases h
    refine ⟨_,rfl,_,rfl,g,CF,dx,_,_,rfl,hg,T.cl,T.nB,fF_b _ _ _,_,_,rfl,rfl,⟨by omega,by omega,fit_small (by decide)⟩,_,_,rfl,rfl,_,rfl,g,CF,dx,_,_,rfl,hg,T.cl,T.nT,fF_t _ _ _,
     _,rfl,g,CF,dx,_,_,rfl,hg,T.cl,T.nB,fF_b _ _ _,_,_,rfl,rfl,?_⟩
    dsimp only
    rw [Int.toNat_natCast,e5]
    exact new_of (n := 3) (mk := mkE) rfl fun p H' s1 n1 o1 => q2 (by rw [decide_eq_false h0,decide_eq_false h1]; rfl) p H' s1 n1 o1
end
structure RPre (m : Nat) (e : Int) (bits : Nat) (least most : Int) : Prop where
 wide : ∃ k,k ≤ 90000 ∧ m < 2 ^ k
 e0 : -200000 ≤ e
 e1 : e ≤ 200000
 b0 : 1 ≤ bits
 b1 : bits ≤ 64
 l0 : -20000 ≤ least
 l1 : least ≤ 20000
 t0 : -20000 ≤ most
 t1 : most ≤ 20000
theorem log_lt {m k : Nat} (h0 : m ≠ 0) (h : m < 2 ^ k) : Nat.log2 m < k := (Nat.log2_lt h0).mpr h
theorem RPre.at_ {m : Nat} {e : Int} {bits : Nat} {least most : Int} (h : RPre m e bits least most) (h0 : m ≠ 0) {u : Int} (hu : Rd20.top m e - bits + 1 ≤ u) (hu1 : u ≤ 300000) : UPre m e u := by
 obtain ⟨⟨k,k1,k2⟩,e0,e1,b0,b1,_,_,_,_⟩ := h
 have hl := log_lt h0 k2
 unfold Rd20.top at hu
 refine ⟨⟨k,by omega,k2⟩,by omega,by omega,by omega,hu1,?_⟩
 by_cases hue : u ≤ e
 ·exact .inl hue
 ·refine .inr ?_
  rw [← Nat.pow_add]
  exact Nat.lt_of_lt_of_le Nat.lt_log2_self (Nat.pow_le_pow_right (by decide) (by omega))
theorem RPre.u1 {m : Nat} {e : Int} {bits : Nat} {least most : Int} (h : RPre m e bits least most) (h0 : m ≠ 0) : UPre m e (Rd20.top m e - bits + 1) := by
 refine h.at_ h0 (Int.le_refl _) ?_
 obtain ⟨⟨k,k1,k2⟩,e0,e1,b0,b1,_,_,_,_⟩ := h
 have hl := log_lt h0 k2
 unfold Rd20.top
 omega
theorem RPre.u2 {m : Nat} {e : Int} {bits : Nat} {least most : Int} (h : RPre m e bits least most) (h0 : m ≠ 0) : UPre m e (max (Rd20.top m e) least - bits + 1) := by
 refine h.at_ h0 (by omega) ?_
 obtain ⟨⟨k,k1,k2⟩,e0,e1,b0,b1,_,_,_,_⟩ := h
 have hl := log_lt h0 k2
 unfold Rd20.top
 omega
theorem units_le (way : Nat) (neg : Bool) (m : Nat) (e u : Int) : (Rd20.units way neg m e u).1 ≤ m * 2 ^ (e - u).toNat + 1 := by
 unfold Rd20.units
 split
 ·exact Nat.le_succ _
 ·rename_i h
  have e0 : (e - u).toNat = 0 := by omega
  rw [e0,Nat.pow_zero,Nat.mul_one]
  have hd := Nat.div_le_self m (2 ^ (u - e).toNat)
  dsimp only
  split <;> omega
theorem RPre.near {m : Nat} {e : Int} {bits : Nat} {least most : Int} (h : RPre m e bits least most) (h0 : m ≠ 0) {u : Int} (hu : Rd20.top m e - bits + 1 ≤ u) (way : Nat) (neg : Bool) : Wide (Rd20.units way neg m e u).1 := by
 obtain ⟨⟨k,k1,k2⟩,e0,e1,b0,b1,_,_,_,_⟩ := h
 unfold Rd20.top at hu
 have h1 := units_le way neg m e u
 refine ⟨k + 65,by omega,Nat.lt_of_le_of_lt h1 ?_⟩
 have h2 : (e - u).toNat ≤ 64 := by omega
 have h3 : m * 2 ^ (e - u).toNat < 2 ^ (k + 64) := by
  rw [Nat.pow_add]
  exact Nat.lt_of_lt_of_le (Nat.mul_lt_mul_of_pos_right k2 (Nat.two_pow_pos _)) (Nat.mul_le_mul_left _ (Nat.pow_le_pow_right (by decide) h2))
 have h4 : 2 ^ (k + 65) = 2 ^ (k + 64) * 2 := by rw [← Nat.pow_succ]
 have h5 := Nat.two_pow_pos (k + 64)
 omega
def tinyE (bits : Nat) (least : Int) (way : Nat) (neg : Bool) (m : Nat) (e : Int) : Bool :=
 decide ((Rd20.units way neg m e (Rd20.top m e - bits + 1)).1 = 0) || decide (Rd20.top (Rd20.units way neg m e (Rd20.top m e - bits + 1)).1 (Rd20.top m e - bits + 1) < least)
def spTiny (C CF : Addr) : Sp := fun vs H Q _ => ∃ a f neg m e bits least most way,vs = [.ref a,.ref f,.int (way : Nat)] ∧ Ex C H a neg m e ∧ Fo CF H f bits least most ∧ m ≠ 0 ∧ RPre m e bits least most ∧
 ∀ H',Same H H' → Q (.bl (tinyE bits least way neg m e)) H'
def roundQ (bits : Nat) (least most : Int) (way : Nat) (neg : Bool) (m : Nat) (e u : Int) (q : Nat) : (Nat × Int) × Int :=
 if (decide (q = 0) || decide (Rd20.top q u < most)) = true then (if same m q e u = true then ((q,u),0) else ((q,u),if tinyE bits least way neg m e = true then 48 else 32))
 else (overE bits most way neg,40)
def roundE (bits : Nat) (least most : Int) (way : Nat) (neg : Bool) (m : Nat) (e : Int) : (Nat × Int) × Int :=
 if m = 0 then ((0,e),0) else roundQ bits least most way neg m e (max (Rd20.top m e) least - bits + 1) (Rd20.units way neg m e (max (Rd20.top m e) least - bits + 1)).1
def spRounded (C CF CR : Addr) : Sp := fun vs H Q _ => ∃ a f neg m e bits least most way,vs = [.ref a,.ref f,.int (way : Nat)] ∧ Ex C H a neg m e ∧ Fo CF H f bits least most ∧ RPre m e bits least most ∧
 ∀ r p H',Same H H' → H r = none → Obj CR (fR (.ref p) (roundE bits least most way neg m e).2) H' r → Ex C H' p neg (roundE bits least most way neg m e).1.1 (roundE bits least most way neg m e).1.2 → Q (.ref r) H'
theorem lead_top {m : Nat} (h : m ≠ 0) (e : Int) : e + bl m - 1 = Rd20.top m e := by
 rw [bl_log m h]; unfold Rd20.top; omega
section
variable {P : Program} {w : World} {K : PySem.W.Frag} {mg : Str → Option Value} {base : Heap} {C CF CR : Addr}
theorem ok_Form (F : SrcC K mg "Form" C "Form.__init__" s_Form_init ["self","places","least","limit"]) (T : CF1 K C) : Cla P w K mg base "Form" C 1 ["self","places","least","limit"] (spInit C 3 mkF) := by
 refine F.cla sc_Form_init (fun vs H Q E h => ?_) (fun f cdv A outer s H vs Q E hr h => ?_)
 ·obtain ⟨p,dx,as,rfl,hl,_⟩ := h
  simp [hl]
 ·obtain ⟨p,dx,as,rfl,hl,hp,k⟩ := h
  match as,hl with
  | [a,b,c],_ =>
   refine ⟨_,(pss_cons (ps_fld (pv 0) (pv 1) rfl)
    (pss_cons (ps_fld (pv 0) (pv 2) rfl)
    (pss_one (ps_fld (pv 0) (pv 3) rfl)))),?_⟩
   refine ⟨_,rfl,_,rfl,p,C,dx,[],rfl,hp,T.cl,T.nB,few0,?_⟩
   refine ⟨_,rfl,_,rfl,p,C,dx,_,rfl,upd_same,T.cl,T.nL,few1,?_⟩
   refine ⟨_,rfl,_,rfl,p,C,dx,_,rfl,upd_same,T.cl,T.nT,few2,?_⟩
   exact k _ upd_same fun b o e hb => by rw [upd_ne hb,upd_ne hb,upd_ne hb]; exact e
theorem ok_Rounded (F : SrcC K mg "Rounded" C "Rounded.__init__" s_Rounded_init ["self","value","flags"]) (T : CR1 K C) : Cla P w K mg base "Rounded" C 1 ["self","value","flags"] (spInit C 2 mkR) := by
 refine F.cla sc_Rounded_init (fun vs H Q E h => ?_) (fun f cdv A outer s H vs Q E hr h => ?_)
 ·obtain ⟨p,dx,as,rfl,hl,_⟩ := h
  simp [hl]
 ·obtain ⟨p,dx,as,rfl,hl,hp,k⟩ := h
  match as,hl with
  | [a,b],_ =>
   refine ⟨_,(pss_cons (ps_fld (pv 0) (pv 1) rfl)
    (pss_one (ps_fld (pv 0) (pv 2) rfl))),?_⟩
   refine ⟨_,rfl,_,rfl,p,C,dx,[],rfl,hp,T.cl,T.nV,few0,?_⟩
   refine ⟨_,rfl,_,rfl,p,C,dx,_,rfl,upd_same,T.cl,T.nF,few1,?_⟩
   exact k _ upd_same fun b o e hb => by rw [upd_ne hb,upd_ne hb]; exact e
theorem ok_tiny (F : Src K mg "is_tiny" s_is_tiny ["value","form","way"]) (T : CE K C) (TF : CF1 K CF) (f_is_below : Fn P w K mg base "is_below" 2 ["value","power"] (spBelow C)) (f_lead_of : Fn P w K mg base "lead_of" 1 ["value"] (spLead C))
  (f_to_multiple : Fn P w K mg base "to_multiple" 5 ["value","unit","way"] (spMult C)) : Fn P w K mg base "is_tiny" 6 ["value","form","way"] (spTiny C CF) := by
 refine F.fn sc_is_tiny (fun vs H Q E h => ?_) (fun f cdv A outer s H vs Q E hr h => ?_)
 ·obtain ⟨a,f,neg,m,e,bits,least,most,way,rfl,_⟩ := h
  rfl
 ·obtain ⟨a,g,neg,m,e,bits,least,most,way,rfl,⟨dx,ha⟩,⟨dy,hg⟩,h0,hp,k⟩ := h
  refine ⟨_,(pss_one (ps_ret (pf f_is_below hr (pa_cons (pf f_to_multiple hr (pa_cons (pv 0) (pa_cons (pe_op op_add (pe_op op_sub (pf f_lead_of hr (pa_cons (pv 0) pa_nil)) (pe_fld (pv 1) rfl)) pe_int) (pa_cons (pv 2) pa_nil)))) (pa_cons (pe_fld (pv 1) rfl) pa_nil))))),?_⟩
  refine ⟨_,rfl,_,rfl,a,_,_,_,rfl,⟨dx,ha⟩,_,rfl,g,CF,dy,_,_,rfl,hg,TF.cl,TF.nB,fF_b _ _ _,_,_,rfl,rfl,_,_,rfl,rfl,_,rfl,?_⟩
  dsimp only
  rw [lead_top h0]
  refine ⟨a,neg,m,e,_,way,rfl,⟨dx,ha⟩,hp.u1 h0,fun p H' s1 n1 o1 => ?_⟩
  refine ⟨_,rfl,g,CF,dy,_,_,rfl,s1 _ _ hg,TF.cl,TF.nL,fF_l _ _ _,?_⟩
  exact ⟨p,neg,_,_,_,rfl,o1,k H' s1⟩
theorem ok_rounded (F : Src K mg "rounded" s_rounded ["value","form","way"]) (T : CE K C) (TF : CF1 K CF) (n_max : mg "max" = none) (c_TOO_GREAT : Con1 mg "TOO_GREAT" (.int 8)) (c_NOT_EXACT : Con1 mg "NOT_EXACT" (.int 32)) (c_TOO_SMALL : Con1 mg "TOO_SMALL" (.int 16))
  (f_is_below : Fn P w K mg base "is_below" 2 ["value","power"] (spBelow C)) (f_lead_of : Fn P w K mg base "lead_of" 1 ["value"] (spLead C)) (f_to_multiple : Fn P w K mg base "to_multiple" 5 ["value","unit","way"] (spMult C))
  (f_same_size : Fn P w K mg base "same_size" 2 ["one","other"] (spSame C)) (f_overflowed : Fn P w K mg base "overflowed" 3 ["sign","form","way"] (spOver C CF)) (f_is_tiny : Fn P w K mg base "is_tiny" 6 ["value","form","way"] (spTiny C CF))
  (k_Rounded : Cla P w K mg base "Rounded" CR 1 ["self","value","flags"] (spInit CR 2 mkR)) : Fn P w K mg base "rounded" 7 ["value","form","way"] (spRounded C CF CR) := by
 refine F.fn sc_rounded (fun vs H Q E h => ?_) (fun f cdv A outer s H vs Q E hr h => ?_)
 ·obtain ⟨a,f,neg,m,e,bits,least,most,way,rfl,_⟩ := h
  rfl
 ·obtain ⟨a,g,neg,m,e,bits,least,most,way,rfl,⟨dx,ha⟩,⟨dy,hg⟩,hp,k⟩ := h
  refine ⟨_,(pss_cons (ps_if (pt_cmpR op_eq (pe_fld (pv 0) rfl) pe_int (nomark _)) (pss_one (ps_ret (pn k_Rounded hr (pa_cons (pv 0) (pa_cons pe_int pa_nil))))) pss_nil)
    (pss_cons (ps_set (i := 3) sc_rounded.nd rfl (Or.inl rfl) (pe_op op_add (pe_op op_sub (pe_callB (call_max2 rfl) (by rfl) n_max b_max (pa_cons (pf f_lead_of hr (pa_cons (pv 0) pa_nil)) (pa_cons (pe_fld (pv 1) rfl) pa_nil))) (pe_fld (pv 1) rfl)) pe_int))
    (pss_cons (ps_set (i := 4) sc_rounded.nd rfl (Or.inl rfl) (pf f_to_multiple hr (pa_cons (pv 0) (pa_cons (pv 3) (pa_cons (pv 2) pa_nil)))))
    (pss_cons (ps_if (pt_not (pt_val (pf f_is_below hr (pa_cons (pv 4) (pa_cons (pe_fld (pv 1) rfl) pa_nil))))) (pss_one (ps_ret (pn k_Rounded hr (pa_cons (pf f_overflowed hr (pa_cons (pe_fld (pv 0) rfl) (pa_cons (pv 1) (pa_cons (pv 2) pa_nil)))) (pa_cons (pe_op op_or (pe_c1 c_TOO_GREAT rfl) (pe_c1 c_NOT_EXACT rfl)) pa_nil))))) pss_nil)
    (pss_cons (ps_if (pt_val (pf f_same_size hr (pa_cons (pv 0) (pa_cons (pv 4) pa_nil)))) (pss_one (ps_ret (pn k_Rounded hr (pa_cons (pv 4) (pa_cons pe_int pa_nil))))) pss_nil)
    (pss_cons (ps_if (pt_val (pf f_is_tiny hr (pa_cons (pv 0) (pa_cons (pv 1) (pa_cons (pv 2) pa_nil))))) (pss_one (ps_ret (pn k_Rounded hr (pa_cons (pv 4) (pa_cons (pe_op op_or (pe_c1 c_TOO_SMALL rfl) (pe_c1 c_NOT_EXACT rfl)) pa_nil))))) pss_nil)
    (pss_one (ps_ret (pn k_Rounded hr (pa_cons (pv 4) (pa_cons (pe_c1 c_NOT_EXACT rfl) pa_nil))))))))))),?_⟩
  refine ⟨_,rfl,a,C,dx,_,_,rfl,ha,T.cl,T.nM,fE_m _ _ _,rfl,_,rfl,?_⟩
  refine br2 (fun h => ?_) (fun h => ?_)
  ·have h0 : m = 0 := by have := dV_iff.mp h; omega
   have er : roundE bits least most way neg m e = ((0,e),0) := by unfold roundE; rw [if_pos h0]
   rw [er] at k
   subst h0
   refine ⟨_,rfl,?_⟩
   exact new_of (n := 2) (mk := mkR) rfl fun p H' s1 n1 o1 => k p a H' s1 n1 o1 ⟨dx,s1 _ _ ha⟩
  ·have h0 : m ≠ 0 := by
    intro e0
    rw [dV_t (by omega)] at h
    cases h
   have er : roundE bits least most way neg m e = roundQ bits least most way neg m e (max (Rd20.top m e) least - bits + 1) (Rd20.units way neg m e (max (Rd20.top m e) least - bits + 1)).1 := if_neg h0
   rw [er] at k
   clear er
   refine ⟨_,rfl,a,_,_,_,rfl,⟨dx,ha⟩,_,rfl,g,CF,dy,_,_,rfl,hg,TF.cl,TF.nL,fF_l _ _ _,_,_,rfl,_,rfl,g,CF,dy,_,_,rfl,hg,TF.cl,TF.nB,fF_b _ _ _,_,_,rfl,rfl,_,_,rfl,rfl,?_⟩
   have em : (if least > e + bl (m : Int) - 1 then least else e + bl (m : Int) - 1) = max (Rd20.top m e) least := by
    rw [lead_top h0,Int.max_def]
    split <;> split <;> omega
   dsimp only
   rw [em]
   have hu1 : Rd20.top m e - bits + 1 ≤ max (Rd20.top m e) least - bits + 1 := by omega
   have hu := hp.u2 h0
   have hw := hp.near h0 hu1 way neg
   have hS : SPre m (Rd20.units way neg m e (max (Rd20.top m e) least - bits + 1)).1 e (max (Rd20.top m e) least - bits + 1) := ⟨hu.wide,hw,hu.e0,hu.e1,hu.u0,hu.u1⟩
   generalize max (Rd20.top m e) least - (bits : Int) + 1 = u at *
   generalize hq : (Rd20.units way neg m e u).1 = q at *
   refine ⟨_,rfl,_,rfl,_,rfl,a,neg,m,e,u,way,rfl,⟨dx,ha⟩,hu,fun p H1 s1 n1 o1 => ?_⟩
   rw [hq] at o1
   refine ⟨_,rfl,_,rfl,g,CF,dy,_,_,rfl,s1 _ _ hg,TF.cl,TF.nT,fF_t _ _ _,p,neg,q,u,most,rfl,o1,_,rfl,?_⟩
   unfold roundQ at k
   refine br2 (fun h => ?_) (fun h => ?_)
   ·have h1 : ¬ ((decide (q = 0) || decide (Rd20.top q u < most)) = true) := by
     intro e0
     rw [e0] at h
     cases h
    rw [if_neg h1] at k
    refine ⟨_,rfl,a,C,dx,_,_,rfl,s1 _ _ ha,T.cl,T.nS,fE_s _ _ _,_,rfl,_,rfl,neg,g,bits,least,most,way,rfl,⟨dy,s1 _ _ hg⟩,hp.b1,fun p2 H2 s2 n2 o2 => ?_⟩
    refine ⟨_,_,rfl,rfl,?_⟩
    exact new_of (n := 2) (mk := mkR) rfl fun r H3 s3 n3 o3 => k r p2 H3 ((s1.trans s2).trans s3) ((s1.trans s2).free n3) o3 (o2.same s3)
   ·have h1 : (decide (q = 0) || decide (Rd20.top q u < most)) = true := by
     cases hc : (decide (q = 0) || decide (Rd20.top q u < most)) with
     | true => rfl
     | false => rw [hc] at h; cases h
    rw [if_pos h1] at k
    refine ⟨_,rfl,_,rfl,a,p,neg,neg,m,q,e,u,rfl,⟨dx,s1 _ _ ha⟩,o1,hS,_,rfl,?_⟩
    refine br2 (fun h => ?_) (fun h => ?_)
    ·rw [if_pos h] at k
     refine ⟨_,rfl,?_⟩
     exact new_of (n := 2) (mk := mkR) rfl fun r H3 s3 n3 o3 => k r p H3 (s1.trans s3) (s1.free n3) o3 (o1.same s3)
    ·rw [if_neg (by rw [h]; exact Bool.false_ne_true)] at k
     refine ⟨_,rfl,_,rfl,_,rfl,a,g,neg,m,e,bits,least,most,way,rfl,⟨dx,s1 _ _ ha⟩,⟨dy,s1 _ _ hg⟩,h0,hp,fun H2 s2 => ?_⟩
     refine ⟨_,rfl,?_⟩
     refine br2 (fun h => ?_) (fun h => ?_)
     ·rw [if_pos h] at k
      refine ⟨_,rfl,_,_,rfl,rfl,?_⟩
      exact new_of (n := 2) (mk := mkR) rfl fun r H3 s3 n3 o3 => k r p H3 ((s1.trans s2).trans s3) ((s1.trans s2).free n3) o3 ((o1.same s2).same s3)
     ·rw [if_neg (by rw [h]; exact Bool.false_ne_true)] at k
      refine ⟨_,rfl,?_⟩
      exact new_of (n := 2) (mk := mkR) rfl fun r H3 s3 n3 o3 => k r p H3 ((s1.trans s2).trans s3) ((s1.trans s2).free n3) o3 ((o1.same s2).same s3)
end
abbrev s_sign_of : Stmt := top 43
theorem sc_sign_of : FnScope ["number"] ["number"] (defScope s_sign_of) := ⟨rfl,rfl,rfl,by decide +kernel,rfl,by decide +kernel,by decide +kernel⟩
abbrev s_exponent_of : Stmt := top 44
theorem sc_exponent_of : FnScope ["number"] ["number"] (defScope s_exponent_of) := ⟨rfl,rfl,rfl,by decide +kernel,rfl,by decide +kernel,by decide +kernel⟩
abbrev s_bits_of : Stmt := top 45
theorem sc_bits_of : FnScope ["number"] ["number"] (defScope s_bits_of) := ⟨rfl,rfl,rfl,by decide +kernel,rfl,by decide +kernel,by decide +kernel⟩
abbrev s_with_sign : Stmt := top 46
theorem sc_with_sign : FnScope ["sign","number"] ["sign","number"] (defScope s_with_sign) := ⟨rfl,rfl,rfl,by decide +kernel,rfl,by decide +kernel,by decide +kernel⟩
abbrev s_without_sign : Stmt := top 47
theorem sc_without_sign : FnScope ["number"] ["number"] (defScope s_without_sign) := ⟨rfl,rfl,rfl,by decide +kernel,rfl,by decide +kernel,by decide +kernel⟩
abbrev s_opposite : Stmt := top 48
theorem sc_opposite : FnScope ["number"] ["number"] (defScope s_opposite) := ⟨rfl,rfl,rfl,by decide +kernel,rfl,by decide +kernel,by decide +kernel⟩
abbrev s_is_zero : Stmt := top 49
theorem sc_is_zero : FnScope ["number"] ["number"] (defScope s_is_zero) := ⟨rfl,rfl,rfl,by decide +kernel,rfl,by decide +kernel,by decide +kernel⟩
abbrev s_is_small : Stmt := top 50
theorem sc_is_small : FnScope ["number"] ["number"] (defScope s_is_small) := ⟨rfl,rfl,rfl,by decide +kernel,rfl,by decide +kernel,by decide +kernel⟩
abbrev s_is_infinite : Stmt := top 51
theorem sc_is_infinite : FnScope ["number"] ["number"] (defScope s_is_infinite) := ⟨rfl,rfl,rfl,by decide +kernel,rfl,by decide +kernel,by decide +kernel⟩
abbrev s_is_well_formed : Stmt := top 52
theorem sc_is_well_formed : FnScope ["number"] ["number"] (defScope s_is_well_formed) := ⟨rfl,rfl,rfl,by decide +kernel,rfl,by decide +kernel,by decide +kernel⟩
abbrev s_as_kept : Stmt := top 53
theorem sc_as_kept : FnScope ["number"] ["number"] (defScope s_as_kept) := ⟨rfl,rfl,rfl,by decide +kernel,rfl,by decide +kernel,by decide +kernel⟩
abbrev s_from_row : Stmt := top 54
theorem sc_from_row : FnScope ["row","number","byte"] ["row"] (defScope s_from_row) := ⟨rfl,rfl,rfl,by decide +kernel,rfl,by decide +kernel,by decide +kernel⟩
abbrev s_to_row : Stmt := top 55
theorem sc_to_row : FnScope ["number","row","place"] ["number"] (defScope s_to_row) := ⟨rfl,rfl,rfl,by decide +kernel,rfl,by decide +kernel,by decide +kernel⟩
abbrev s_number_form : Stmt := top 56
theorem sc_number_form : FnScope ["length"] ["length"] (defScope s_number_form) := ⟨rfl,rfl,rfl,by decide +kernel,rfl,by decide +kernel,by decide +kernel⟩
abbrev s_exact_of : Stmt := top 57
theorem sc_exact_of : FnScope ["number","exponent"] ["number"] (defScope s_exact_of) := ⟨rfl,rfl,rfl,by decide +kernel,rfl,by decide +kernel,by decide +kernel⟩
abbrev s_number_of : Stmt := top 58
theorem sc_number_of : FnScope ["value","lead","bits"] ["value"] (defScope s_number_of) := ⟨rfl,rfl,rfl,by decide +kernel,rfl,by decide +kernel,by decide +kernel⟩
abbrev s_number_of_whole : Stmt := top 59
theorem sc_number_of_whole : FnScope ["n"] ["n"] (defScope s_number_of_whole) := ⟨rfl,rfl,rfl,by decide +kernel,rfl,by decide +kernel,by decide +kernel⟩
def spNat (f : Nat → V) : Sp := fun vs H Q _ => ∃ x : Nat,vs = [.int x] ∧ x < 2 ^ 80 ∧ Q (f x) H
theorem cp2 (k : Nat) (h : k ≤ 1000) : CPow 2 (k : Int) := ⟨by omega,by omega,by decide⟩
def wsE (neg : Bool) (x : Nat) : Nat := (if neg = true then 2 ^ 79 else 0) + x
def spWith : Sp := fun vs H Q _ => ∃ (neg : Bool) (x : Nat),vs = [.int (ob neg),.int x] ∧ Q (.int (wsE neg x)) H
def infE (x : Nat) : Bool := decide (Rd20.expOf x = 32767) && decide (Rd20.sizeOf x = 2 ^ 63)
def wellE (x : Nat) : Bool := decide (decide (2 ^ 63 ≤ Rd20.sizeOf x) = decide (0 < Rd20.expOf x))
def NONEn : Nat := 1208921207928610747318272
def keptE (x : Nat) : Nat := if (decide (Rd20.expOf x = 32767) && !infE x) = true then NONEn else x
theorem pow_i (k : Nat) : (2 : Int) ^ k = ((2 ^ k : Nat) : Int) := by simp
def fromE (bs : List Nat) : Nat := bs.foldr (fun b acc => acc * 256 + b) 0
theorem fromE_lt : ∀ (bs : List Nat),(∀ b ∈ bs,b < 256) → fromE bs < 256 ^ bs.length
 | [],_ => by decide
 | b :: r,h => by
  have h1 := fromE_lt r fun c hc => h c (List.mem_cons_of_mem _ hc)
  have h2 := h b (List.mem_cons_self)
  show fromE r * 256 + b < 256 ^ (r.length + 1)
  rw [Nat.pow_succ]
  omega
def spFrom (K : PySem.W.Frag) : Sp := fun vs H Q _ => ∃ (a : Addr) (bs : List Nat),vs = [.ref a] ∧ SqL K H a (bs.map fun b => V.int (b : Nat)) ∧ (∀ b ∈ bs,b < 256) ∧ bs.length ≤ 1000 ∧ Q (.int (fromE bs)) H
def spTo : Sp := fun vs H Q _ => ∃ x : Nat,vs = [.int x] ∧ ∀ p H',Same H H' → H p = none → H' p = some (.lst ((Rd20.bytes 10 x).map fun b => V.int (b : Nat))) → Q (.ref p) H'
def powE (x : Nat) : Int := if Rd20.expOf x = 0 then -16445 else (Rd20.expOf x : Int) - 16446
def spExactOf (C : Addr) : Sp := fun vs H Q _ => ∃ x : Nat,vs = [.int x] ∧ x < 2 ^ 80 ∧ ∀ p H',Same H H' → H p = none → Ex C H' p (Rd20.signOf x) (Rd20.sizeOf x) (powE x) → Q (.ref p) H'
def numE (neg : Bool) (m : Nat) (e : Int) : Nat :=
 if m = 0 then wsE neg 0 else if Rd20.top m e < -16382 then wsE neg (Rd20.units 3 neg m e (max (Rd20.top m e) (-16382) - 63)).1
 else wsE neg ((Rd20.top m e + 16383).toNat * 2 ^ 64 + (Rd20.units 3 neg m e (max (Rd20.top m e) (-16382) - 63)).1)
def NPre (m : Nat) (e : Int) : Prop := RPre m e 64 (-16382) 16384
def spNumber (C : Addr) : Sp := fun vs H Q _ => ∃ a neg m e,vs = [.ref a] ∧ Ex C H a neg m e ∧ NPre m e ∧ Q (.int (numE neg m e)) H
def spWhole : Sp := fun vs H Q _ => ∃ n : Int,vs = [.int n] ∧ n.natAbs < 2 ^ 64 ∧ ∀ H',Same H H' → Q (.int (numE (decide (n < 0)) n.natAbs 0)) H'
theorem for_rev {K : PySem.W.Frag} {a : Addr} {xs : List V} {g : TG} {tb : TS} {D : Ends} {σ : L2.St} {H : Hp} (Pv : Nat → L2.St → Hp → Prop) (h0 : Pv 0 σ H) (hl : ∀ i σ H,i ≤ xs.length → Pv i σ H → SqL K H a xs)
  (hs : ∀ i x σ H,i < xs.length → xs[xs.length - 1 - i]? = some x → Pv i σ H → g x σ H fun σ2 H2 => tb { D with nx := Pv (i + 1),ct := Pv (i + 1),bk := D.nx } σ2 H2) (hd : ∀ σ H,Pv xs.length σ H → D.nx σ H) :
  ∃ W : Nat → Nat → L2.St → Hp → Prop,(∃ m,W 0 m σ H) ∧ ∀ i m σ H,W i m σ H →
   ((Itv K a xs.length).stop i H ∧ D.nx σ H) ∨ ((Itv K a xs.length).go i H ∧ ∃ N : L2.St → Hp → Prop,(∀ σ' H',N σ' H' → ∃ m',m' < m ∧ W (i + 1) m' σ' H') ∧ ∀ x H',(Itv K a xs.length).yld i H x H' → g x σ H' fun σ2 H2 => tb { D with nx := N,ct := N,bk := D.nx } σ2 H2) := by
 refine ⟨fun i m σ H => m = xs.length - i ∧ i ≤ xs.length ∧ Pv i σ H,⟨xs.length,by simp,Nat.zero_le _,h0⟩,?_⟩
 rintro i m σ H ⟨rfl,hi,p⟩
 have q := hl i σ H hi p
 by_cases hlt : i < xs.length
 ·have hj : xs.length - 1 - i < xs.length := by omega
  refine .inr ⟨⟨hlt,xs,xs[xs.length - 1 - i],q,by simp [hj]⟩,Pv (i + 1),fun σ' H' p' => ⟨xs.length - (i + 1),by omega,rfl,hlt,p'⟩,fun x H' y => ?_⟩
  obtain ⟨e,y⟩ := y
  subst e
  exact hs i x σ _ hlt (y xs q) p
 ·have e : i = xs.length := by omega
  subst e
  exact .inl ⟨Nat.le_refl _,hd σ H p⟩
theorem take_snoc' {α : Type} {l : List α} {i : Nat} {x : α} (h : l[i]? = some x) : l.take (i + 1) = l.take i ++ [x] := by
 obtain ⟨h1,rfl⟩ := List.getElem?_eq_some_iff.mp h
 exact List.take_append_getElem h1 |>.symm
section
variable {P : Program} {w : World} {K : PySem.W.Frag} {mg : Str → Option Value} {base : Heap} {C CF CR : Addr}
theorem ok_sign_of (F : Src K mg "sign_of" s_sign_of ["number"]) : Fn P w K mg base "sign_of" 1 ["number"] (spNat fun x => .int (ob (Rd20.signOf x))) := by
 refine F.fn sc_sign_of (fun vs H Q E h => ?_) (fun f cdv A outer s H vs Q E hr h => ?_)
 ·obtain ⟨x,rfl,_⟩ := h
  rfl
 ·obtain ⟨x,rfl,hx,k⟩ := h
  refine ⟨_,(pss_one (ps_ret (pe_op op_shr (pv 0) pe_int))),?_⟩
  refine ⟨_,rfl,_,_,rfl,rfl,(by show (0 : Int) ≤ 79; decide),?_⟩
  refine qi k ?_
  show (x : Int) / 2 ^ (79 : Int).toNat = _
  unfold Rd20.signOf ob
  rw [show (79 : Int).toNat = 79 from rfl]
  by_cases h : 2 ^ 79 ≤ x
  ·rw [decide_eq_true h,if_pos rfl]
   omega
  ·rw [decide_eq_false h,if_neg Bool.false_ne_true]
   omega
theorem ok_exponent_of (F : Src K mg "exponent_of" s_exponent_of ["number"]) : Fn P w K mg base "exponent_of" 1 ["number"] (spNat fun x => .int (Rd20.expOf x)) := by
 refine F.fn sc_exponent_of (fun vs H Q E h => ?_) (fun f cdv A outer s H vs Q E hr h => ?_)
 ·obtain ⟨x,rfl,_⟩ := h
  rfl
 ·obtain ⟨x,rfl,hx,k⟩ := h
  refine ⟨_,(pss_one (ps_ret (pe_op op_mod (pe_op op_shr (pv 0) pe_int) (pe_op op_pow pe_int pe_int)))),?_⟩
  refine ⟨_,rfl,_,_,rfl,rfl,(by show (0 : Int) ≤ 64; decide),_,_,rfl,rfl,cp2 15 (by decide),_,_,rfl,rfl,(by show (0 : Int) < 2 ^ 15; decide),?_⟩
  refine qi k ?_
  show (x : Int) / 2 ^ (64 : Int).toNat % 2 ^ (15 : Int).toNat = _
  unfold Rd20.expOf
  rw [show (64 : Int).toNat = 64 from rfl,show (15 : Int).toNat = 15 from rfl]
  omega
theorem ok_bits_of (F : Src K mg "bits_of" s_bits_of ["number"]) : Fn P w K mg base "bits_of" 1 ["number"] (spNat fun x => .int (Rd20.sizeOf x)) := by
 refine F.fn sc_bits_of (fun vs H Q E h => ?_) (fun f cdv A outer s H vs Q E hr h => ?_)
 ·obtain ⟨x,rfl,_⟩ := h
  rfl
 ·obtain ⟨x,rfl,hx,k⟩ := h
  refine ⟨_,(pss_one (ps_ret (pe_op op_mod (pv 0) (pe_op op_pow pe_int pe_int)))),?_⟩
  refine ⟨_,rfl,_,_,rfl,rfl,cp2 64 (by decide),_,_,rfl,rfl,(by show (0 : Int) < 2 ^ 64; decide),?_⟩
  refine qi k ?_
  show (x : Int) % 2 ^ (64 : Int).toNat = _
  unfold Rd20.sizeOf
  rw [show (64 : Int).toNat = 64 from rfl]
  omega
theorem ok_with_sign (F : Src K mg "with_sign" s_with_sign ["sign","number"]) : Fn P w K mg base "with_sign" 1 ["sign","number"] spWith := by
 refine F.fn sc_with_sign (fun vs H Q E h => ?_) (fun f cdv A outer s H vs Q E hr h => ?_)
 ·obtain ⟨neg,x,rfl,_⟩ := h
  rfl
 ·obtain ⟨neg,x,rfl,k⟩ := h
  refine ⟨_,(pss_one (ps_ret (pe_op op_add (pe_op op_shlB (pv 0) pe_int) (pv 1)))),?_⟩
  refine ⟨_,rfl,_,_,rfl,rfl,⟨by decide,by decide,fit_small (by cases neg <;> decide)⟩,_,rfl,_,_,rfl,rfl,?_⟩
  refine qi k ?_
  show ob neg * 2 ^ (79 : Int).toNat + (x : Int) = _
  unfold wsE ob
  rw [show (79 : Int).toNat = 79 from rfl]
  cases neg
  ·rw [if_neg Bool.false_ne_true,if_neg Bool.false_ne_true]; omega
  ·rw [if_pos rfl,if_pos rfl]; omega
theorem ok_is_infinite (F : Src K mg "is_infinite" s_is_infinite ["number"]) (f_bits_of : Fn P w K mg base "bits_of" 1 ["number"] (spNat fun x => .int (Rd20.sizeOf x))) (f_exponent_of : Fn P w K mg base "exponent_of" 1 ["number"] (spNat fun x => .int (Rd20.expOf x)))
  (c_TOP_EXPONENT : Con1 mg "TOP_EXPONENT" (.int 32767)) : Fn P w K mg base "is_infinite" 2 ["number"] (spNat fun x => .bl (infE x)) := by
 refine F.fn sc_is_infinite (fun vs H Q E h => ?_) (fun f cdv A outer s H vs Q E hr h => ?_)
 ·obtain ⟨x,rfl,_⟩ := h
  rfl
 ·obtain ⟨x,rfl,hx,k⟩ := h
  refine ⟨_,(pss_one (ps_ret (pe_and (pe_cmpR op_eq (pf f_exponent_of hr (pa_cons (pv 0) pa_nil)) (pe_c1 c_TOP_EXPONENT rfl) (nomark _)) (pe_one (pe_cmpR op_eq (pf f_bits_of hr (pa_cons (pv 0) pa_nil)) (pe_op op_pow pe_int pe_int) (nomark _)))))),?_⟩
  refine ⟨_,rfl,x,rfl,hx,rfl,_,rfl,?_⟩
  unfold infE at k
  dsimp only at k
  refine br2 (fun h => ?_) (fun h => ?_)
  ·have h1 : Rd20.expOf x = 32767 := by have := dV_iff.mp h; omega
   rw [decide_eq_true h1,Bool.true_and] at k
   refine ⟨_,rfl,x,rfl,hx,_,_,rfl,rfl,cp2 63 (by decide),rfl,?_⟩
   refine qb k ?_
   show decide (V.int (Rd20.sizeOf x : Int) = V.int (2 ^ (63 : Int).toNat)) = _
   rw [dV_eq]
   exact decide_eq_decide.mpr (by rw [show (63 : Int).toNat = 63 from rfl]; omega)
  ·have h1 : ¬ Rd20.expOf x = 32767 := by
    intro e0
    rw [dV_t (by omega)] at h
    cases h
   rw [decide_eq_false h1,Bool.false_and] at k
   exact k
theorem ok_well (F : Src K mg "is_well_formed" s_is_well_formed ["number"]) (f_bits_of : Fn P w K mg base "bits_of" 1 ["number"] (spNat fun x => .int (Rd20.sizeOf x))) (f_exponent_of : Fn P w K mg base "exponent_of" 1 ["number"] (spNat fun x => .int (Rd20.expOf x))) :
  Fn P w K mg base "is_well_formed" 2 ["number"] (spNat fun x => .bl (wellE x)) := by
 refine F.fn sc_is_well_formed (fun vs H Q E h => ?_) (fun f cdv A outer s H vs Q E hr h => ?_)
 ·obtain ⟨x,rfl,_⟩ := h
  rfl
 ·obtain ⟨x,rfl,hx,k⟩ := h
  refine ⟨_,(pss_one (ps_ret (pe_cmpR op_eq (pe_cmpR op_ge (pf f_bits_of hr (pa_cons (pv 0) pa_nil)) (pe_op op_pow pe_int pe_int) (nomark _)) (pe_cmpR op_gt (pf f_exponent_of hr (pa_cons (pv 0) pa_nil)) pe_int (nomark _)) (nomark _)))),?_⟩
  refine ⟨_,rfl,x,rfl,hx,_,_,rfl,rfl,cp2 63 (by decide),_,_,rfl,rfl,_,rfl,x,rfl,hx,_,_,rfl,rfl,rfl,?_⟩
  refine qb k ?_
  show decide (V.bl (decide ((2 : Int) ^ (63 : Int).toNat ≤ (Rd20.sizeOf x : Int))) = V.bl (decide ((0 : Int) < (Rd20.expOf x : Int)))) = wellE x
  unfold wellE
  have e1 : decide ((2 : Int) ^ (63 : Int).toNat ≤ (Rd20.sizeOf x : Int)) = decide (2 ^ 63 ≤ Rd20.sizeOf x) := decide_eq_decide.mpr (by rw [show (63 : Int).toNat = 63 from rfl]; omega)
  have e2 : decide ((0 : Int) < (Rd20.expOf x : Int)) = decide (0 < Rd20.expOf x) := decide_eq_decide.mpr (by omega)
  rw [e1,e2]
  generalize decide (2 ^ 63 ≤ Rd20.sizeOf x) = a
  generalize decide (0 < Rd20.expOf x) = b
  cases a <;> cases b <;> rfl
theorem ok_kept (F : Src K mg "as_kept" s_as_kept ["number"]) (f_is_infinite : Fn P w K mg base "is_infinite" 2 ["number"] (spNat fun x => .bl (infE x))) (f_exponent_of : Fn P w K mg base "exponent_of" 1 ["number"] (spNat fun x => .int (Rd20.expOf x)))
  (c_TOP_EXPONENT : Con1 mg "TOP_EXPONENT" (.int 32767)) (c_NONE : Con1 mg "NONE" (.int NONEn)) : Fn P w K mg base "as_kept" 3 ["number"] (spNat fun x => .int (keptE x)) := by
 refine F.fn sc_as_kept (fun vs H Q E h => ?_) (fun f cdv A outer s H vs Q E hr h => ?_)
 ·obtain ⟨x,rfl,_⟩ := h
  rfl
 ·obtain ⟨x,rfl,hx,k⟩ := h
  refine ⟨_,(pss_cons (ps_if (PW.pt (pw_and (pt_cmpR op_eq (pf f_exponent_of hr (pa_cons (pv 0) pa_nil)) (pe_c1 c_TOP_EXPONENT rfl) (nomark _)) (pw_and1 (pt_not (pt_val (pf f_is_infinite hr (pa_cons (pv 0) pa_nil))))))) (pss_one (ps_ret (pe_c1 c_NONE rfl))) pss_nil)
    (pss_one (ps_ret (pv 0)))),?_⟩
  unfold keptE at k
  dsimp only at k
  refine ⟨_,rfl,x,rfl,hx,rfl,_,rfl,?_⟩
  refine br2 (fun h => ?_) (fun h => ?_)
  ·have h1 : Rd20.expOf x = 32767 := by have := dV_iff.mp h; omega
   rw [decide_eq_true h1,Bool.true_and] at k
   refine ⟨_,rfl,x,rfl,hx,_,rfl,?_⟩
   refine br2 (fun h => ?_) (fun h => ?_)
   ·rw [if_pos h] at k
    exact k
   ·rw [if_neg (by rw [h]; exact Bool.false_ne_true)] at k
    exact ⟨_,rfl,k⟩
  ·have h1 : ¬ Rd20.expOf x = 32767 := by
    intro e0
    rw [dV_t (by omega)] at h
    cases h
   rw [decide_eq_false h1,Bool.false_and,if_neg Bool.false_ne_true] at k
   refine br_f rfl ?_
   exact ⟨_,rfl,k⟩
theorem ok_from (F : Src K mg "from_row" s_from_row ["row"]) (n_reversed : mg "reversed" = none) : Fn P w K mg base "from_row" 1 ["row"] (spFrom K) := by
 refine F.fn sc_from_row (fun vs H Q E h => ?_) (fun f cdv A outer s H vs Q E hr h => ?_)
 ·obtain ⟨a,bs,rfl,_⟩ := h
  rfl
 ·obtain ⟨a,bs,rfl,hS,hb,hl,k⟩ := h
  refine ⟨_,(pss_cons (ps_set (i := 1) sc_from_row.nd rfl (Or.inl rfl) pe_int)
    (pss_cons (ps_for PassesOwn.never rfl (pi_reversed rfl n_reversed (pa_cons (pv 0) pa_nil)) (pg_name (i := 2) sc_from_row.nd rfl (Or.inl rfl)) (pss_one (ps_set (i := 1) sc_from_row.nd rfl (Or.inl rfl) (pe_op op_add (pe_op op_mulB (pv 1) pe_int) (pv 2)))))
    (pss_one (ps_ret (pv 1))))),?_⟩
  refine ⟨_,rfl,a,_,rfl,hS,for_rev (K := K) (a := a) (xs := bs.map fun b => V.int (b : Nat)) (fun i σ H' => H' = H ∧ ∃ v,σ = [some (.ref a),some (.int (fromE (bs.drop (bs.length - i)))),v]) ?_ ?_ ?_ ?_⟩
  ·refine ⟨rfl,none,?_⟩
   rw [Nat.sub_zero,List.drop_length]
   rfl
  ·rintro i σ H' _ ⟨rfl,_⟩
   exact hS
  ·rintro i y σ H' hi hy ⟨rfl,v,rfl⟩
   rw [List.length_map] at hi hy
   rw [List.getElem?_map] at hy
   have hj : bs.length - 1 - i < bs.length := by omega
   rw [List.getElem?_eq_getElem hj] at hy
   cases hy
   have hd : bs.drop (bs.length - (i + 1)) = bs[bs.length - 1 - i] :: bs.drop (bs.length - i) := by
    have e1 : bs.length - (i + 1) = bs.length - 1 - i := by omega
    rw [e1,List.drop_eq_getElem_cons hj]
    have e2 : bs.length - 1 - i + 1 = bs.length - i := by omega
    rw [e2]
   have hlt := fromE_lt (bs.drop (bs.length - i)) fun b hbm => hb b (List.mem_of_mem_drop hbm)
   refine ⟨_,rfl,_,_,rfl,rfl,⟨⟨8 * (bs.drop (bs.length - i)).length,?_,?_⟩,fit_small (by decide)⟩,_,rfl,_,_,rfl,rfl,?_⟩
   ·rw [List.length_drop]; omega
   ·rw [Int.natAbs_natCast,Nat.pow_mul]; exact hlt
   ·refine ⟨rfl,some (V.int (bs[bs.length - 1 - i] : Nat)),?_⟩
    rw [hd]
    rfl
  ·rintro σ H' ⟨rfl,v,rfl⟩
   rw [List.length_map,Nat.sub_self,List.drop_zero]
   exact ⟨_,rfl,k⟩
theorem ok_to (F : Src K mg "to_row" s_to_row ["number"]) (n_range : mg "range" = none) (c_BYTES : Con1 mg "BYTES" (.int 10)) : Fn P w K mg base "to_row" 1 ["number"] spTo := by
 refine F.fn sc_to_row (fun vs H Q E h => ?_) (fun f cdv A outer s H vs Q E hr h => ?_)
 ·obtain ⟨x,rfl,_⟩ := h
  rfl
 ·obtain ⟨x,rfl,k⟩ := h
  refine ⟨_,(pss_cons (ps_set (i := 1) sc_to_row.nd rfl (Or.inl rfl) (pe_lst pa_nil))
    (pss_cons (ps_for PassesOwn.never rfl (pi_range1 rfl n_range (pa_cons (pe_c1 c_BYTES rfl) pa_nil)) (pg_name (i := 2) sc_to_row.nd rfl (Or.inl rfl)) (pss_one (ps_expr (pe_bm PySem.F.plainAttrs_list PySem.F.slot_list_append PySem.F.type_list_append mt_append (pv 1) (pa_cons (pe_op op_mod (pe_op op_shr (pv 0) (pe_op op_mulB pe_int (pv 2))) pe_int) pa_nil)))))
    (pss_one (ps_ret (pv 1))))),?_⟩
  refine ⟨Nat.zero_le _,fun p hp => ?_⟩
  refine ⟨10,rfl,by decide,by decide,for_range (n := 10) (fun i σ H' => ∃ v,σ = [some (.int x),some (.ref p),v] ∧ H' p = some (.lst (((Rd20.bytes 10 x).take i).map fun b => V.int (b : Nat))) ∧ Same H H') ⟨none,rfl,upd_same,fun b o e => by rw [upd_ne (ne_of_none e hp)]; exact e⟩ ?_ ?_⟩
  ·rintro i σ H' hi ⟨v,rfl,h1,s1⟩
   have hb : (Rd20.bytes 10 x)[i]? = some (x / 256 ^ i % 256) := by
    unfold Rd20.bytes
    rw [List.getElem?_map,List.getElem?_range hi]
    rfl
   refine ⟨_,rfl,.inl ⟨rfl,_,SqL.of h1⟩,_,rfl,_,rfl,_,_,rfl,rfl,⟨fit_small (by decide),fit_small (by show ((0 : Int) + (i : Int)).natAbs < 2 ^ 64; omega)⟩,_,_,rfl,rfl,(by show (0 : Int) ≤ 8 * (0 + (i : Int)); omega),_,_,rfl,rfl,(by show (0 : Int) < 256; decide),p,_,_,rfl,rfl,h1,
    (by rw [List.length_map,List.length_take]; exact Nat.lt_of_le_of_lt (Nat.min_le_left _ _) (by show i < 16777216; omega)),?_⟩
   refine ⟨_,rfl,?_,fun b o e => by rw [upd_ne (ne_of_none e hp)]; exact s1 b o e⟩
   rw [upd_same,take_snoc' hb,List.map_append]
   have e3 : (x : Int) / 2 ^ (8 * (0 + (i : Int))).toNat % 256 = ((x / 256 ^ i % 256 : Nat) : Int) := by
    have e4 : (8 * (0 + (i : Int))).toNat = 8 * i := by omega
    rw [e4,pow_i,Nat.pow_mul]
    simp
   show some (HO.lst (_ ++ [V.int ((x : Int) / 2 ^ (8 * (0 + (i : Int))).toNat % 256)])) = _
   rw [e3]
   rfl
  ·rintro σ H' ⟨v,rfl,h1,s1⟩
   rw [List.take_of_length_le (by unfold Rd20.bytes; simp)] at h1
   exact ⟨_,rfl,k p H' s1 hp h1⟩
end
theorem expOf_lt (x : Nat) : Rd20.expOf x < 2 ^ 15 := Nat.mod_lt _ (by decide)
theorem sizeOf_lt (x : Nat) : Rd20.sizeOf x < 2 ^ 64 := Nat.mod_lt _ (by decide)
section
variable {P : Program} {w : World} {K : PySem.W.Frag} {mg : Str → Option Value} {base : Heap} {C CF CR : Addr}
theorem ok_exact_of (F : Src K mg "exact_of" s_exact_of ["number"]) (n_max : mg "max" = none) (c_BIAS : Con1 mg "BIAS" (.int 16383)) (f_exponent_of : Fn P w K mg base "exponent_of" 1 ["number"] (spNat fun x => .int (Rd20.expOf x)))
  (f_bits_of : Fn P w K mg base "bits_of" 1 ["number"] (spNat fun x => .int (Rd20.sizeOf x))) (f_sign_of : Fn P w K mg base "sign_of" 1 ["number"] (spNat fun x => .int (ob (Rd20.signOf x)))) (k_Exact : Cla P w K mg base "Exact" C 1 ["self","sign","size","power"] (spInit C 3 mkE)) :
  Fn P w K mg base "exact_of" 3 ["number"] (spExactOf C) := by
 refine F.fn sc_exact_of (fun vs H Q E h => ?_) (fun f cdv A outer s H vs Q E hr h => ?_)
 ·obtain ⟨x,rfl,_⟩ := h
  rfl
 ·obtain ⟨x,rfl,hx,k⟩ := h
  refine ⟨_,(pss_cons (ps_set (i := 1) sc_exact_of.nd rfl (Or.inl rfl) (pe_callB (call_max2 rfl) (by rfl) n_max b_max (pa_cons (pf f_exponent_of hr (pa_cons (pv 0) pa_nil)) (pa_cons pe_int pa_nil))))
    (pss_one (ps_ret (pn k_Exact hr (pa_cons (pf f_sign_of hr (pa_cons (pv 0) pa_nil)) (pa_cons (pf f_bits_of hr (pa_cons (pv 0) pa_nil)) (pa_cons (pe_op op_sub (pe_op op_sub (pv 1) (pe_c1 c_BIAS rfl)) pe_int) pa_nil))))))),?_⟩
  refine ⟨_,rfl,x,rfl,hx,_,_,rfl,_,rfl,x,rfl,hx,_,rfl,x,rfl,hx,_,rfl,_,_,rfl,rfl,_,_,rfl,rfl,?_⟩
  have e1 : (if (1 : Int) > (Rd20.expOf x : Int) then 1 else (Rd20.expOf x : Int)) - 16383 - 63 = powE x := by
   unfold powE
   split <;> split <;> omega
  dsimp only
  rw [e1]
  exact new_of (n := 3) (mk := mkE) rfl fun p H' s1 n1 o1 => k p H' s1 n1 o1
theorem ok_number (F : Src K mg "number_of" s_number_of ["value"]) (T : CE K C) (n_max : mg "max" = none) (c_TOWARDS_ZERO : Con1 mg "TOWARDS_ZERO" (.int 3)) (c_LEAST_LEAD : Con1 mg "LEAST_LEAD" (.int (-16382))) (c_BIAS : Con1 mg "BIAS" (.int 16383))
  (f_with_sign : Fn P w K mg base "with_sign" 1 ["sign","number"] spWith) (f_lead_of : Fn P w K mg base "lead_of" 1 ["value"] (spLead C)) (f_units_in : Fn P w K mg base "units_in" 4 ["value","unit","way"] (spUnits C)) :
  Fn P w K mg base "number_of" 5 ["value"] (spNumber C) := by
 refine F.fn sc_number_of (fun vs H Q E h => ?_) (fun f cdv A outer s H vs Q E hr h => ?_)
 ·obtain ⟨a,neg,m,e,rfl,_⟩ := h
  rfl
 ·obtain ⟨a,neg,m,e,rfl,⟨dx,ha⟩,hp,k⟩ := h
  refine ⟨_,(pss_cons (ps_if (pt_cmpR op_eq (pe_fld (pv 0) rfl) pe_int (nomark _)) (pss_one (ps_ret (pf f_with_sign hr (pa_cons (pe_fld (pv 0) rfl) (pa_cons pe_int pa_nil))))) pss_nil)
    (pss_cons (ps_set (i := 1) sc_number_of.nd rfl (Or.inl rfl) (pf f_lead_of hr (pa_cons (pv 0) pa_nil)))
    (pss_cons (ps_set (i := 2) sc_number_of.nd rfl (Or.inl rfl) (pf f_units_in hr (pa_cons (pv 0) (pa_cons (pe_op op_sub (pe_callB (call_max2 rfl) (by rfl) n_max b_max (pa_cons (pv 1) (pa_cons (pe_c1 c_LEAST_LEAD rfl) pa_nil))) pe_int) (pa_cons (pe_c1 c_TOWARDS_ZERO rfl) pa_nil)))))
    (pss_cons (ps_if (pt_cmpR op_lt (pv 1) (pe_c1 c_LEAST_LEAD rfl) (nomark _)) (pss_one (ps_ret (pf f_with_sign hr (pa_cons (pe_fld (pv 0) rfl) (pa_cons (pv 2) pa_nil))))) pss_nil)
    (pss_one (ps_ret (pf f_with_sign hr (pa_cons (pe_fld (pv 0) rfl) (pa_cons (pe_op op_add (pe_op op_shlB (pe_op op_add (pv 1) (pe_c1 c_BIAS rfl)) pe_int) (pv 2)) pa_nil))))))))),?_⟩
  unfold numE at k
  refine ⟨_,rfl,a,C,dx,_,_,rfl,ha,T.cl,T.nM,fE_m _ _ _,rfl,_,rfl,?_⟩
  refine br2 (fun h => ?_) (fun h => ?_)
  ·have h0 : m = 0 := by have := dV_iff.mp h; omega
   rw [if_pos h0] at k
   exact ⟨_,rfl,a,C,dx,_,_,rfl,ha,T.cl,T.nS,fE_s _ _ _,neg,0,rfl,k⟩
  ·have h0 : m ≠ 0 := by
    intro e0
    rw [dV_t (by omega)] at h
    cases h
   rw [if_neg h0] at k
   have hU : UPre m e (max (Rd20.top m e) (-16382) - 63) := by
    have := hp.u2 h0
    have e1 : max (Rd20.top m e) (-16382) - ((64 : Nat) : Int) + 1 = max (Rd20.top m e) (-16382) - 63 := by omega
    rw [e1] at this
    exact this
   refine ⟨_,rfl,a,_,_,_,rfl,⟨dx,ha⟩,?_⟩
   rw [lead_top h0]
   have em : (if (-16382 : Int) > Rd20.top m e then -16382 else Rd20.top m e) = max (Rd20.top m e) (-16382) := by
    rw [Int.max_def]
    split <;> split <;> omega
   refine ⟨_,rfl,_,rfl,_,_,rfl,_,_,rfl,rfl,?_⟩
   dsimp only
   rw [em]
   refine ⟨a,neg,m,e,_,3,rfl,⟨dx,ha⟩,hU,?_⟩
   have hq : RPre m e 64 (-16382) 16384 := hp
   obtain ⟨⟨kk,k1,k2⟩,he0,he1,_⟩ := hq
   have hl := log_lt h0 k2
   have ht : Rd20.top m e = (Nat.log2 m : Int) + e := rfl
   generalize (Rd20.units 3 neg m e (max (Rd20.top m e) (-16382) - 63)).1 = q at *
   refine ⟨_,rfl,_,_,rfl,rfl,_,rfl,?_⟩
   refine br2 (fun h => ?_) (fun h => ?_)
   ·have h1 : Rd20.top m e < -16382 := of_decide_eq_true h
    rw [if_pos h1] at k
    exact ⟨_,rfl,a,C,dx,_,_,rfl,ha,T.cl,T.nS,fE_s _ _ _,_,rfl,neg,q,rfl,k⟩
   ·have h1 : ¬ Rd20.top m e < -16382 := of_decide_eq_false h
    rw [if_neg h1] at k
    refine ⟨_,rfl,a,C,dx,_,_,rfl,ha,T.cl,T.nS,fE_s _ _ _,_,rfl,_,_,rfl,rfl,_,_,rfl,rfl,⟨by decide,by decide,fit_small (by show (Rd20.top m e + 16383).natAbs < 2 ^ 64; omega)⟩,_,rfl,_,_,rfl,rfl,?_⟩
    have e2 : (Rd20.top m e + 16383) * 2 ^ (64 : Int).toNat + (q : Int) = (((Rd20.top m e + 16383).toNat * 2 ^ 64 + q : Nat) : Int) := by
     rw [show (64 : Int).toNat = 64 from rfl]
     omega
    dsimp only
    rw [e2]
    exact ⟨neg,_,rfl,k⟩
theorem ok_whole (F : Src K mg "number_of_whole" s_number_of_whole ["n"]) (f_number_of : Fn P w K mg base "number_of" 5 ["value"] (spNumber C)) (f_exact_whole : Fn P w K mg base "exact_whole" 3 ["n","power"] (spExW C)) :
  Fn P w K mg base "number_of_whole" 6 ["n"] spWhole := by
 refine F.fn sc_number_of_whole (fun vs H Q E h => ?_) (fun f cdv A outer s H vs Q E hr h => ?_)
 ·obtain ⟨n,rfl,_⟩ := h
  rfl
 ·obtain ⟨n,rfl,hn,k⟩ := h
  refine ⟨_,(pss_one (ps_ret (pf f_number_of hr (pa_cons (pf f_exact_whole hr (pa_cons (pv 0) (pa_cons pe_int pa_nil))) pa_nil)))),?_⟩
  have hN : NPre n.natAbs 0 := ⟨⟨64,by decide,hn⟩,by decide,by decide,by decide,by decide,by decide,by decide,by decide,by decide⟩
  exact ⟨_,rfl,n,0,rfl,fun p H' s1 n1 o1 => ⟨p,_,n.natAbs,0,rfl,o1,hN,k H' s1⟩⟩
end
def TupN (K : PySem.W.Frag) (D : Addr) (ns : List Int) : Prop := ∃ (o : PySem.Obj) (its : Array Value) (n : Nat),K.lookup D = some o ∧ o.cls = .type "tuple" ∧ o.data = .seq its n ∧ its.size ≤ sizeLine ∧ Vals (ns.map V.int) its.toList
theorem TupN.sq {K : PySem.W.Frag} {D : Addr} {ns : List Int} (h : TupN K D ns) (H : Hp) : SqT K H D (ns.map V.int) := .inr h
theorem mod79 {x : Nat} (h : x < 2 ^ 80) : (x : Int) - ((wsE (Rd20.signOf x) 0 : Nat) : Int) = ((x % 2 ^ 79 : Nat) : Int) := by
 unfold wsE Rd20.signOf
 by_cases h1 : 2 ^ 79 ≤ x
 ·rw [decide_eq_true h1,if_pos rfl]; omega
 ·rw [decide_eq_false h1,if_neg Bool.false_ne_true]; omega
def oppE (x : Nat) : Nat := wsE (!Rd20.signOf x) (x % 2 ^ 79)
theorem ob_not (b : Bool) : 1 - ob b = ob (!b) := by cases b <;> rfl
def placesE (n : Nat) : Nat := Rd20.LENGTHS.getD n 64
def spNForm (CF : Addr) : Sp := fun vs H Q _ => ∃ n : Nat,vs = [.int n] ∧ n ≤ 2 ∧ ∀ p H',Same H H' → H p = none → Fo CF H' p (placesE n) (-16382) 16384 → Q (.ref p) H'
section
variable {P : Program} {w : World} {K : PySem.W.Frag} {mg : Str → Option Value} {base : Heap} {C CF CR DP : Addr}
theorem ok_without_sign (F : Src K mg "without_sign" s_without_sign ["number"]) (f_with_sign : Fn P w K mg base "with_sign" 1 ["sign","number"] spWith) (f_sign_of : Fn P w K mg base "sign_of" 1 ["number"] (spNat fun x => .int (ob (Rd20.signOf x)))) :
  Fn P w K mg base "without_sign" 2 ["number"] (spNat fun x => .int (x % 2 ^ 79 : Nat)) := by
 refine F.fn sc_without_sign (fun vs H Q E h => ?_) (fun f cdv A outer s H vs Q E hr h => ?_)
 ·obtain ⟨x,rfl,_⟩ := h
  rfl
 ·obtain ⟨x,rfl,hx,k⟩ := h
  refine ⟨_,(pss_one (ps_ret (pe_op op_sub (pv 0) (pf f_with_sign hr (pa_cons (pf f_sign_of hr (pa_cons (pv 0) pa_nil)) (pa_cons pe_int pa_nil)))))),?_⟩
  exact ⟨_,rfl,_,rfl,x,rfl,hx,Rd20.signOf x,0,rfl,_,_,rfl,rfl,qi k (mod79 hx)⟩
theorem ok_opposite (F : Src K mg "opposite" s_opposite ["number"]) (f_with_sign : Fn P w K mg base "with_sign" 1 ["sign","number"] spWith) (f_sign_of : Fn P w K mg base "sign_of" 1 ["number"] (spNat fun x => .int (ob (Rd20.signOf x)))) (f_without_sign : Fn P w K mg base "without_sign" 2 ["number"] (spNat fun x => .int (x % 2 ^ 79 : Nat))) :
  Fn P w K mg base "opposite" 3 ["number"] (spNat fun x => .int (oppE x)) := by
 refine F.fn sc_opposite (fun vs H Q E h => ?_) (fun f cdv A outer s H vs Q E hr h => ?_)
 ·obtain ⟨x,rfl,_⟩ := h
  rfl
 ·obtain ⟨x,rfl,hx,k⟩ := h
  refine ⟨_,(pss_one (ps_ret (pf f_with_sign hr (pa_cons (pe_op op_sub pe_int (pf f_sign_of hr (pa_cons (pv 0) pa_nil))) (pa_cons (pf f_without_sign hr (pa_cons (pv 0) pa_nil)) pa_nil))))),?_⟩
  refine ⟨_,rfl,x,rfl,hx,_,_,rfl,rfl,_,rfl,x,rfl,hx,?_⟩
  dsimp only
  rw [ob_not]
  exact ⟨_,_,rfl,k⟩
theorem ok_is_zero (F : Src K mg "is_zero" s_is_zero ["number"]) (f_without_sign : Fn P w K mg base "without_sign" 2 ["number"] (spNat fun x => .int (x % 2 ^ 79 : Nat))) : Fn P w K mg base "is_zero" 3 ["number"] (spNat fun x => .bl (decide (x % 2 ^ 79 = 0))) := by
 refine F.fn sc_is_zero (fun vs H Q E h => ?_) (fun f cdv A outer s H vs Q E hr h => ?_)
 ·obtain ⟨x,rfl,_⟩ := h
  rfl
 ·obtain ⟨x,rfl,hx,k⟩ := h
  refine ⟨_,(pss_one (ps_ret (pe_cmpR op_eq (pf f_without_sign hr (pa_cons (pv 0) pa_nil)) pe_int (nomark _)))),?_⟩
  refine ⟨_,rfl,x,rfl,hx,rfl,qb k ?_⟩
  show decide (V.int ((x % 2 ^ 79 : Nat) : Int) = V.int 0) = _
  rw [dV_eq]
  exact decide_eq_decide.mpr (by omega)
theorem ok_is_small (F : Src K mg "is_small" s_is_small ["number"]) (f_bits_of : Fn P w K mg base "bits_of" 1 ["number"] (spNat fun x => .int (Rd20.sizeOf x))) (f_exponent_of : Fn P w K mg base "exponent_of" 1 ["number"] (spNat fun x => .int (Rd20.expOf x))) : Fn P w K mg base "is_small" 2 ["number"] (spNat fun x => .bl (Rd20.small x)) := by
 refine F.fn sc_is_small (fun vs H Q E h => ?_) (fun f cdv A outer s H vs Q E hr h => ?_)
 ·obtain ⟨x,rfl,_⟩ := h
  rfl
 ·obtain ⟨x,rfl,hx,k⟩ := h
  refine ⟨_,(pss_one (ps_ret (pe_and (pe_cmpR op_eq (pf f_exponent_of hr (pa_cons (pv 0) pa_nil)) pe_int (nomark _)) (pe_one (pe_cmpR op_gt (pf f_bits_of hr (pa_cons (pv 0) pa_nil)) pe_int (nomark _)))))),?_⟩
  refine ⟨_,rfl,x,rfl,hx,rfl,_,rfl,?_⟩
  have e : Rd20.small x = (decide (Rd20.expOf x = 0) && decide (0 < Rd20.sizeOf x)) := by
   by_cases h1 : Rd20.expOf x = 0 <;> by_cases h2 : Rd20.sizeOf x = 0 <;> simp [Rd20.small,h1,h2,Nat.pos_iff_ne_zero]
  dsimp only at k
  rw [e] at k
  refine br2 (fun h => ?_) (fun h => ?_)
  ·have h1 : Rd20.expOf x = 0 := by have := dV_iff.mp h; omega
   rw [decide_eq_true h1,Bool.true_and] at k
   refine ⟨_,rfl,x,rfl,hx,_,_,rfl,rfl,qb k ?_⟩
   exact decide_eq_decide.mpr (by omega)
  ·have h1 : ¬ Rd20.expOf x = 0 := by
    intro e0
    rw [dV_t (by omega)] at h
    cases h
   rw [decide_eq_false h1,Bool.false_and] at k
   exact k
theorem ok_nform (F : Src K mg "number_form" s_number_form ["length"]) (c_PLACES_number : Con1 mg "PLACES_number" (.ref DP)) (hP : TupN K DP [24,53,64]) (c_LEAST_LEAD : Con1 mg "LEAST_LEAD" (.int (-16382))) (c_LIMIT_number : Con1 mg "LIMIT_number" (.int 16384)) (k_Form : Cla P w K mg base "Form" CF 1 ["self","places","least","limit"] (spInit CF 3 mkF)) :
  Fn P w K mg base "number_form" 3 ["length"] (spNForm CF) := by
 refine F.fn sc_number_form (fun vs H Q E h => ?_) (fun f cdv A outer s H vs Q E hr h => ?_)
 ·obtain ⟨n,rfl,_⟩ := h
  rfl
 ·obtain ⟨n,rfl,hn,k⟩ := h
  refine ⟨_,(pss_one (ps_ret (pn k_Form hr (pa_cons (pe_ix ix_tup (pe_c1 c_PLACES_number rfl) (pv 0) (fun _ _ => rfl)) (pa_cons (pe_c1 c_LEAST_LEAD rfl) (pa_cons (pe_c1 c_LIMIT_number rfl) pa_nil)))))),?_⟩
  have hat : atI (([24,53,64] : List Int).map V.int) (n : Int) = some (.int (placesE n : Nat)) := by
   match n,hn with
   | 0,_ => rfl
   | 1,_ => rfl
   | 2,_ => rfl
  refine ⟨_,rfl,DP,_,n,_,rfl,rfl,hP.sq H,hat,?_⟩
  show ∀ (x dx : Addr),_ → _ → _ → _
  refine new_of (n := 3) (mk := mkF) (by rfl) ?_
  exact fun p H' s1 n1 o1 => k p H' s1 n1 o1
end
abbrev s_double_form : Stmt := top 73
theorem sc_double_form : FnScope [] [] (defScope s_double_form) := ⟨rfl,rfl,rfl,by decide +kernel,rfl,by decide +kernel,by decide +kernel⟩
abbrev s_exponent_in : Stmt := top 74
theorem sc_exponent_in : FnScope ["bits"] ["bits"] (defScope s_exponent_in) := ⟨rfl,rfl,rfl,by decide +kernel,rfl,by decide +kernel,by decide +kernel⟩
abbrev s_fraction_in : Stmt := top 75
theorem sc_fraction_in : FnScope ["bits"] ["bits"] (defScope s_fraction_in) := ⟨rfl,rfl,rfl,by decide +kernel,rfl,by decide +kernel,by decide +kernel⟩
abbrev s_is_small_double : Stmt := top 76
theorem sc_is_small_double : FnScope ["bits"] ["bits"] (defScope s_is_small_double) := ⟨rfl,rfl,rfl,by decide +kernel,rfl,by decide +kernel,by decide +kernel⟩
abbrev s_number_of_double : Stmt := top 77
theorem sc_number_of_double : FnScope ["bits","sign","exponent","fraction"] ["bits"] (defScope s_number_of_double) := ⟨rfl,rfl,rfl,by decide +kernel,rfl,by decide +kernel,by decide +kernel⟩
abbrev s_infinite_double : Stmt := top 78
theorem sc_infinite_double : FnScope ["sign"] ["sign"] (defScope s_infinite_double) := ⟨rfl,rfl,rfl,by decide +kernel,rfl,by decide +kernel,by decide +kernel⟩
abbrev s_double_of : Stmt := top 79
theorem sc_double_of : FnScope ["value","lead","size"] ["value"] (defScope s_double_of) := ⟨rfl,rfl,rfl,by decide +kernel,rfl,by decide +kernel,by decide +kernel⟩
def spBits (f : Nat → V) : Sp := fun vs H Q _ => ∃ b : Nat,vs = [.int b] ∧ b < 2 ^ 64 ∧ Q (f b) H
def dExp (b : Nat) : Nat := b / 2 ^ 52 % 2048
def dFrac (b : Nat) : Nat := b % 2 ^ 52
def dSmall (b : Nat) : Bool := decide (dExp b = 0) && decide (0 < dFrac b)
def spForm (CF : Addr) : Sp := fun vs H Q _ => vs = [] ∧ ∀ p H',Same H H' → H p = none → Fo CF H' p 53 (-1022) 1024 → Q (.ref p) H'
def INFn : Nat := 604453686435277732577280
def dNumE (b : Nat) : Nat :=
 if dExp b = 2047 then (if dFrac b = 0 then wsE (decide (2 ^ 63 ≤ b)) INFn else NONEn)
 else if dExp b = 0 then numE (decide (2 ^ 63 ≤ b)) (dFrac b) (-1074) else numE (decide (2 ^ 63 ≤ b)) (dFrac b + 2 ^ 52) ((dExp b : Int) - 1075)
def spNumDouble : Sp := fun vs H Q _ => ∃ b : Nat,vs = [.int b] ∧ b < 2 ^ 64 ∧ ∀ H',Same H H' → Q (.int (dNumE b)) H'
def spInfD : Sp := fun vs H Q _ => ∃ neg : Bool,vs = [.int (ob neg)] ∧ Q (.int ((if neg = true then 2 ^ 63 else 0) + 9218868437227405312 : Nat)) H
def dblE (neg : Bool) (m : Nat) (e : Int) : Nat :=
 if m = 0 then (if neg = true then 2 ^ 63 else 0) else
 (if neg = true then 2 ^ 63 else 0) + (max (Rd20.top m e) (-1022) + 1022).toNat * 2 ^ 52 + (Rd20.units 3 neg m e (max (Rd20.top m e) (-1022) - 53 + 1)).1
def DPre (m : Nat) (e : Int) : Prop := RPre m e 53 (-1022) 1024
def spDoubleOf (C : Addr) : Sp := fun vs H Q _ => ∃ a neg m e,vs = [.ref a] ∧ Ex C H a neg m e ∧ DPre m e ∧ Q (.int (dblE neg m e)) H
theorem ob_shl (neg : Bool) (k : Nat) : ob neg * 2 ^ k = (((if neg = true then 2 ^ k else 0 : Nat)) : Int) := by
 cases neg
 ·show (0 : Int) * 2 ^ k = 0
  exact Int.zero_mul _
 ·show (1 : Int) * 2 ^ k = ((2 ^ k : Nat) : Int)
  simp
theorem ob_63 (b : Nat) (h : b < 2 ^ 64) : (b : Int) / 2 ^ 63 = ob (decide (2 ^ 63 ≤ b)) := by
 unfold ob
 by_cases h1 : 2 ^ 63 ≤ b
 ·rw [decide_eq_true h1,if_pos rfl]; omega
 ·rw [decide_eq_false h1,if_neg Bool.false_ne_true]; omega
section
variable {P : Program} {w : World} {K : PySem.W.Frag} {mg : Str → Option Value} {base : Heap} {C CF CR : Addr}
theorem ok_form (F : Src K mg "double_form" s_double_form []) (c_PLACES_double : Con1 mg "PLACES_double" (.int 53)) (c_LEAST : Con1 mg "LEAST" (.int (-1022))) (c_LIMIT_double : Con1 mg "LIMIT_double" (.int 1024)) (k_Form : Cla P w K mg base "Form" CF 1 ["self","places","least","limit"] (spInit CF 3 mkF)) :
  Fn P w K mg base "double_form" 3 [] (spForm CF) := by
 refine F.fn sc_double_form (fun vs H Q E h => ?_) (fun f cdv A outer s H vs Q E hr h => ?_)
 ·obtain ⟨rfl,_⟩ := h
  rfl
 ·obtain ⟨rfl,k⟩ := h
  refine ⟨_,(pss_one (ps_ret (pn k_Form hr (pa_cons (pe_c1 c_PLACES_double rfl) (pa_cons (pe_c1 c_LEAST rfl) (pa_cons (pe_c1 c_LIMIT_double rfl) pa_nil)))))),?_⟩
  show ∀ (x dx : Addr),_ → _ → _ → _
  refine new_of (n := 3) (mk := mkF) (by rfl) ?_
  exact fun p H' s1 n1 o1 => k p H' s1 n1 o1
theorem ok_expin (F : Src K mg "exponent_in" s_exponent_in ["bits"]) : Fn P w K mg base "exponent_in" 1 ["bits"] (spBits fun b => .int (dExp b)) := by
 refine F.fn sc_exponent_in (fun vs H Q E h => ?_) (fun f cdv A outer s H vs Q E hr h => ?_)
 ·obtain ⟨x,rfl,_⟩ := h
  rfl
 ·obtain ⟨x,rfl,hx,k⟩ := h
  refine ⟨_,(pss_one (ps_ret (pe_op op_mod (pe_op op_shr (pv 0) pe_int) (pe_op op_pow pe_int pe_int)))),?_⟩
  refine ⟨_,rfl,_,_,rfl,rfl,(by show (0 : Int) ≤ 52; decide),_,_,rfl,rfl,cp2 11 (by decide),_,_,rfl,rfl,(by show (0 : Int) < 2 ^ 11; decide),?_⟩
  refine qi k ?_
  show (x : Int) / 2 ^ (52 : Int).toNat % 2 ^ (11 : Int).toNat = _
  unfold dExp
  rw [show (52 : Int).toNat = 52 from rfl,show (11 : Int).toNat = 11 from rfl]
  omega
theorem ok_fracin (F : Src K mg "fraction_in" s_fraction_in ["bits"]) : Fn P w K mg base "fraction_in" 1 ["bits"] (spBits fun b => .int (dFrac b)) := by
 refine F.fn sc_fraction_in (fun vs H Q E h => ?_) (fun f cdv A outer s H vs Q E hr h => ?_)
 ·obtain ⟨x,rfl,_⟩ := h
  rfl
 ·obtain ⟨x,rfl,hx,k⟩ := h
  refine ⟨_,(pss_one (ps_ret (pe_op op_mod (pv 0) (pe_op op_pow pe_int pe_int)))),?_⟩
  refine ⟨_,rfl,_,_,rfl,rfl,cp2 52 (by decide),_,_,rfl,rfl,(by show (0 : Int) < 2 ^ 52; decide),?_⟩
  refine qi k ?_
  show (x : Int) % 2 ^ (52 : Int).toNat = _
  unfold dFrac
  rw [show (52 : Int).toNat = 52 from rfl]
  omega
theorem ok_small_double (F : Src K mg "is_small_double" s_is_small_double ["bits"]) (f_exponent_in : Fn P w K mg base "exponent_in" 1 ["bits"] (spBits fun b => .int (dExp b))) (f_fraction_in : Fn P w K mg base "fraction_in" 1 ["bits"] (spBits fun b => .int (dFrac b))) :
  Fn P w K mg base "is_small_double" 2 ["bits"] (spBits fun b => .bl (dSmall b)) := by
 refine F.fn sc_is_small_double (fun vs H Q E h => ?_) (fun f cdv A outer s H vs Q E hr h => ?_)
 ·obtain ⟨x,rfl,_⟩ := h
  rfl
 ·obtain ⟨x,rfl,hx,k⟩ := h
  refine ⟨_,(pss_one (ps_ret (pe_and (pe_cmpR op_eq (pf f_exponent_in hr (pa_cons (pv 0) pa_nil)) pe_int (nomark _)) (pe_one (pe_cmpR op_gt (pf f_fraction_in hr (pa_cons (pv 0) pa_nil)) pe_int (nomark _)))))),?_⟩
  unfold dSmall at k
  dsimp only at k
  refine ⟨_,rfl,x,rfl,hx,rfl,_,rfl,?_⟩
  refine br2 (fun h => ?_) (fun h => ?_)
  ·have h1 : dExp x = 0 := by have := dV_iff.mp h; omega
   rw [decide_eq_true h1,Bool.true_and] at k
   refine ⟨_,rfl,x,rfl,hx,_,_,rfl,rfl,?_⟩
   refine qb k ?_
   exact decide_eq_decide.mpr (by omega)
  ·have h1 : ¬ dExp x = 0 := by
    intro e0
    rw [dV_t (by omega)] at h
    cases h
   rw [decide_eq_false h1,Bool.false_and] at k
   exact k
theorem ok_num_double (F : Src K mg "number_of_double" s_number_of_double ["bits"]) (f_exponent_in : Fn P w K mg base "exponent_in" 1 ["bits"] (spBits fun b => .int (dExp b))) (f_fraction_in : Fn P w K mg base "fraction_in" 1 ["bits"] (spBits fun b => .int (dFrac b)))
  (f_with_sign : Fn P w K mg base "with_sign" 1 ["sign","number"] spWith) (c_INFINITY : Con1 mg "INFINITY" (.int INFn)) (c_NONE : Con1 mg "NONE" (.int NONEn)) (f_number_of : Fn P w K mg base "number_of" 5 ["value"] (spNumber C))
  (k_Exact : Cla P w K mg base "Exact" C 1 ["self","sign","size","power"] (spInit C 3 mkE)) (c_LOWEST_UNIT : Con1 mg "LOWEST_UNIT" (.int (-1074))) : Fn P w K mg base "number_of_double" 6 ["bits"] spNumDouble := by
 refine F.fn sc_number_of_double (fun vs H Q E h => ?_) (fun f cdv A outer s H vs Q E hr h => ?_)
 ·obtain ⟨x,rfl,_⟩ := h
  rfl
 ·obtain ⟨b,rfl,hb,k⟩ := h
  refine ⟨_,(pss_cons (ps_set (i := 1) sc_number_of_double.nd rfl (Or.inl rfl) (pe_op op_shr (pv 0) pe_int))
    (pss_cons (ps_set (i := 2) sc_number_of_double.nd rfl (Or.inl rfl) (pf f_exponent_in hr (pa_cons (pv 0) pa_nil)))
    (pss_cons (ps_set (i := 3) sc_number_of_double.nd rfl (Or.inl rfl) (pf f_fraction_in hr (pa_cons (pv 0) pa_nil)))
    (pss_cons (ps_if (pt_cmpR op_eq (pv 2) pe_int (nomark _)) (pss_one (ps_ret (pe_ifExp (pt_cmpR op_eq (pv 3) pe_int (nomark _)) (pf f_with_sign hr (pa_cons (pv 1) (pa_cons (pe_c1 c_INFINITY rfl) pa_nil))) (pe_c1 c_NONE rfl)))) pss_nil)
    (pss_cons (ps_if (pt_cmpR op_eq (pv 2) pe_int (nomark _)) (pss_one (ps_ret (pf f_number_of hr (pa_cons (pn k_Exact hr (pa_cons (pv 1) (pa_cons (pv 3) (pa_cons (pe_c1 c_LOWEST_UNIT rfl) pa_nil)))) pa_nil)))) pss_nil)
    (pss_one (ps_ret (pf f_number_of hr (pa_cons (pn k_Exact hr (pa_cons (pv 1) (pa_cons (pe_op op_add (pv 3) (pe_op op_pow pe_int pe_int)) (pa_cons (pe_op op_add (pe_op op_sub (pv 2) pe_int) (pe_c1 c_LOWEST_UNIT rfl)) pa_nil)))) pa_nil))))))))),?_⟩
  have hE : dExp b < 2048 := Nat.mod_lt _ (by decide)
  have hF : dFrac b < 2 ^ 52 := Nat.mod_lt _ (by decide)
  unfold dNumE at k
  refine ⟨_,rfl,_,_,rfl,rfl,(by show (0 : Int) ≤ 63; decide),?_⟩
  dsimp only
  rw [show (63 : Int).toNat = 63 from rfl,ob_63 b hb]
  generalize decide (2 ^ 63 ≤ b) = neg at *
  refine ⟨_,rfl,b,rfl,hb,_,rfl,b,rfl,hb,?_⟩
  refine ⟨_,rfl,rfl,_,rfl,?_⟩
  refine br2 (fun h => ?_) (fun h => ?_)
  ·have h1 : dExp b = 2047 := by have := dV_iff.mp h; omega
   rw [if_pos h1] at k
   refine ⟨_,rfl,rfl,_,rfl,?_⟩
   refine br2 (fun h => ?_) (fun h => ?_)
   ·have h2 : dFrac b = 0 := by have := dV_iff.mp h; omega
    rw [if_pos h2] at k
    exact ⟨_,rfl,neg,INFn,rfl,k H (fun _ _ e => e)⟩
   ·have h2 : ¬ dFrac b = 0 := by
     intro e0
     rw [dV_t (by omega)] at h
     cases h
    rw [if_neg h2] at k
    exact k H (fun _ _ e => e)
  ·have h1 : ¬ dExp b = 2047 := by
    intro e0
    rw [dV_t (by omega)] at h
    cases h
   rw [if_neg h1] at k
   refine ⟨_,rfl,rfl,_,rfl,?_⟩
   refine br2 (fun h => ?_) (fun h => ?_)
   ·have h2 : dExp b = 0 := by have := dV_iff.mp h; omega
    rw [if_pos h2] at k
    refine ⟨_,rfl,_,rfl,?_⟩
    show ∀ (x dx : Addr),_ → _ → _ → _
    refine new_of (n := 3) (mk := mkE) (by rfl) ?_
    exact fun p H' s1 n1 o1 => ⟨p,neg,dFrac b,-1074,rfl,o1,⟨⟨52,by decide,hF⟩,by decide,by decide,by decide,by decide,by decide,by decide,by decide,by decide⟩,k H' s1⟩
   ·have h2 : ¬ dExp b = 0 := by
     intro e0
     rw [dV_t (by omega)] at h
     cases h
    rw [if_neg h2] at k
    refine ⟨_,rfl,_,rfl,_,_,rfl,rfl,cp2 52 (by decide),_,_,rfl,rfl,_,rfl,_,_,rfl,rfl,_,_,rfl,rfl,?_⟩
    have e1 : (dFrac b : Int) + 2 ^ (52 : Int).toNat = ((dFrac b + 2 ^ 52 : Nat) : Int) := by rw [show (52 : Int).toNat = 52 from rfl]; omega
    have e2 : (dExp b : Int) - 1 + -1074 = (dExp b : Int) - 1075 := by omega
    dsimp only
    rw [e1,e2]
    show ∀ (x dx : Addr),_ → _ → _ → _
    refine new_of (n := 3) (mk := mkE) (by rfl) ?_
    exact fun p H' s1 n1 o1 => ⟨p,neg,dFrac b + 2 ^ 52,(dExp b : Int) - 1075,rfl,o1,⟨⟨53,by decide,by omega⟩,by omega,by omega,by decide,by decide,by decide,by decide,by decide,by decide⟩,k H' s1⟩
theorem ok_infd (F : Src K mg "infinite_double" s_infinite_double ["sign"]) (c_DOUBLE_INFINITY : Con1 mg "DOUBLE_INFINITY" (.int 9218868437227405312)) : Fn P w K mg base "infinite_double" 1 ["sign"] spInfD := by
 refine F.fn sc_infinite_double (fun vs H Q E h => ?_) (fun f cdv A outer s H vs Q E hr h => ?_)
 ·obtain ⟨x,rfl,_⟩ := h
  rfl
 ·obtain ⟨neg,rfl,k⟩ := h
  refine ⟨_,(pss_one (ps_ret (pe_op op_add (pe_op op_shlB (pv 0) pe_int) (pe_c1 c_DOUBLE_INFINITY rfl)))),?_⟩
  refine ⟨_,rfl,_,_,rfl,rfl,⟨by decide,by decide,fit_small (by cases neg <;> decide)⟩,_,_,rfl,rfl,?_⟩
  refine qi k ?_
  show ob neg * 2 ^ (63 : Int).toNat + 9218868437227405312 = _
  rw [show (63 : Int).toNat = 63 from rfl,ob_shl]
  omega
theorem ok_double_of (F : Src K mg "double_of" s_double_of ["value"]) (T : CE K C) (n_max : mg "max" = none) (c_TOWARDS_ZERO : Con1 mg "TOWARDS_ZERO" (.int 3)) (c_LEAST : Con1 mg "LEAST" (.int (-1022))) (c_PLACES_double : Con1 mg "PLACES_double" (.int 53))
  (f_lead_of : Fn P w K mg base "lead_of" 1 ["value"] (spLead C)) (f_units_in : Fn P w K mg base "units_in" 4 ["value","unit","way"] (spUnits C)) :
  Fn P w K mg base "double_of" 5 ["value"] (spDoubleOf C) := by
 refine F.fn sc_double_of (fun vs H Q E h => ?_) (fun f cdv A outer s H vs Q E hr h => ?_)
 ·obtain ⟨a,neg,m,e,rfl,_⟩ := h
  rfl
 ·obtain ⟨a,neg,m,e,rfl,⟨dx,ha⟩,hp,k⟩ := h
  refine ⟨_,(pss_cons (ps_if (pt_cmpR op_eq (pe_fld (pv 0) rfl) pe_int (nomark _)) (pss_one (ps_ret (pe_op op_shlB (pe_fld (pv 0) rfl) pe_int))) pss_nil)
    (pss_cons (ps_set (i := 1) sc_double_of.nd rfl (Or.inl rfl) (pe_callB (call_max2 rfl) (by rfl) n_max b_max (pa_cons (pf f_lead_of hr (pa_cons (pv 0) pa_nil)) (pa_cons (pe_c1 c_LEAST rfl) pa_nil))))
    (pss_cons (ps_set (i := 2) sc_double_of.nd rfl (Or.inl rfl) (pf f_units_in hr (pa_cons (pv 0) (pa_cons (pe_op op_add (pe_op op_sub (pv 1) (pe_c1 c_PLACES_double rfl)) pe_int) (pa_cons (pe_c1 c_TOWARDS_ZERO rfl) pa_nil)))))
    (pss_one (ps_ret (pe_op op_add (pe_op op_add (pe_op op_shlB (pe_fld (pv 0) rfl) pe_int) (pe_op op_shlB (pe_op op_sub (pv 1) (pe_c1 c_LEAST rfl)) pe_int)) (pv 2))))))),?_⟩
  unfold dblE at k
  have hob : Fit (ob neg) := fit_small (by cases neg <;> decide)
  refine ⟨_,rfl,a,C,dx,_,_,rfl,ha,T.cl,T.nM,fE_m _ _ _,rfl,_,rfl,?_⟩
  refine br2 (fun h => ?_) (fun h => ?_)
  ·have h0 : m = 0 := by have := dV_iff.mp h; omega
   rw [if_pos h0] at k
   refine ⟨_,rfl,a,C,dx,_,_,rfl,ha,T.cl,T.nS,fE_s _ _ _,_,_,rfl,rfl,⟨by decide,by decide,hob⟩,?_⟩
   refine qi k ?_
   exact ob_shl neg 63
  ·have h0 : m ≠ 0 := by
    intro e0
    rw [dV_t (by omega)] at h
    cases h
   rw [if_neg h0] at k
   have hU : UPre m e (max (Rd20.top m e) (-1022) - 53 + 1) := hp.u2 h0
   refine ⟨_,rfl,a,_,_,_,rfl,⟨dx,ha⟩,_,_,rfl,?_⟩
   have em : (if (-1022 : Int) > e + bl (m : Int) - 1 then -1022 else e + bl (m : Int) - 1) = max (Rd20.top m e) (-1022) := by
    rw [lead_top h0,Int.max_def]
    split <;> split <;> omega
   dsimp only
   rw [em]
   have hq : RPre m e 53 (-1022) 1024 := hp
   obtain ⟨⟨kk,k1,k2⟩,he0,he1,_⟩ := hq
   have hl := log_lt h0 k2
   have ht : Rd20.top m e = (Nat.log2 m : Int) + e := rfl
   have hx : max (Rd20.top m e) (-1022) ≥ -1022 ∧ max (Rd20.top m e) (-1022) ≤ 300000 := by omega
   generalize max (Rd20.top m e) (-1022) = L at *
   refine ⟨_,rfl,_,rfl,_,_,rfl,rfl,_,_,rfl,rfl,a,neg,m,e,_,3,rfl,⟨dx,ha⟩,hU,?_⟩
   refine ⟨_,rfl,a,C,dx,_,_,rfl,ha,T.cl,T.nS,fE_s _ _ _,_,_,rfl,rfl,⟨by decide,by decide,hob⟩,_,rfl,_,_,rfl,rfl,_,_,rfl,rfl,⟨by decide,by decide,fit_small (by show (L - -1022).natAbs < 2 ^ 64; omega)⟩,_,_,rfl,rfl,_,rfl,_,_,rfl,rfl,?_⟩
   refine qi k ?_
   show ob neg * 2 ^ (63 : Int).toNat + (L - -1022) * 2 ^ (52 : Int).toNat + (((Rd20.units 3 neg m e (L - 53 + 1)).1 : Nat) : Int) = _
   rw [show (63 : Int).toNat = 63 from rfl,show (52 : Int).toNat = 52 from rfl,ob_shl]
   omega
end
abbrev s_Ring_init : Stmt := inClass (top 62) 0
theorem sc_Ring_init : FnScope ["self"] ["self"] (defScope s_Ring_init) := ⟨rfl,rfl,rfl,by decide +kernel,rfl,by decide +kernel,by decide +kernel⟩
abbrev s_Ring_begin : Stmt := inClass (top 62) 1
theorem sc_Ring_begin : FnScope ["self"] ["self"] (defScope s_Ring_begin) := ⟨rfl,rfl,rfl,by decide +kernel,rfl,by decide +kernel,by decide +kernel⟩
abbrev s_Ring_set_flags : Stmt := inClass (top 62) 2
theorem sc_Ring_set_flags : FnScope ["self","flags"] ["self","flags"] (defScope s_Ring_set_flags) := ⟨rfl,rfl,rfl,by decide +kernel,rfl,by decide +kernel,by decide +kernel⟩
abbrev s_Ring_is_empty : Stmt := inClass (top 62) 3
theorem sc_Ring_is_empty : FnScope ["self","i"] ["self","i"] (defScope s_Ring_is_empty) := ⟨rfl,rfl,rfl,by decide +kernel,rfl,by decide +kernel,by decide +kernel⟩
abbrev s_Ring_is_full : Stmt := inClass (top 62) 4
theorem sc_Ring_is_full : FnScope ["self"] ["self"] (defScope s_Ring_is_full) := ⟨rfl,rfl,rfl,by decide +kernel,rfl,by decide +kernel,by decide +kernel⟩
abbrev s_Ring_push : Stmt := inClass (top 62) 5
theorem sc_Ring_push : FnScope ["self","number"] ["self","number"] (defScope s_Ring_push) := ⟨rfl,rfl,rfl,by decide +kernel,rfl,by decide +kernel,by decide +kernel⟩
abbrev s_Ring_take_top : Stmt := inClass (top 62) 6
theorem sc_Ring_take_top : FnScope ["self","number"] ["self"] (defScope s_Ring_take_top) := ⟨rfl,rfl,rfl,by decide +kernel,rfl,by decide +kernel,by decide +kernel⟩
abbrev s_Ring_swap : Stmt := inClass (top 62) 7
theorem sc_Ring_swap : FnScope ["self","i","number"] ["self","i"] (defScope s_Ring_swap) := ⟨rfl,rfl,rfl,by decide +kernel,rfl,by decide +kernel,by decide +kernel⟩
abbrev s_Ring_turn : Stmt := inClass (top 62) 8
theorem sc_Ring_turn : FnScope ["self","steps","start"] ["self","steps"] (defScope s_Ring_turn) := ⟨rfl,rfl,rfl,by decide +kernel,rfl,by decide +kernel,by decide +kernel⟩
theorem sne {o : HO} : some o ≠ none := fun z => nomatch z
def EMn : Nat := 18446744073709551616
structure RS where
 way : Nat
 len : Nat
 flags : Nat
 regs : List Nat
def rs0 : RS := ⟨0,2,0,List.replicate 8 EMn⟩
def fGv (a b c d : V) : List (Str × V) := [("way",a),("length",b),("flags",c),("registers",d)]
abbrev vN (x : Nat) : V := .int (x : Int)
abbrev vNs (l : List Nat) : List V := l.map vN
abbrev fG (s : RS) (l : Addr) : List (Str × V) := fGv (vN s.way) (vN s.len) (vN s.flags) (.ref l)
structure RingAt (C : Addr) (H : Hp) (r l : Addr) (s : RS) : Prop where
 ob : Obj C (fG s l) H r
 ls : H l = some (.lst (vNs s.regs))
 n8 : s.regs.length = 8
structure Keep (H H' : Hp) (r l l' : Addr) : Prop where
 keep : ∀ b o,H b = some o → b ≠ r → b ≠ l → H' b = some o
 new : l' = l ∨ H l' = none
 ring : H' r ≠ none
 dom : ∀ b,H b ≠ none → H' b ≠ none
theorem dom1 {H : Hp} {a : Addr} {o : HO} : ∀ b,H b ≠ none → upd H a o b ≠ none := fun b h => by
 unfold upd
 split
 ·exact sne
 ·exact h
theorem dom_same {H H' : Hp} (h : Same H H') : ∀ b,H b ≠ none → H' b ≠ none := fun b hb => by
 cases e : H b with
 | none => exact absurd e hb
 | some o => rw [h b o e]; exact sne
theorem Keep.trans {H H1 H2 : Hp} {r l l1 l2 : Addr} (a : Keep H H1 r l l1) (b : Keep H1 H2 r l1 l2) : Keep H H2 r l l2 where
 keep := fun c o hc hr hl => by
  refine b.keep c o (a.keep c o hc hr hl) hr ?_
  rcases a.new with h | h
  ·rw [h]; exact hl
  ·exact ne_of_none hc h
 new := by
  rcases b.new with h | h
  ·rw [h]; exact a.new
  ·by_cases hl : l2 = l
   ·exact .inl hl
   ·right
    cases hh : H l2 with
    | none => rfl
    | some o =>
     have hr : l2 ≠ r := fun e => by rw [e] at h; exact a.ring h
     rw [a.keep l2 o hh hr hl] at h
     cases h
 ring := b.ring
 dom := fun c hc => b.dom c (a.dom c hc)
theorem Keep.of_same {H H' : Hp} {C r l : Addr} {s : RS} (R : RingAt C H r l s) (h : Same H H') : Keep H H' r l l := ⟨fun b o e _ _ => h b o e,.inl rfl,by obtain ⟨dx,e⟩ := R.ob; rw [h _ _ e]; exact sne,dom_same h⟩
theorem RingAt.same {C : Addr} {H H' : Hp} {r l : Addr} {s : RS} (R : RingAt C H r l s) (h : Same H H') : RingAt C H' r l s := ⟨R.ob.same h,h _ _ R.ls,R.n8⟩
structure CG (K : PySem.W.Frag) (C : Addr) : Prop where
 cl : Cls K C
 nW : NoAttr K C "way"
 nL : NoAttr K C "length"
 nF : NoAttr K C "flags"
 nR : NoAttr K C "registers"
theorem fG_w (a b c d : V) : (fGv a b c d).lookup ("way" : Str) = some a := rfl
theorem fG_l (a b c d : V) : (fGv a b c d).lookup ("length" : Str) = some b := rfl
theorem fG_f (a b c d : V) : (fGv a b c d).lookup ("flags" : Str) = some c := rfl
theorem fG_r (a b c d : V) : (fGv a b c d).lookup ("registers" : Str) = some d := rfl
theorem fG_pw (a b c d x : V) : putF "way" x (fGv a b c d) = fGv x b c d := rfl
theorem fG_pl (a b c d x : V) : putF "length" x (fGv a b c d) = fGv a x c d := rfl
theorem fG_pf (a b c d x : V) : putF "flags" x (fGv a b c d) = fGv a b x d := rfl
theorem fG_pr (a b c d x : V) : putF "registers" x (fGv a b c d) = fGv a b c x := rfl
theorem few4 {a b c d : V} : (fGv a b c d).length < 1000 := by show 4 < 1000; decide
def spBegin (C : Addr) : Sp := fun vs H Q _ => ∃ r dx fs,vs = [.ref r] ∧ H r = some (.ins C dx fs) ∧ (fs = [] ∨ ∃ a b c d,fs = fGv a b c d) ∧
 ∀ H' l',RingAt C H' r l' rs0 → (∀ b o,H b = some o → b ≠ r → H' b = some o) → H l' = none → Q .non H'
def spRInit (C : Addr) : Sp := fun vs H Q _ => ∃ r dx,vs = [.ref r] ∧ H r = some (.ins C dx []) ∧
 ∀ H' l',RingAt C H' r l' rs0 → (∀ b o,H b = some o → b ≠ r → H' b = some o) → H l' = none → Q .non H'
def spChg (C : Addr) (as : RS → List V → Prop) (f : RS → List V → RS) (v : RS → List V → V) : Sp := fun vs H Q _ => ∃ r l s rest,vs = .ref r :: rest ∧ RingAt C H r l s ∧ as s rest ∧
 ∀ H' l',RingAt C H' r l' (f s rest) → Keep H H' r l l' → Q (v s rest) H'
theorem len8 {s : RS} (h : s.regs.length = 8) {i : Int} (h0 : 0 ≤ i) (h1 : i ≤ 7) : atI (vNs s.regs) i = some (vN (s.regs.getD i.toNat 0)) := by
 have e : i = ((i.toNat : Nat) : Int) := by omega
 have hi : i.toNat < s.regs.length := by omega
 refine at_of e ?_
 rw [List.getElem?_map,List.getElem?_eq_getElem hi,List.getD_eq_getElem?_getD,List.getElem?_eq_getElem hi]
 rfl
def spIsEmpty (C : Addr) : Sp := fun vs H Q _ => ∃ r l s i,vs = [.ref r,.int i] ∧ RingAt C H r l s ∧ 0 ≤ i ∧ i ≤ 7 ∧ Q (.bl (decide (s.regs.getD i.toNat 0 = EMn))) H
def spIsFull (C : Addr) : Sp := fun vs H Q _ => ∃ r l s,vs = [.ref r] ∧ RingAt C H r l s ∧ Q (.bl (!decide (s.regs.getD 7 0 = EMn))) H
def spSetFlags (C : Addr) : Sp := fun vs H Q _ => ∃ r l s f,vs = [.ref r,vN f] ∧ RingAt C H r l s ∧ ∀ H',RingAt C H' r l { s with flags := s.flags ||| f } → Keep H H' r l l → Q .non H'
def spPush (C : Addr) : Sp := fun vs H Q _ => ∃ r l s x,vs = [.ref r,vN x] ∧ RingAt C H r l s ∧ ∀ H' l',RingAt C H' r l' { s with regs := x :: s.regs.take 7 } → Keep H H' r l l' → Q .non H'
def spTake (C : Addr) : Sp := fun vs H Q _ => ∃ r l s,vs = [.ref r] ∧ RingAt C H r l s ∧ ∀ H' l',RingAt C H' r l' { s with regs := s.regs.drop 1 ++ [EMn] } → Keep H H' r l l' → Q (vN (s.regs.getD 0 0)) H'
def spSwap (C : Addr) : Sp := fun vs H Q _ => ∃ r l s i,vs = [.ref r,.int i] ∧ RingAt C H r l s ∧ 0 ≤ i ∧ i ≤ 7 ∧
 ∀ H',RingAt C H' r l { s with regs := (s.regs.set 0 (s.regs.getD i.toNat 0)).set i.toNat (s.regs.getD 0 0) } → Keep H H' r l l → Q .non H'
section
variable {P : Program} {w : World} {K : PySem.W.Frag} {mg : Str → Option Value} {base : Heap} {C : Addr}
theorem ok_begin (F : SrcM K C "begin" "Ring.begin" s_Ring_begin ["self"]) (T : CG K C) (c_NEAREST : Con1 mg "NEAREST" (.int 0)) (c_LONGEST : Con1 mg "LONGEST" (.int 2)) (c_EMPTY : Con1 mg "EMPTY" (.int EMn)) (c_REGISTERS : Con1 mg "REGISTERS" (.int 8)) :
  Mtd P w K mg base C "begin" 1 ["self"] (spBegin C) := by
 refine F.mt sc_Ring_begin (fun vs H Q E h => ?_) (fun f cdv A outer s H vs Q E hr h => ?_)
 ·obtain ⟨r,dx,fs,rfl,_⟩ := h
  rfl
 ·obtain ⟨r,dx,fs,rfl,hr',hfs,k⟩ := h
  refine ⟨_,(pss_cons (ps_fld (pv 0) (pe_c1 c_NEAREST rfl) rfl)
    (pss_cons (ps_fld (pv 0) (pe_c1 c_LONGEST rfl) rfl)
    (pss_cons (ps_fld (pv 0) pe_int rfl)
    (pss_one (ps_fld (pv 0) (pe_op op_rep (pe_lst (pa_cons (pe_c1 c_EMPTY rfl) pa_nil)) (pe_c1 c_REGISTERS rfl)) rfl))))),?_⟩
  have hlen : fs.length ≤ 4 := by
   rcases hfs with rfl | ⟨a,b,c,d,rfl⟩
   ·decide
   ·exact Nat.le_refl _
  refine ⟨_,rfl,r,C,dx,fs,rfl,hr',T.cl,T.nW,lt1000 hlen (by decide),?_⟩
  refine ⟨_,rfl,r,C,dx,_,rfl,upd_same,T.cl,T.nL,lt1000 (putF_lt hlen) (by decide),?_⟩
  refine ⟨_,rfl,r,C,dx,_,rfl,upd_same,T.cl,T.nF,lt1000 (putF_lt (putF_lt hlen)) (by decide),?_⟩
  refine ⟨(by show 1 ≤ 16777216; decide),fun l1 n1 => ?_⟩
  refine ⟨l1,8,_,rfl,rfl,upd_same,by decide,by decide,(by show 1 * 8 ≤ 16777216; decide),fun l2 n2 => ?_⟩
  have hn1 : l1 ≠ r := fun e => by rw [e,upd_same] at n1; cases n1
  have n1' : H l1 = none := by rw [upd_ne hn1,upd_ne hn1,upd_ne hn1] at n1; exact n1
  have hn2 : l2 ≠ r := fun e => by rw [e,upd_ne (Ne.symm hn1),upd_same] at n2; cases n2
  have hn21 : l2 ≠ l1 := fun e => by rw [e,upd_same] at n2; cases n2
  have n2' : H l2 = none := by rw [upd_ne hn21,upd_ne hn2,upd_ne hn2,upd_ne hn2] at n2; exact n2
  have hr2 : r ≠ l2 := Ne.symm hn2
  have hr1 : r ≠ l1 := Ne.symm hn1
  refine ⟨_,rfl,r,C,dx,_,rfl,(by rw [upd_ne hr2,upd_ne hr1,upd_same]),T.cl,T.nR,lt1000 (putF_lt (putF_lt (putF_lt hlen))) (by decide),?_⟩
  have ef : putF "registers" (.ref l2) (putF "flags" (.int 0) (putF "length" (.int 2) (putF "way" (.int 0) fs))) = fG rs0 l2 := by
   rcases hfs with rfl | ⟨a,b,c,d,rfl⟩
   ·rfl
   ·rfl
  refine k _ l2 ⟨⟨dx,?_⟩,?_,rfl⟩ (fun b o e hb => ?_) n2'
  ·exact Eq.trans upd_same (congrArg (fun q => some (HO.ins C dx q)) ef)
  ·rw [upd_ne hn2,upd_same]
   rfl
  ·rw [upd_ne hb,upd_ne (ne_of_none e n2'),upd_ne (ne_of_none e n1'),upd_ne hb,upd_ne hb,upd_ne hb]
   exact e
theorem ok_RInit (F : SrcC K mg "Ring" C "Ring.__init__" s_Ring_init ["self"]) (T : CG K C) (m_Ring_begin : Mtd P w K mg base C "begin" 1 ["self"] (spBegin C)) : Cla P w K mg base "Ring" C 2 ["self"] (spRInit C) := by
 have cl_Ring := T.cl
 refine F.cla sc_Ring_init (fun vs H Q E h => ?_) (fun f cdv A outer s H vs Q E hr h => ?_)
 ·obtain ⟨r,dx,rfl,_⟩ := h
  rfl
 ·obtain ⟨r,dx,rfl,hr',k⟩ := h
  refine ⟨_,(pss_one (ps_expr (pe_mt0 (pv 0) cl_Ring m_Ring_begin (hr.mono (by decide))))),?_⟩
  refine ⟨_,rfl,r,dx,_,rfl,hr',rfl,r,dx,[],rfl,hr',.inl rfl,fun H' l' R kp nl => ?_⟩
  exact k H' l' R kp nl
theorem bor (a b : Nat) : Builtin.bitOr (a : Int) (b : Int) = ((a ||| b : Nat) : Int) := by
 have h1 : ∀ n : Nat,Builtin.bitNot (Builtin.bitNot (n : Int)) = (n : Int) := fun n => by unfold Builtin.bitNot; omega
 have h2 : ∀ n : Nat,decide (0 ≤ Builtin.bitNot (n : Int)) = false := fun n => decide_eq_false (by unfold Builtin.bitNot; omega)
 unfold Builtin.bitOr Builtin.bitAnd
 simp only [h2,h1,Int.toNat_natCast]
theorem Keep.upd1 {H : Hp} {C r l dx : Addr} {s : RS} {o : HO} (R : RingAt C H r l s) : Keep H (upd H r o) r l l := ⟨fun b o' e hb _ => by rw [upd_ne hb]; exact e,.inl rfl,by rw [upd_same]; exact sne,dom1⟩
theorem RingAt.nrl {H : Hp} {C r l : Addr} {s : RS} (R : RingAt C H r l s) : r ≠ l := by
 obtain ⟨dx,e⟩ := R.ob
 exact ne_of e R.ls (fun z => nomatch z)
theorem ok_setflags (F : SrcM K C "set_flags" "Ring.set_flags" s_Ring_set_flags ["self","flags"]) (T : CG K C) : Mtd P w K mg base C "set_flags" 1 ["self","flags"] (spSetFlags C) := by
 refine F.mt sc_Ring_set_flags (fun vs H Q E h => ?_) (fun f cdv A outer s H vs Q E hr h => ?_)
 ·obtain ⟨r,l,st,g,rfl,_⟩ := h
  rfl
 ·obtain ⟨r,l,st,g,rfl,R,k⟩ := h
  obtain ⟨dx,hr'⟩ := R.ob
  refine ⟨_,(pss_one (ps_fld (pv 0) (pe_op op_or (pe_fld (pv 0) rfl) (pv 1)) rfl)),?_⟩
  refine ⟨_,rfl,r,C,dx,_,_,rfl,hr',T.cl,T.nF,fG_f _ _ _ _,_,rfl,_,_,rfl,rfl,_,rfl,r,C,dx,_,rfl,hr',T.cl,T.nF,few4,?_⟩
  dsimp only
  rw [bor]
  exact k _ ⟨⟨dx,upd_same⟩,by rw [upd_ne (Ne.symm R.nrl)]; exact R.ls,R.n8⟩ (Keep.upd1 (dx := dx) R)
theorem ok_isempty (F : SrcM K C "is_empty" "Ring.is_empty" s_Ring_is_empty ["self","i"]) (T : CG K C) (c_EMPTY : Con1 mg "EMPTY" (.int EMn)) : Mtd P w K mg base C "is_empty" 1 ["self","i"] (spIsEmpty C) := by
 refine F.mt sc_Ring_is_empty (fun vs H Q E h => ?_) (fun f cdv A outer s H vs Q E hr h => ?_)
 ·obtain ⟨r,l,st,g,rfl,_⟩ := h
  rfl
 ·obtain ⟨r,l,st,i,rfl,R,h0,h1,k⟩ := h
  obtain ⟨dx,hr'⟩ := R.ob
  refine ⟨_,(pss_one (ps_ret (pe_cmpR op_eq (pe_ix ix_list (pe_fld (pv 0) rfl) (pv 1) (fun _ _ => rfl)) (pe_c1 c_EMPTY rfl) (nomark _)))),?_⟩
  refine ⟨_,rfl,r,C,dx,_,_,rfl,hr',T.cl,T.nR,fG_r _ _ _ _,_,rfl,l,_,i,_,rfl,rfl,SqL.of R.ls,len8 R.n8 h0 h1,rfl,?_⟩
  refine qb k ?_
  show decide (V.int ((st.regs.getD i.toNat 0 : Nat) : Int) = V.int (EMn : Int)) = _
  rw [dV_eq]
  exact decide_eq_decide.mpr Int.ofNat_inj
theorem ok_isfull (F : SrcM K C "is_full" "Ring.is_full" s_Ring_is_full ["self"]) (T : CG K C) (c_EMPTY : Con1 mg "EMPTY" (.int EMn)) (c_REGISTERS : Con1 mg "REGISTERS" (.int 8)) : Mtd P w K mg base C "is_full" 1 ["self"] (spIsFull C) := by
 refine F.mt sc_Ring_is_full (fun vs H Q E h => ?_) (fun f cdv A outer s H vs Q E hr h => ?_)
 ·obtain ⟨r,l,st,rfl,_⟩ := h
  rfl
 ·obtain ⟨r,l,st,rfl,R,k⟩ := h
  obtain ⟨dx,hr'⟩ := R.ob
  refine ⟨_,(pss_one (ps_ret (pe_cmpR op_ne (pe_ix ix_list (pe_fld (pv 0) rfl) (pe_op op_sub (pe_c1 c_REGISTERS rfl) pe_int) (fun _ _ => rfl)) (pe_c1 c_EMPTY rfl) (nomark _)))),?_⟩
  refine ⟨_,rfl,r,C,dx,_,_,rfl,hr',T.cl,T.nR,fG_r _ _ _ _,_,_,rfl,rfl,l,_,7,_,rfl,rfl,SqL.of R.ls,len8 R.n8 (by decide) (by decide),rfl,?_⟩
  refine qb k ?_
  show (!decide (V.int ((st.regs.getD 7 0 : Nat) : Int) = V.int (EMn : Int))) = _
  rw [dV_eq]
  exact congrArg (fun b => !b) (decide_eq_decide.mpr Int.ofNat_inj)
theorem ok_push (F : SrcM K C "push" "Ring.push" s_Ring_push ["self","number"]) (T : CG K C) (c_REGISTERS : Con1 mg "REGISTERS" (.int 8)) : Mtd P w K mg base C "push" 1 ["self","number"] (spPush C) := by
 refine F.mt sc_Ring_push (fun vs H Q E h => ?_) (fun f cdv A outer s H vs Q E hr h => ?_)
 ·obtain ⟨r,l,st,g,rfl,_⟩ := h
  rfl
 ·obtain ⟨r,l,st,x,rfl,R,k⟩ := h
  obtain ⟨dx,hr'⟩ := R.ob
  refine ⟨_,(pss_one (ps_fld (pv 0) (pe_op op_cat (pe_lst (pa_cons (pv 1) pa_nil)) (pe_slice sl_list (pe_fld (pv 0) rfl) po_none (po_some (pe_op op_sub (pe_c1 c_REGISTERS rfl) pe_int)))) rfl)),?_⟩
  refine ⟨_,rfl,(by show 1 ≤ 16777216; decide),fun l1 n1 => ?_⟩
  have hrl1 : r ≠ l1 := ne_of_none hr' n1
  have hll1 : l ≠ l1 := ne_of_none R.ls n1
  refine ⟨_,rfl,r,C,dx,_,_,rfl,(by rw [upd_ne hrl1]; exact hr'),T.cl,T.nR,fG_r _ _ _ _,_,_,rfl,rfl,7,rfl,l,_,rfl,SqL.of (by rw [upd_ne hll1]; exact R.ls),fun l2 n2 => ?_⟩
  have hn21 : l2 ≠ l1 := fun e => by rw [e,upd_same] at n2; cases n2
  have n2' : H l2 = none := by rw [upd_ne hn21] at n2; exact n2
  have hcut : cutV (vNs st.regs) none (some 7) = vNs (st.regs.take 7) := by
   unfold cutV vNs
   rw [List.length_map,R.n8,← List.map_drop,← List.map_take]
   rfl
  rw [hcut]
  have hl7 : (vNs (st.regs.take 7)).length = 7 := by rw [List.length_map,List.length_take,R.n8]; rfl
  refine ⟨l1,l2,_,_,rfl,rfl,(by rw [upd_ne (Ne.symm hn21),upd_same]),upd_same,(by rw [hl7]; show 1 + 7 ≤ 16777216; decide),fun l3 n3 => ?_⟩
  have hn32 : l3 ≠ l2 := fun e => by rw [e,upd_same] at n3; cases n3
  have hn31 : l3 ≠ l1 := fun e => by rw [e,upd_ne (Ne.symm hn21),upd_same] at n3; cases n3
  have n3' : H l3 = none := by rw [upd_ne hn32,upd_ne hn31] at n3; exact n3
  have hr2 : r ≠ l2 := ne_of_none hr' n2'
  have hr3 : r ≠ l3 := ne_of_none hr' n3'
  refine ⟨_,rfl,r,C,dx,_,rfl,(by rw [upd_ne hr3,upd_ne hr2,upd_ne hrl1]; exact hr'),T.cl,T.nR,few4,?_⟩
  refine k _ l3 ⟨⟨dx,upd_same⟩,by rw [upd_ne (Ne.symm hr3),upd_same]; rfl,?_⟩ ⟨fun b o e hb _ => ?_,.inr n3',by rw [upd_same]; exact sne,fun b hb => dom1 b (dom1 b (dom1 b (dom1 b hb)))⟩
  ·show (st.regs.take 7).length + 1 = 8
   rw [List.length_take,R.n8]
   rfl
  ·rw [upd_ne hb,upd_ne (ne_of_none e n3'),upd_ne (ne_of_none e n2'),upd_ne (ne_of_none e n1)]
   exact e
theorem ok_take (F : SrcM K C "take_top" "Ring.take_top" s_Ring_take_top ["self"]) (T : CG K C) (c_EMPTY : Con1 mg "EMPTY" (.int EMn)) : Mtd P w K mg base C "take_top" 1 ["self"] (spTake C) := by
 refine F.mt sc_Ring_take_top (fun vs H Q E h => ?_) (fun f cdv A outer s H vs Q E hr h => ?_)
 ·obtain ⟨r,l,st,rfl,_⟩ := h
  rfl
 ·obtain ⟨r,l,st,rfl,R,k⟩ := h
  obtain ⟨dx,hr'⟩ := R.ob
  refine ⟨_,(pss_cons (ps_set (i := 1) sc_Ring_take_top.nd rfl (Or.inl rfl) (pe_ix ix_list (pe_fld (pv 0) rfl) pe_int (fun _ _ => rfl)))
    (pss_cons (ps_fld (pv 0) (pe_op op_cat (pe_slice sl_list (pe_fld (pv 0) rfl) (po_some pe_int) po_none) (pe_lst (pa_cons (pe_c1 c_EMPTY rfl) pa_nil))) rfl)
    (pss_one (ps_ret (pv 1))))),?_⟩
  refine ⟨_,rfl,r,C,dx,_,_,rfl,hr',T.cl,T.nR,fG_r _ _ _ _,l,_,0,_,rfl,rfl,SqL.of R.ls,len8 R.n8 (by decide) (by decide),?_⟩
  refine ⟨_,rfl,r,C,dx,_,_,rfl,hr',T.cl,T.nR,fG_r _ _ _ _,1,rfl,l,_,rfl,SqL.of R.ls,fun l1 n1 => ?_⟩
  have hcut : cutV (vNs st.regs) (some 1) none = vNs (st.regs.drop 1) := by
   unfold cutV vNs
   rw [List.length_map,R.n8,← List.map_drop,← List.map_take]
   have : (st.regs.drop 1).take (HT.sIx 8 8 none - HT.sIx 8 0 (some 1)) = st.regs.drop 1 := List.take_of_length_le (by rw [List.length_drop,R.n8]; decide)
   exact congrArg (List.map vN) this
  rw [hcut]
  have hrl1 : r ≠ l1 := ne_of_none hr' n1
  refine ⟨(by show 1 ≤ 16777216; decide),fun l2 n2 => ?_⟩
  have hn21 : l2 ≠ l1 := fun e => by rw [e,upd_same] at n2; cases n2
  have n2' : H l2 = none := by rw [upd_ne hn21] at n2; exact n2
  have hl7 : (vNs (st.regs.drop 1)).length = 7 := by rw [List.length_map,List.length_drop,R.n8]
  refine ⟨l1,l2,_,_,rfl,rfl,(by rw [upd_ne (Ne.symm hn21),upd_same]),upd_same,(by rw [hl7]; show 7 + 1 ≤ 16777216; decide),fun l3 n3 => ?_⟩
  have hn32 : l3 ≠ l2 := fun e => by rw [e,upd_same] at n3; cases n3
  have hn31 : l3 ≠ l1 := fun e => by rw [e,upd_ne (Ne.symm hn21),upd_same] at n3; cases n3
  have n3' : H l3 = none := by rw [upd_ne hn32,upd_ne hn31] at n3; exact n3
  have hr2 : r ≠ l2 := ne_of_none hr' n2'
  have hr3 : r ≠ l3 := ne_of_none hr' n3'
  refine ⟨_,rfl,r,C,dx,_,rfl,(by rw [upd_ne hr3,upd_ne hr2,upd_ne hrl1]; exact hr'),T.cl,T.nR,few4,_,rfl,?_⟩
  refine k _ l3 ⟨⟨dx,upd_same⟩,?_,?_⟩ ⟨fun b o e hb _ => ?_,.inr n3',by rw [upd_same]; exact sne,fun b hb => dom1 b (dom1 b (dom1 b (dom1 b hb)))⟩
  ·rw [upd_ne (Ne.symm hr3),upd_same]
   show some (HO.lst (vNs (st.regs.drop 1) ++ [vN EMn])) = some (HO.lst (vNs (st.regs.drop 1 ++ [EMn])))
   unfold vNs
   rw [List.map_append]
   rfl
  ·show (st.regs.drop 1 ++ [EMn]).length = 8
   rw [List.length_append,List.length_drop,R.n8]
   rfl
  ·rw [upd_ne hb,upd_ne (ne_of_none e n3'),upd_ne (ne_of_none e n2'),upd_ne (ne_of_none e n1)]
   exact e
theorem ixN_of {n : Nat} {i : Int} (h0 : 0 ≤ i) (h1 : i < n) : ixN n i = some i.toNat := by
 unfold ixN
 rw [if_pos h0]
 rw [if_pos (by omega)]
theorem ok_swap (F : SrcM K C "swap" "Ring.swap" s_Ring_swap ["self","i"]) (T : CG K C) : Mtd P w K mg base C "swap" 1 ["self","i"] (spSwap C) := by
 refine F.mt sc_Ring_swap (fun vs H Q E h => ?_) (fun f cdv A outer s H vs Q E hr h => ?_)
 ·obtain ⟨r,l,st,i,rfl,_⟩ := h
  rfl
 ·obtain ⟨r,l,st,i,rfl,R,h0,h1,k⟩ := h
  obtain ⟨dx,hr'⟩ := R.ob
  refine ⟨_,(pss_cons (ps_set (i := 2) sc_Ring_swap.nd rfl (Or.inl rfl) (pe_ix ix_list (pe_fld (pv 0) rfl) pe_int (fun _ _ => rfl)))
    (pss_cons (ps_asg (pe_ix ix_list (pe_fld (pv 0) rfl) (pv 1) (fun _ _ => rfl)) (pg_sub (pe_fld (pv 0) rfl) pe_int set_list))
    (pss_one (ps_asg (pv 2) (pg_sub (pe_fld (pv 0) rfl) (pv 1) set_list))))),?_⟩
  have hrl := R.nrl
  have hl8 : (vNs st.regs).length = 8 := by rw [List.length_map]; exact R.n8
  refine ⟨_,rfl,r,C,dx,_,_,rfl,hr',T.cl,T.nR,fG_r _ _ _ _,l,_,0,_,rfl,rfl,SqL.of R.ls,len8 R.n8 (by decide) (by decide),?_⟩
  refine ⟨_,rfl,r,C,dx,_,_,rfl,hr',T.cl,T.nR,fG_r _ _ _ _,_,rfl,l,_,i,_,rfl,rfl,SqL.of R.ls,len8 R.n8 h0 h1,_,rfl,r,C,dx,_,_,rfl,hr',T.cl,T.nR,fG_r _ _ _ _,l,_,0,0,rfl,rfl,R.ls,(by rw [hl8]; rfl),?_⟩
  refine ⟨_,rfl,_,rfl,r,C,dx,_,_,rfl,(by rw [upd_ne hrl]; exact hr'),T.cl,T.nR,fG_r _ _ _ _,_,rfl,l,_,i,i.toNat,rfl,rfl,upd_same,(by rw [List.length_set,hl8]; exact ixN_of h0 (by omega)),?_⟩
  refine k _ ⟨⟨dx,by rw [upd_ne hrl,upd_ne hrl]; exact hr'⟩,?_,?_⟩ ⟨fun b o e hb hl => by rw [upd_ne hl,upd_ne hl]; exact e,.inl rfl,by rw [upd_ne hrl,upd_ne hrl,hr']; exact sne,fun b hb => dom1 b (dom1 b hb)⟩
  ·rw [upd_same]
   show some (HO.lst (((vNs st.regs).set 0 (vN (st.regs.getD i.toNat 0))).set i.toNat (vN (st.regs.getD 0 0)))) = some (HO.lst (vNs ((st.regs.set 0 (st.regs.getD i.toNat 0)).set i.toNat (st.regs.getD 0 0))))
   unfold vNs
   rw [List.map_set,List.map_set]
  ·show ((st.regs.set 0 (st.regs.getD i.toNat 0)).set i.toNat (st.regs.getD 0 0)).length = 8
   rw [List.length_set,List.length_set]
   exact R.n8
theorem Keep.free {H H1 : Hp} {r l l1 p : Addr} (a : Keep H H1 r l l1) (n : H1 p = none) : H p = none := by
 cases e : H p with
 | none => rfl
 | some o => exact absurd n (a.dom p (by rw [e]; exact sne))
theorem same_new {H : Hp} {p : Addr} {o : HO} (n : H p = none) : Same H (upd H p o) := fun b u e => by rw [upd_ne (ne_of_none e n)]; exact e
end
abbrev s_is_within : Stmt := top 64
theorem sc_is_within : FnScope ["n","low","high"] ["n","low","high"] (defScope s_is_within) := ⟨rfl,rfl,rfl,by decide +kernel,rfl,by decide +kernel,by decide +kernel⟩
abbrev s_is_place : Stmt := top 65
theorem sc_is_place : FnScope ["i"] ["i"] (defScope s_is_place) := ⟨rfl,rfl,rfl,by decide +kernel,rfl,by decide +kernel,by decide +kernel⟩
abbrev s_call_begin : Stmt := top 82
theorem sc_call_begin : FnScope ["ring","given"] ["ring","given"] (defScope s_call_begin) := ⟨rfl,rfl,rfl,by decide +kernel,rfl,by decide +kernel,by decide +kernel⟩
abbrev s_call_control : Stmt := top 83
theorem sc_call_control : FnScope ["ring","given","way","length"] ["ring","given"] (defScope s_call_control) := ⟨rfl,rfl,rfl,by decide +kernel,rfl,by decide +kernel,by decide +kernel⟩
abbrev s_call_flags : Stmt := top 84
theorem sc_call_flags : FnScope ["ring","given","clear","flags"] ["ring","given"] (defScope s_call_flags) := ⟨rfl,rfl,rfl,by decide +kernel,rfl,by decide +kernel,by decide +kernel⟩
abbrev s_call_told : Stmt := top 85
theorem sc_call_told : FnScope ["ring","given","answer","number"] ["ring","given"] (defScope s_call_told) := ⟨rfl,rfl,rfl,by decide +kernel,rfl,by decide +kernel,by decide +kernel⟩
abbrev s_pushed : Stmt := top 86
theorem sc_pushed : FnScope ["ring","number"] ["ring","number"] (defScope s_pushed) := ⟨rfl,rfl,rfl,by decide +kernel,rfl,by decide +kernel,by decide +kernel⟩
abbrev s_is_ten_bytes : Stmt := top 87
theorem sc_is_ten_bytes : FnScope ["row","byte"] ["row"] (defScope s_is_ten_bytes) := ⟨rfl,rfl,rfl,by decide +kernel,rfl,by decide +kernel,by decide +kernel⟩
abbrev s_call_load : Stmt := top 88
theorem sc_call_load : FnScope ["ring","given","row","number"] ["ring","given"] (defScope s_call_load) := ⟨rfl,rfl,rfl,by decide +kernel,rfl,by decide +kernel,by decide +kernel⟩
abbrev s_call_whole : Stmt := top 89
theorem sc_call_whole : FnScope ["ring","given","n"] ["ring","given"] (defScope s_call_whole) := ⟨rfl,rfl,rfl,by decide +kernel,rfl,by decide +kernel,by decide +kernel⟩
abbrev s_call_double : Stmt := top 90
theorem sc_call_double : FnScope ["ring","given","bits","answer"] ["ring","given"] (defScope s_call_double) := ⟨rfl,rfl,rfl,by decide +kernel,rfl,by decide +kernel,by decide +kernel⟩
abbrev s_call_copy : Stmt := top 91
theorem sc_call_copy : FnScope ["ring","given","i"] ["ring","given"] (defScope s_call_copy) := ⟨rfl,rfl,rfl,by decide +kernel,rfl,by decide +kernel,by decide +kernel⟩
abbrev s_call_store : Stmt := top 92
theorem sc_call_store : FnScope ["ring","given"] ["ring","given"] (defScope s_call_store) := ⟨rfl,rfl,rfl,by decide +kernel,rfl,by decide +kernel,by decide +kernel⟩
abbrev s_nothing_whole : Stmt := top 93
theorem sc_nothing_whole : FnScope ["ring"] ["ring"] (defScope s_nothing_whole) := ⟨rfl,rfl,rfl,by decide +kernel,rfl,by decide +kernel,by decide +kernel⟩
abbrev s_whole_from : Stmt := top 94
theorem sc_whole_from : FnScope ["ring","number","way","value","near","n"] ["ring","number","way"] (defScope s_whole_from) := ⟨rfl,rfl,rfl,by decide +kernel,rfl,by decide +kernel,by decide +kernel⟩
abbrev s_call_int : Stmt := top 95
theorem sc_call_int : FnScope ["ring","given","way"] ["ring","given"] (defScope s_call_int) := ⟨rfl,rfl,rfl,by decide +kernel,rfl,by decide +kernel,by decide +kernel⟩
abbrev s_double_from : Stmt := top 96
theorem sc_double_from : FnScope ["ring","number","result"] ["ring","number"] (defScope s_double_from) := ⟨rfl,rfl,rfl,by decide +kernel,rfl,by decide +kernel,by decide +kernel⟩
abbrev s_call_bits : Stmt := top 97
theorem sc_call_bits : FnScope ["ring","given"] ["ring","given"] (defScope s_call_bits) := ⟨rfl,rfl,rfl,by decide +kernel,rfl,by decide +kernel,by decide +kernel⟩
abbrev s_call_swap : Stmt := top 98
theorem sc_call_swap : FnScope ["ring","given","i"] ["ring","given"] (defScope s_call_swap) := ⟨rfl,rfl,rfl,by decide +kernel,rfl,by decide +kernel,by decide +kernel⟩
abbrev s_call_turn : Stmt := top 99
theorem sc_call_turn : FnScope ["ring","given","steps"] ["ring","given"] (defScope s_call_turn) := ⟨rfl,rfl,rfl,by decide +kernel,rfl,by decide +kernel,by decide +kernel⟩
abbrev s_call_free : Stmt := top 100
theorem sc_call_free : FnScope ["ring","given","i"] ["ring","given"] (defScope s_call_free) := ⟨rfl,rfl,rfl,by decide +kernel,rfl,by decide +kernel,by decide +kernel⟩
def optE (x : Nat) : Option Nat := if x = EMn then none else some x
def absE (s : RS) : Rd20.Abs := { way := s.way,length := s.len,flags := s.flags,regs := s.regs.map optE }
def Num80 (x : Nat) : Prop := x < 2 ^ 80 ∧ Rd20.right x = true ∧ Rd20.plain x = x
structure Valid (s : RS) : Prop where
 n8 : s.regs.length = 8
 way : s.way ≤ 3
 len : s.len ≤ 2
 reg : ∀ x ∈ s.regs,x = EMn ∨ (x ≠ EMn ∧ Num80 x)
def ansV (a : Rd20.Ans) : List V := .int a.value :: a.out.map fun b => V.int (b : Nat)
def Done (C : Addr) (H : Hp) (r l : Addr) (res : Rd20.Abs × Rd20.Ans) (Q : VK) : Prop := ∀ H' l' p s',RingAt C H' r l' s' → Valid s' → absE s' = res.1 → Keep H H' r l l' → H p = none → p ≠ l' → H' p = some (.lst (ansV res.2)) → Q (.ref p) H'
def spCall (C : Addr) (c : List Int → Rd20.Call → Prop) : Sp := fun vs H Q _ => ∃ r g l s zs q,vs = [.ref r,.ref g] ∧ RingAt C H r l s ∧ Valid s ∧ H g = some (.lst (zs.map V.int)) ∧ g ≠ l ∧ c zs q ∧ Done C H r l (Rd20.does (absE s) q) Q
def spWithin : Sp := fun vs H Q _ => ∃ n a b : Int,vs = [.int n,.int a,.int b] ∧ Q (.bl (Rd20.within n a b)) H
def spPlace : Sp := fun vs H Q _ => ∃ n : Int,vs = [.int n] ∧ Q (.bl (Rd20.within n 0 7)) H
theorem Done.fin {C : Addr} {H H1 : Hp} {r l l1 : Addr} {s1 : RS} {res : Rd20.Abs × Rd20.Ans} {Q : VK} {vs : List V} (k : Done C H r l res Q) (R1 : RingAt C H1 r l1 s1) (V1 : Valid s1) (K1 : Keep H H1 r l l1) (e1 : absE s1 = res.1) (e2 : vs = ansV res.2) :
  ∀ p,H1 p = none → Q (.ref p) (upd H1 p (.lst vs)) := fun p n => by
 refine k _ l1 p s1 (R1.same (same_new n)) V1 e1 (K1.trans (Keep.of_same R1 (same_new n))) (K1.free n) (Ne.symm (ne_of_none R1.ls n)) ?_
 rw [e2]
 exact upd_same
theorem Done.part {C : Addr} {H H1 : Hp} {r l l1 : Addr} {res : Rd20.Abs × Rd20.Ans} {Q : VK} (k : Done C H r l res Q) (K1 : Keep H H1 r l l1) : Done C H1 r l1 res Q := fun H' l' p s' R V e K2 n1 n2 hp => k H' l' p s' R V e (K1.trans K2) (K1.free n1) n2 hp
theorem Keep.refl {C : Addr} {H : Hp} {r l : Addr} {s : RS} (R : RingAt C H r l s) : Keep H H r l l := Keep.of_same R fun _ _ e => e
theorem does_control (s : Rd20.Abs) (a b : Int) : Rd20.does s (.control a b) = if (Rd20.within a 0 3 && Rd20.within b 0 2) = false then (s,Rd20.just (-2)) else ({ s with way := a.toNat,length := b.toNat },Rd20.just 0) := rfl
theorem does_flags (s : Rd20.Abs) (c : Int) : Rd20.does s (.flags c) = if Rd20.within c 0 1 = false then (s,Rd20.just (-2)) else (if c = 1 then { s with flags := 0 } else s,Rd20.just (s.flags : Nat)) := rfl
theorem does_whole (s : Rd20.Abs) (n : Int) : Rd20.does s (.whole n) = Rd20.pushed s (Rd20.exact (Rd20.ofInt n)) := rfl
theorem does_load (s : Rd20.Abs) (b : List Nat) : Rd20.does s (.load b) = if Rd20.right (Rd20.numberOf b) = false then (s,Rd20.just (-3)) else Rd20.pushed s (Rd20.plain (Rd20.numberOf b)) := rfl
theorem does_double (s : Rd20.Abs) (b : Nat) : Rd20.does s (.double b) = if Rd20.full s = true then (s,Rd20.just (-5)) else (Rd20.flag (Rd20.push s (Rd20.exact (Rd20.doubleWorth b))) (if b / 2 ^ 52 % 2048 = 0 ∧ b % 2 ^ 52 ≠ 0 then 2 else 0),Rd20.just 0) := rfl
theorem does_copy (s : Rd20.Abs) (i : Int) : Rd20.does s (.copy i) = if Rd20.within i 0 7 = false then (s,Rd20.just (-2)) else match Rd20.reg s i with
  | none => (s,Rd20.just (-4))
  | some x => Rd20.pushed s x := rfl
theorem does_store (s : Rd20.Abs) : Rd20.does s .store = Rd20.of1 s fun x => (Rd20.pop s,{ value := 0,out := Rd20.bytes 10 x }) := rfl
theorem does_swap (s : Rd20.Abs) (i : Int) : Rd20.does s (.swap i) = if Rd20.within i 0 7 = false then (s,Rd20.just (-2)) else Rd20.of2 s i fun x y => (Rd20.set_ (Rd20.set_ s 0 y) i x,Rd20.just 0) := rfl
theorem within_iff {n a b : Int} : Rd20.within n a b = true ↔ a ≤ n ∧ n ≤ b := by
 unfold Rd20.within
 rw [Bool.and_eq_true,decide_eq_true_iff,decide_eq_true_iff]
theorem regD (s : RS) (i : Nat) (h : i < s.regs.length) : (s.regs.map optE).getD i none = optE (s.regs.getD i 0) := by
 rw [List.getD_eq_getElem?_getD,List.getD_eq_getElem?_getD,List.getElem?_map,List.getElem?_eq_getElem h]
 rfl
theorem reg_abs {s : RS} (h : s.regs.length = 8) {i : Int} (h0 : 0 ≤ i) (h1 : i ≤ 7) : Rd20.reg (absE s) i = optE (s.regs.getD i.toNat 0) := regD s i.toNat (by omega)
theorem optE_none {x : Nat} (h : x = EMn) : optE x = none := if_pos h
theorem optE_some {x : Nat} (h : x ≠ EMn) : optE x = some x := if_neg h
theorem Valid.at_ {s : RS} (v : Valid s) {i : Nat} (h : i < 8) (hn : s.regs.getD i 0 ≠ EMn) : Num80 (s.regs.getD i 0) := by
 have hi : i < s.regs.length := by rw [v.n8]; exact h
 have e : s.regs.getD i 0 = s.regs[i] := by rw [List.getD_eq_getElem?_getD,List.getElem?_eq_getElem hi]; rfl
 rw [e] at hn ⊢
 rcases v.reg _ (List.getElem_mem hi) with h | h
 ·exact absurd h hn
 ·exact h.2
theorem Valid.push {s : RS} (v : Valid s) {x : Nat} (hx : Num80 x) (hn : x ≠ EMn) : Valid { s with regs := x :: s.regs.take 7 } := ⟨by show (s.regs.take 7).length + 1 = 8; rw [List.length_take,v.n8]; rfl,v.way,v.len,fun y hy => by
 rcases List.mem_cons.mp hy with e | hy
 ·exact .inr ⟨by rw [e]; exact hn,by rw [e]; exact hx⟩
 ·exact v.reg y (List.mem_of_mem_take hy)⟩
theorem Valid.pop {s : RS} (v : Valid s) : Valid { s with regs := s.regs.drop 1 ++ [EMn] } := ⟨by show (s.regs.drop 1 ++ [EMn]).length = 8; rw [List.length_append,List.length_drop,v.n8]; rfl,v.way,v.len,fun y hy => by
 rcases List.mem_append.mp hy with hy | hy
 ·exact v.reg y (List.mem_of_mem_drop hy)
 ·exact .inl (List.mem_singleton.mp hy)⟩
theorem Valid.flags {s : RS} (v : Valid s) (f : Nat) : Valid { s with flags := f } := ⟨v.n8,v.way,v.len,v.reg⟩
theorem abs_push {s : RS} {x : Nat} (hn : x ≠ EMn) : absE { s with regs := x :: s.regs.take 7 } = Rd20.push (absE s) x := by
 unfold absE Rd20.push
 simp only [List.map_cons,optE_some hn,List.map_take]
theorem abs_pop {s : RS} : absE { s with regs := s.regs.drop 1 ++ [EMn] } = Rd20.pop (absE s) := by
 unfold absE Rd20.pop
 simp only [List.map_append,List.map_drop,List.map_cons,List.map_nil,optE_none rfl]
theorem abs_flag {s : RS} (f : Nat) : absE { s with flags := s.flags ||| f } = Rd20.flag (absE s) f := rfl
def spPushed (C : Addr) : Sp := fun vs H Q _ => ∃ r l s x,vs = [.ref r,vN x] ∧ RingAt C H r l s ∧ Valid s ∧ Num80 x ∧ x ≠ EMn ∧ Done C H r l (Rd20.pushed (absE s) x) Q
section
variable {P : Program} {w : World} {K : PySem.W.Frag} {mg : Str → Option Value} {base : Heap} {C : Addr}
theorem ok_within (F : Src K mg "is_within" s_is_within ["n","low","high"]) : Fn P w K mg base "is_within" 1 ["n","low","high"] spWithin := by
 refine F.fn sc_is_within (fun vs H Q E h => ?_) (fun f cdv A outer s H vs Q E hr h => ?_)
 ·obtain ⟨n,a,b,rfl,_⟩ := h
  rfl
 ·obtain ⟨n,a,b,rfl,k⟩ := h
  refine ⟨_,(pss_one (ps_ret (pe_and (pe_cmpR op_le (pv 1) (pv 0) (nomark _)) (pe_one (pe_cmpR op_le (pv 0) (pv 2) (nomark _)))))),?_⟩
  unfold Rd20.within at k
  refine ⟨_,rfl,_,rfl,_,_,rfl,rfl,_,rfl,?_⟩
  refine br2 (fun h => ?_) (fun h => ?_)
  ·rw [show decide (a ≤ n) = true from h,Bool.true_and] at k
   exact ⟨_,rfl,_,rfl,_,_,rfl,rfl,k⟩
  ·rw [show decide (a ≤ n) = false from h,Bool.false_and] at k
   exact k
theorem ok_place (F : Src K mg "is_place" s_is_place ["i"]) (f_is_within : Fn P w K mg base "is_within" 1 ["n","low","high"] spWithin) (c_REGISTERS : Con1 mg "REGISTERS" (.int 8)) : Fn P w K mg base "is_place" 2 ["i"] spPlace := by
 refine F.fn sc_is_place (fun vs H Q E h => ?_) (fun f cdv A outer s H vs Q E hr h => ?_)
 ·obtain ⟨n,rfl,_⟩ := h
  rfl
 ·obtain ⟨n,rfl,k⟩ := h
  refine ⟨_,(pss_one (ps_ret (pf f_is_within hr (pa_cons (pv 0) (pa_cons pe_int (pa_cons (pe_op op_sub (pe_c1 c_REGISTERS rfl) pe_int) pa_nil)))))),?_⟩
  exact ⟨_,rfl,_,_,rfl,rfl,n,0,7,rfl,k⟩
def cBegin (_ : List Int) (q : Rd20.Call) : Prop := q = .begin_
def cControl (zs : List Int) (q : Rd20.Call) : Prop := ∃ a b,zs = [a,b] ∧ q = .control a b
def c1 (f : Int → Rd20.Call) (zs : List Int) (q : Rd20.Call) : Prop := ∃ a,zs = [a] ∧ q = f a
theorem valid0 : Valid rs0 := ⟨rfl,by decide,by decide,fun x hx => .inl (by
 have : x ∈ List.replicate 8 EMn := hx
 exact (List.mem_replicate.mp this).2)⟩
theorem abs0 : absE rs0 = {} := by decide +kernel
theorem ok_call_begin (F : Src K mg "call_begin" s_call_begin ["ring","given"]) (T : CG K C) (m_Ring_begin : Mtd P w K mg base C "begin" 1 ["self"] (spBegin C)) (c_DONE : Con1 mg "DONE" (.int 0)) : Fn P w K mg base "call_begin" 2 ["ring","given"] (spCall C cBegin) := by
 have cl_Ring := T.cl
 refine F.fn sc_call_begin (fun vs H Q E h => ?_) (fun f cdv A outer s H vs Q E hr h => ?_)
 ·obtain ⟨r,g,l,s,zs,q,rfl,_⟩ := h
  rfl
 ·obtain ⟨r,g,l,st,zs,q,rfl,R,V0,hg,hgl,hq,k⟩ := h
  obtain ⟨dx,hr'⟩ := R.ob
  subst hq
  refine ⟨_,(pss_cons (ps_expr (pe_mt0 (pv 0) cl_Ring m_Ring_begin (hr.mono (by decide))))
    (pss_one (ps_ret (pe_lst (pa_cons (pe_c1 c_DONE rfl) pa_nil))))),?_⟩
  refine ⟨_,rfl,r,dx,_,rfl,hr',rfl,r,dx,_,rfl,hr',.inr ⟨_,_,_,_,rfl⟩,fun H1 l1 R1 kp nl => ?_⟩
  refine ⟨by show 1 ≤ 16777216; decide,?_⟩
  have K1 : Keep H H1 r l l1 := ⟨fun b o e hb _ => kp b o e hb,.inr nl,by obtain ⟨d,e⟩ := R1.ob; rw [e]; exact sne,fun b hb => by
   by_cases hbr : b = r
   ·rw [hbr]; obtain ⟨d,e⟩ := R1.ob; rw [e]; exact sne
   ·cases e : H b with
    | none => exact absurd e hb
    | some o => rw [kp b o e hbr]; exact sne⟩
  exact k.fin R1 valid0 K1 abs0 rfl
theorem ok_call_control (F : Src K mg "call_control" s_call_control ["ring","given"]) (T : CG K C) (f_is_within : Fn P w K mg base "is_within" 1 ["n","low","high"] spWithin) (c_DONE : Con1 mg "DONE" (.int 0)) (c_BAD_ARGUMENT : Con1 mg "BAD_ARGUMENT" (.int (-2))) :
  Fn P w K mg base "call_control" 2 ["ring","given"] (spCall C cControl) := by
 refine F.fn sc_call_control (fun vs H Q E h => ?_) (fun f cdv A outer s H vs Q E hr h => ?_)
 ·obtain ⟨r,g,l,s,zs,q,rfl,_⟩ := h
  rfl
 ·obtain ⟨r,g,l,st,zs,q,rfl,R,V0,hg,hgl,hq,k⟩ := h
  obtain ⟨dx,hr'⟩ := R.ob
  obtain ⟨a,b,rfl,rfl⟩ := hq
  refine ⟨_,(pss_cons (ps_set (i := 2) sc_call_control.nd rfl (Or.inl rfl) (pe_ix ix_list (pv 1) pe_int (fun _ _ => rfl)))
    (pss_cons (ps_set (i := 3) sc_call_control.nd rfl (Or.inl rfl) (pe_ix ix_list (pv 1) pe_int (fun _ _ => rfl)))
    (pss_cons (ps_if (PW.pt (pw_or (pt_not (pt_val (pf f_is_within hr (pa_cons (pv 2) (pa_cons pe_int (pa_cons pe_int pa_nil)))))) (pw_or1 (pt_not (pt_val (pf f_is_within hr (pa_cons (pv 3) (pa_cons pe_int (pa_cons pe_int pa_nil))))))))) (pss_one (ps_ret (pe_lst (pa_cons (pe_c1 c_BAD_ARGUMENT rfl) pa_nil)))) pss_nil)
    (pss_cons (ps_fld (pv 0) (pv 2) rfl)
    (pss_cons (ps_fld (pv 0) (pv 3) rfl)
    (pss_one (ps_ret (pe_lst (pa_cons (pe_c1 c_DONE rfl) pa_nil))))))))),?_⟩
  refine ⟨_,rfl,g,_,0,_,rfl,rfl,SqL.of hg,atI_nat (j := 0) rfl,?_⟩
  refine ⟨_,rfl,g,_,1,_,rfl,rfl,SqL.of hg,atI_nat (j := 1) rfl,?_⟩
  refine ⟨_,rfl,a,0,3,rfl,_,rfl,?_⟩
  rw [does_control] at k
  have bad : (Rd20.within a 0 3 && Rd20.within b 0 2) = false → ∀ p,H p = none → Q (.ref p) (upd H p (.lst [.int (-2)])) := fun hb => by
   rw [if_pos hb] at k
   exact k.fin R V0 (Keep.refl R) rfl rfl
  refine br2 (fun h => ?_) (fun h => ?_)
  ·have h1 : Rd20.within a 0 3 = false := by simpa using h
   refine br_t rfl ?_
   exact ⟨by show 1 ≤ 16777216; decide,bad (by rw [h1]; rfl)⟩
  ·have h1 : Rd20.within a 0 3 = true := by simpa using h
   refine ⟨_,rfl,b,0,2,rfl,_,rfl,?_⟩
   refine br2 (fun h => ?_) (fun h => ?_)
   ·have h2 : Rd20.within b 0 2 = false := by simpa using h
    exact ⟨by show 1 ≤ 16777216; decide,bad (by rw [h1,h2]; rfl)⟩
   ·have h2 : Rd20.within b 0 2 = true := by simpa using h
    have w1 := within_iff.mp h1
    have w2 := within_iff.mp h2
    rw [if_neg (by rw [h1,h2]; exact fun z => nomatch z)] at k
    refine ⟨_,rfl,_,rfl,r,C,dx,_,rfl,hr',T.cl,T.nW,few4,?_⟩
    refine ⟨_,rfl,_,rfl,r,C,dx,_,rfl,upd_same,T.cl,T.nL,few4,?_⟩
    refine ⟨by show 1 ≤ 16777216; decide,?_⟩
    have ea : a = ((a.toNat : Nat) : Int) := by omega
    have eb : b = ((b.toNat : Nat) : Int) := by omega
    have R1 : RingAt C (upd (upd H r (.ins C dx (putF "way" (.int a) (fG st l)))) r (.ins C dx (putF "length" (.int b) (putF "way" (.int a) (fG st l))))) r l { st with way := a.toNat,len := b.toNat } :=
     ⟨⟨dx,by rw [upd_same,fG_pw,fG_pl]; show some (HO.ins C dx (fGv (.int a) (.int b) _ _)) = some (HO.ins C dx (fGv (.int (a.toNat : Nat)) (.int (b.toNat : Nat)) _ _)); rw [← ea,← eb]⟩,by rw [upd_ne (Ne.symm R.nrl),upd_ne (Ne.symm R.nrl)]; exact R.ls,R.n8⟩
    have K1 : Keep H (upd (upd H r (.ins C dx (putF "way" (.int a) (fG st l)))) r (.ins C dx (putF "length" (.int b) (putF "way" (.int a) (fG st l))))) r l l :=
     ⟨fun c o e hb _ => by rw [upd_ne hb,upd_ne hb]; exact e,.inl rfl,by rw [upd_same]; exact sne,fun c hc => dom1 c (dom1 c hc)⟩
    exact k.fin R1 ⟨V0.n8,by show a.toNat ≤ 3; omega,by show b.toNat ≤ 2; omega,V0.reg⟩ K1 rfl rfl
theorem ok_pushed (F : Src K mg "pushed" s_pushed ["ring","number"]) (T : CG K C) (m_Ring_is_full : Mtd P w K mg base C "is_full" 1 ["self"] (spIsFull C)) (m_Ring_push : Mtd P w K mg base C "push" 1 ["self","number"] (spPush C)) (c_DONE : Con1 mg "DONE" (.int 0)) (c_IS_FULL : Con1 mg "IS_FULL" (.int (-5))) :
  Fn P w K mg base "pushed" 2 ["ring","number"] (spPushed C) := by
 have cl_Ring := T.cl
 refine F.fn sc_pushed (fun vs H Q E h => ?_) (fun f cdv A outer s H vs Q E hr h => ?_)
 ·obtain ⟨r,l,s,x,rfl,_⟩ := h
  rfl
 ·obtain ⟨r,l,st,x,rfl,R,V0,hx,hn,k⟩ := h
  obtain ⟨dx,hr'⟩ := R.ob
  refine ⟨_,(pss_cons (ps_if (pt_val (pe_mt0 (pv 0) cl_Ring m_Ring_is_full (hr.mono (by decide)))) (pss_one (ps_ret (pe_lst (pa_cons (pe_c1 c_IS_FULL rfl) pa_nil)))) pss_nil)
    (pss_cons (ps_expr (pe_mt (pv 0) cl_Ring m_Ring_push (hr.mono (by decide)) (pa_cons (pv 1) pa_nil)))
    (pss_one (ps_ret (pe_lst (pa_cons (pe_c1 c_DONE rfl) pa_nil)))))),?_⟩
  unfold Rd20.pushed Rd20.full at k
  rw [show Rd20.reg (absE st) 7 = optE (st.regs.getD 7 0) from reg_abs V0.n8 (by decide) (by decide)] at k
  refine ⟨_,rfl,r,dx,_,rfl,hr',rfl,r,l,st,rfl,R,_,rfl,?_⟩
  refine br2 (fun h => ?_) (fun h => ?_)
  ·have h1 : st.regs.getD 7 0 ≠ EMn := by simpa using h
   rw [optE_some h1,Option.isSome_some,if_pos rfl] at k
   exact ⟨by show 1 ≤ 16777216; decide,k.fin R V0 (Keep.refl R) rfl rfl⟩
  ·have h1 : st.regs.getD 7 0 = EMn := by simpa using h
   rw [optE_none h1,Option.isSome_none,if_neg Bool.false_ne_true] at k
   refine ⟨_,rfl,r,dx,_,rfl,hr',rfl,_,rfl,r,l,st,x,rfl,R,fun H1 l1 R1 K1 => ?_⟩
   exact ⟨by show 1 ≤ 16777216; decide,k.fin R1 (V0.push hx hn) K1 (abs_push hn) rfl⟩
theorem ok_call_flags (F : Src K mg "call_flags" s_call_flags ["ring","given"]) (T : CG K C) (f_is_within : Fn P w K mg base "is_within" 1 ["n","low","high"] spWithin) (c_BAD_ARGUMENT : Con1 mg "BAD_ARGUMENT" (.int (-2))) :
  Fn P w K mg base "call_flags" 2 ["ring","given"] (spCall C (c1 .flags)) := by
 refine F.fn sc_call_flags (fun vs H Q E h => ?_) (fun f cdv A outer s H vs Q E hr h => ?_)
 ·obtain ⟨r,g,l,s,zs,q,rfl,_⟩ := h
  rfl
 ·obtain ⟨r,g,l,st,zs,q,rfl,R,V0,hg,hgl,hq,k⟩ := h
  obtain ⟨dx,hr'⟩ := R.ob
  obtain ⟨a,rfl,rfl⟩ := hq
  refine ⟨_,(pss_cons (ps_set (i := 2) sc_call_flags.nd rfl (Or.inl rfl) (pe_ix ix_list (pv 1) pe_int (fun _ _ => rfl)))
    (pss_cons (ps_if (pt_not (pt_val (pf f_is_within hr (pa_cons (pv 2) (pa_cons pe_int (pa_cons pe_int pa_nil)))))) (pss_one (ps_ret (pe_lst (pa_cons (pe_c1 c_BAD_ARGUMENT rfl) pa_nil)))) pss_nil)
    (pss_cons (ps_set (i := 3) sc_call_flags.nd rfl (Or.inl rfl) (pe_fld (pv 0) rfl))
    (pss_cons (ps_if (pt_cmpR op_eq (pv 2) pe_int (nomark _)) (pss_one (ps_fld (pv 0) pe_int rfl)) pss_nil)
    (pss_one (ps_ret (pe_lst (pa_cons (pv 3) pa_nil)))))))),?_⟩
  rw [does_flags] at k
  refine ⟨_,rfl,g,_,0,_,rfl,rfl,SqL.of hg,atI_nat (j := 0) rfl,?_⟩
  refine ⟨_,rfl,a,0,1,rfl,_,rfl,?_⟩
  refine br2 (fun h => ?_) (fun h => ?_)
  ·have h1 : Rd20.within a 0 1 = false := by simpa using h
   rw [if_pos h1] at k
   exact ⟨by show 1 ≤ 16777216; decide,k.fin R V0 (Keep.refl R) rfl rfl⟩
  ·have h1 : Rd20.within a 0 1 = true := by simpa using h
   rw [if_neg (by rw [h1]; exact fun z => nomatch z)] at k
   refine ⟨_,rfl,r,C,dx,_,_,rfl,hr',T.cl,T.nF,fG_f _ _ _ _,?_⟩
   refine ⟨_,rfl,rfl,_,rfl,?_⟩
   refine br2 (fun h => ?_) (fun h => ?_)
   ·have h2 : a = 1 := dV_iff.mp h
    rw [if_pos h2] at k
    refine ⟨_,rfl,r,C,dx,_,rfl,hr',T.cl,T.nF,few4,?_⟩
    refine ⟨_,rfl,by show 1 ≤ 16777216; decide,?_⟩
    have R1 : RingAt C (upd H r (.ins C dx (putF "flags" (.int 0) (fG st l)))) r l { st with flags := 0 } := ⟨⟨dx,upd_same⟩,by rw [upd_ne (Ne.symm R.nrl)]; exact R.ls,R.n8⟩
    exact k.fin R1 (V0.flags 0) (Keep.upd1 (dx := dx) R) rfl rfl
   ·have h2 : ¬ a = 1 := fun e => by rw [dV_t e] at h; cases h
    rw [if_neg h2] at k
    exact ⟨_,rfl,by show 1 ≤ 16777216; decide,k.fin R V0 (Keep.refl R) rfl rfl⟩
theorem ok_call_swap (F : Src K mg "call_swap" s_call_swap ["ring","given"]) (T : CG K C) (f_is_place : Fn P w K mg base "is_place" 2 ["i"] spPlace) (m_Ring_is_empty : Mtd P w K mg base C "is_empty" 1 ["self","i"] (spIsEmpty C)) (m_Ring_swap : Mtd P w K mg base C "swap" 1 ["self","i"] (spSwap C))
  (c_BAD_ARGUMENT : Con1 mg "BAD_ARGUMENT" (.int (-2))) (c_IS_EMPTY : Con1 mg "IS_EMPTY" (.int (-4))) (c_DONE : Con1 mg "DONE" (.int 0)) : Fn P w K mg base "call_swap" 3 ["ring","given"] (spCall C (c1 .swap)) := by
 have cl_Ring := T.cl
 refine F.fn sc_call_swap (fun vs H Q E h => ?_) (fun f cdv A outer s H vs Q E hr h => ?_)
 ·obtain ⟨r,g,l,s,zs,q,rfl,_⟩ := h
  rfl
 ·obtain ⟨r,g,l,st,zs,q,rfl,R,V0,hg,hgl,hq,k⟩ := h
  obtain ⟨dx,hr'⟩ := R.ob
  obtain ⟨a,rfl,rfl⟩ := hq
  refine ⟨_,(pss_cons (ps_set (i := 2) sc_call_swap.nd rfl (Or.inl rfl) (pe_ix ix_list (pv 1) pe_int (fun _ _ => rfl)))
    (pss_cons (ps_if (pt_not (pt_val (pf f_is_place hr (pa_cons (pv 2) pa_nil)))) (pss_one (ps_ret (pe_lst (pa_cons (pe_c1 c_BAD_ARGUMENT rfl) pa_nil)))) pss_nil)
    (pss_cons (ps_if (PW.pt (pw_or (pt_val (pe_mt (pv 0) cl_Ring m_Ring_is_empty (hr.mono (by decide)) (pa_cons pe_int pa_nil))) (pw_or1 (pt_val (pe_mt (pv 0) cl_Ring m_Ring_is_empty (hr.mono (by decide)) (pa_cons (pv 2) pa_nil)))))) (pss_one (ps_ret (pe_lst (pa_cons (pe_c1 c_IS_EMPTY rfl) pa_nil)))) pss_nil)
    (pss_cons (ps_expr (pe_mt (pv 0) cl_Ring m_Ring_swap (hr.mono (by decide)) (pa_cons (pv 2) pa_nil)))
    (pss_one (ps_ret (pe_lst (pa_cons (pe_c1 c_DONE rfl) pa_nil)))))))),?_⟩
  rw [does_swap] at k
  refine ⟨_,rfl,g,_,0,_,rfl,rfl,SqL.of hg,atI_nat (j := 0) rfl,?_⟩
  refine ⟨_,rfl,a,rfl,_,rfl,?_⟩
  refine br2 (fun h => ?_) (fun h => ?_)
  ·have h1 : Rd20.within a 0 7 = false := by simpa using h
   rw [if_pos h1] at k
   exact ⟨by show 1 ≤ 16777216; decide,k.fin R V0 (Keep.refl R) rfl rfl⟩
  ·have h1 : Rd20.within a 0 7 = true := by simpa using h
   rw [if_neg (by rw [h1]; exact fun z => nomatch z)] at k
   have w1 := within_iff.mp h1
   unfold Rd20.of2 at k
   rw [reg_abs V0.n8 w1.1 w1.2,show Rd20.reg (absE st) 0 = optE (st.regs.getD 0 0) from reg_abs V0.n8 (by decide) (by decide)] at k
   refine ⟨_,rfl,r,dx,_,rfl,hr',rfl,r,l,st,0,rfl,R,by decide,by decide,_,rfl,?_⟩
   refine br2 (fun h => ?_) (fun h => ?_)
   ·have h2 : st.regs.getD 0 0 = EMn := of_decide_eq_true h
    rw [optE_none h2] at k
    refine br_t rfl ?_
    exact ⟨by show 1 ≤ 16777216; decide,k.fin R V0 (Keep.refl R) rfl rfl⟩
   ·have h2 : st.regs.getD 0 0 ≠ EMn := of_decide_eq_false h
    rw [optE_some h2] at k
    refine ⟨_,rfl,r,dx,_,rfl,hr',rfl,_,rfl,r,l,st,a,rfl,R,w1.1,w1.2,_,rfl,?_⟩
    refine br2 (fun h => ?_) (fun h => ?_)
    ·have h3 : st.regs.getD a.toNat 0 = EMn := of_decide_eq_true h
     rw [optE_none h3] at k
     exact ⟨by show 1 ≤ 16777216; decide,k.fin R V0 (Keep.refl R) rfl rfl⟩
    ·have h3 : st.regs.getD a.toNat 0 ≠ EMn := of_decide_eq_false h
     rw [optE_some h3] at k
     refine ⟨_,rfl,r,dx,_,rfl,hr',rfl,_,rfl,r,l,st,a,rfl,R,w1.1,w1.2,fun H1 R1 K1 => ?_⟩
     refine ⟨by show 1 ≤ 16777216; decide,k.fin R1 ⟨R1.n8,V0.way,V0.len,fun y hy => ?_⟩ K1 ?_ rfl⟩
     ·have hy' := hy
      rcases List.mem_or_eq_of_mem_set hy' with h4 | h4
      ·rcases List.mem_or_eq_of_mem_set h4 with h5 | h5
       ·exact V0.reg y h5
       ·rw [h5]; exact .inr ⟨h3,V0.at_ (by omega) h3⟩
      ·rw [h4]; exact .inr ⟨h2,V0.at_ (by omega) h2⟩
     ·unfold absE Rd20.set_
      simp only [List.map_set,optE_some h2,optE_some h3]
      rfl
theorem ok_call_copy (F : Src K mg "call_copy" s_call_copy ["ring","given"]) (T : CG K C) (f_is_place : Fn P w K mg base "is_place" 2 ["i"] spPlace) (m_Ring_is_empty : Mtd P w K mg base C "is_empty" 1 ["self","i"] (spIsEmpty C)) (f_pushed : Fn P w K mg base "pushed" 2 ["ring","number"] (spPushed C))
  (c_BAD_ARGUMENT : Con1 mg "BAD_ARGUMENT" (.int (-2))) (c_IS_EMPTY : Con1 mg "IS_EMPTY" (.int (-4))) : Fn P w K mg base "call_copy" 3 ["ring","given"] (spCall C (c1 .copy)) := by
 have cl_Ring := T.cl
 refine F.fn sc_call_copy (fun vs H Q E h => ?_) (fun f cdv A outer s H vs Q E hr h => ?_)
 ·obtain ⟨r,g,l,s,zs,q,rfl,_⟩ := h
  rfl
 ·obtain ⟨r,g,l,st,zs,q,rfl,R,V0,hg,hgl,hq,k⟩ := h
  obtain ⟨dx,hr'⟩ := R.ob
  obtain ⟨a,rfl,rfl⟩ := hq
  refine ⟨_,(pss_cons (ps_set (i := 2) sc_call_copy.nd rfl (Or.inl rfl) (pe_ix ix_list (pv 1) pe_int (fun _ _ => rfl)))
    (pss_cons (ps_if (pt_not (pt_val (pf f_is_place hr (pa_cons (pv 2) pa_nil)))) (pss_one (ps_ret (pe_lst (pa_cons (pe_c1 c_BAD_ARGUMENT rfl) pa_nil)))) pss_nil)
    (pss_cons (ps_if (pt_val (pe_mt (pv 0) cl_Ring m_Ring_is_empty (hr.mono (by decide)) (pa_cons (pv 2) pa_nil))) (pss_one (ps_ret (pe_lst (pa_cons (pe_c1 c_IS_EMPTY rfl) pa_nil)))) pss_nil)
    (pss_one (ps_ret (pf f_pushed hr (pa_cons (pv 0) (pa_cons (pe_ix ix_list (pe_fld (pv 0) rfl) (pv 2) (fun _ _ => rfl)) pa_nil)))))))),?_⟩
  rw [does_copy] at k
  refine ⟨_,rfl,g,_,0,_,rfl,rfl,SqL.of hg,atI_nat (j := 0) rfl,?_⟩
  refine ⟨_,rfl,a,rfl,_,rfl,?_⟩
  refine br2 (fun h => ?_) (fun h => ?_)
  ·have h1 : Rd20.within a 0 7 = false := by simpa using h
   rw [if_pos h1] at k
   exact ⟨by show 1 ≤ 16777216; decide,k.fin R V0 (Keep.refl R) rfl rfl⟩
  ·have h1 : Rd20.within a 0 7 = true := by simpa using h
   rw [if_neg (by rw [h1]; exact fun z => nomatch z)] at k
   have w1 := within_iff.mp h1
   rw [reg_abs V0.n8 w1.1 w1.2] at k
   refine ⟨_,rfl,r,dx,_,rfl,hr',rfl,_,rfl,r,l,st,a,rfl,R,w1.1,w1.2,_,rfl,?_⟩
   refine br2 (fun h => ?_) (fun h => ?_)
   ·have h2 : st.regs.getD a.toNat 0 = EMn := of_decide_eq_true h
    rw [optE_none h2] at k
    exact ⟨by show 1 ≤ 16777216; decide,k.fin R V0 (Keep.refl R) rfl rfl⟩
   ·have h2 : st.regs.getD a.toNat 0 ≠ EMn := of_decide_eq_false h
    rw [optE_some h2] at k
    exact ⟨_,rfl,_,rfl,r,C,dx,_,_,rfl,hr',T.cl,T.nR,fG_r _ _ _ _,_,rfl,l,_,a,_,rfl,rfl,SqL.of R.ls,len8 R.n8 w1.1 w1.2,r,l,st,_,rfl,R,V0,V0.at_ (by omega) h2,h2,k⟩
theorem ok_call_store (F : Src K mg "call_store" s_call_store ["ring","given"]) (T : CG K C) (m_Ring_is_empty : Mtd P w K mg base C "is_empty" 1 ["self","i"] (spIsEmpty C)) (m_Ring_take_top : Mtd P w K mg base C "take_top" 1 ["self"] (spTake C)) (f_to_row : Fn P w K mg base "to_row" 1 ["number"] spTo)
  (c_IS_EMPTY : Con1 mg "IS_EMPTY" (.int (-4))) (c_DONE : Con1 mg "DONE" (.int 0)) : Fn P w K mg base "call_store" 2 ["ring","given"] (spCall C fun zs q => q = .store) := by
 have cl_Ring := T.cl
 refine F.fn sc_call_store (fun vs H Q E h => ?_) (fun f cdv A outer s H vs Q E hr h => ?_)
 ·obtain ⟨r,g,l,s,zs,q,rfl,_⟩ := h
  rfl
 ·obtain ⟨r,g,l,st,zs,q,rfl,R,V0,hg,hgl,rfl,k⟩ := h
  obtain ⟨dx,hr'⟩ := R.ob
  refine ⟨_,(pss_cons (ps_if (pt_val (pe_mt (pv 0) cl_Ring m_Ring_is_empty (hr.mono (by decide)) (pa_cons pe_int pa_nil))) (pss_one (ps_ret (pe_lst (pa_cons (pe_c1 c_IS_EMPTY rfl) pa_nil)))) pss_nil)
    (pss_one (ps_ret (pe_op op_cat (pe_lst (pa_cons (pe_c1 c_DONE rfl) pa_nil)) (pf f_to_row hr (pa_cons (pe_mt0 (pv 0) cl_Ring m_Ring_take_top (hr.mono (by decide))) pa_nil)))))),?_⟩
  rw [does_store] at k
  unfold Rd20.of1 at k
  rw [show Rd20.reg (absE st) 0 = optE (st.regs.getD 0 0) from reg_abs V0.n8 (by decide) (by decide)] at k
  refine ⟨_,rfl,r,dx,_,rfl,hr',rfl,r,l,st,0,rfl,R,by decide,by decide,_,rfl,?_⟩
  refine br2 (fun h => ?_) (fun h => ?_)
  ·have h2 : st.regs.getD 0 0 = EMn := of_decide_eq_true h
   rw [optE_none h2] at k
   exact ⟨by show 1 ≤ 16777216; decide,k.fin R V0 (Keep.refl R) rfl rfl⟩
  ·have h2 : st.regs.getD 0 0 ≠ EMn := of_decide_eq_false h
   rw [optE_some h2] at k
   refine ⟨by show 1 ≤ 16777216; decide,fun p1 n1 => ?_⟩
   have S1 : Same H (upd H p1 (.lst [.int 0])) := same_new n1
   have R1 := R.same S1
   obtain ⟨dx1,hr1⟩ := R1.ob
   refine ⟨_,rfl,r,dx1,_,rfl,hr1,rfl,r,l,st,rfl,R1,fun H2 l2 R2 K2 => ?_⟩
   refine ⟨_,rfl,fun p3 H3 S3 n3 h3 => ?_⟩
   have K1 := Keep.of_same R S1
   have hp1 : H2 p1 = some (.lst [.int 0]) := K2.keep p1 _ upd_same (Ne.symm (ne_of_none hr' n1)) (Ne.symm (ne_of_none R.ls n1))
   have K3 := Keep.of_same R2 S3
   refine ⟨p1,p3,_,_,rfl,rfl,S3 _ _ hp1,h3,(by rw [List.length_map]; unfold Rd20.bytes; rw [List.length_map,List.length_range]; show 1 + 10 ≤ 16777216; decide),?_⟩
   exact k.fin (R2.same S3) V0.pop ((K1.trans K2).trans K3) abs_pop rfl
end
end Rr
end
section
namespace Rr
open Rd20 (units more)
theorem log2_of {n k : Nat} (h1 : 2 ^ k ≤ n) (h2 : n < 2 ^ (k + 1)) : Nat.log2 n = k := by
 have h0 : n ≠ 0 := Nat.ne_of_gt (Nat.lt_of_lt_of_le (Nat.two_pow_pos k) h1)
 have a := (Nat.log2_lt h0).mpr h2
 have b : k ≤ Nat.log2 n := (Nat.le_log2 h0).mpr h1
 omega
theorem log2_mul {m : Nat} (j : Nat) (h : m ≠ 0) : Nat.log2 (m * 2 ^ j) = Nat.log2 m + j := by
 refine log2_of ?_ ?_
 ·rw [Nat.pow_add]
  exact Nat.mul_le_mul_right _ (Nat.log2_self_le h)
 ·have e : Nat.log2 m + j + 1 = (Nat.log2 m + 1) + j := by omega
  rw [e,Nat.pow_add]
  exact Nat.mul_lt_mul_of_pos_right Nat.lt_log2_self (Nat.two_pow_pos _)
theorem units_exact {way : Nat} {neg : Bool} {m : Nat} {e u : Int} (h : u ≤ e) : units way neg m e u = (m * 2 ^ (e - u).toNat,false) := if_pos h
theorem units_cut {way : Nat} {neg : Bool} {m : Nat} {e u : Int} (h : ¬ u ≤ e) :
  units way neg m e u = (if more way neg (decide (m / 2 ^ (u - e).toNat % 2 = 1)) (m % 2 ^ (u - e).toNat) (2 ^ (u - e).toNat) = true then m / 2 ^ (u - e).toNat + 1 else m / 2 ^ (u - e).toNat,decide (m % 2 ^ (u - e).toNat ≠ 0)) := if_neg h
theorem more0 {way : Nat} {neg odd : Bool} {d : Nat} : more way neg odd 0 d = false := if_pos rfl
theorem more3 {neg odd : Bool} {r d : Nat} : more 3 neg odd r d = false := by
 unfold more
 split
 ·rfl
 ·rfl
theorem same_units (way : Nat) (neg : Bool) (m : Nat) (e u : Int) : same m (units way neg m e u).1 e u = !(units way neg m e u).2 := by
 unfold same
 by_cases h : u ≤ e
 ·rw [units_exact h]
  have e1 : min e u = u := by omega
  rw [e1,Int.sub_self]
  simp
 ·have e1 : min e u = e := by omega
  rw [e1,Int.sub_self,units_cut h]
  generalize hd : 2 ^ (u - e).toNat = d
  have hd0 : 0 < d := by rw [← hd]; exact Nat.two_pow_pos _
  have hm := Nat.div_add_mod m d
  have hlt := Nat.mod_lt m hd0
  show decide (m * 2 ^ (0 : Int).toNat = (if more way neg (decide (m / d % 2 = 1)) (m % d) d = true then m / d + 1 else m / d) * d) = !decide (m % d ≠ 0)
  rw [show (0 : Int).toNat = 0 from rfl,Nat.pow_zero,Nat.mul_one]
  by_cases hr : m % d = 0
  ·rw [hr,more0,if_neg Bool.false_ne_true]
   rw [hr] at hm
   have : m = m / d * d := by rw [Nat.mul_comm]; omega
   rw [decide_eq_true this]
   rfl
  ·have e2 : (!decide (m % d ≠ 0)) = false := by rw [decide_eq_true hr]; rfl
   rw [e2]
   refine decide_eq_false fun e3 => hr ?_
   rw [e3]
   exact Nat.mul_mod_left _ _
theorem units_pos {way : Nat} {neg : Bool} {m : Nat} {e : Int} {bits : Nat} (h : m ≠ 0) (hb : 1 ≤ bits) : (units way neg m e (Rd20.top m e - bits + 1)).1 ≠ 0 := by
 unfold Rd20.top
 by_cases hu : (Nat.log2 m : Int) + e - bits + 1 ≤ e
 ·rw [units_exact hu]
  exact Nat.ne_of_gt (Nat.mul_pos (Nat.pos_of_ne_zero h) (Nat.two_pow_pos _))
 ·rw [units_cut hu]
  have e1 : ((Nat.log2 m : Int) + e - bits + 1 - e).toNat ≤ Nat.log2 m := by omega
  have h1 : 2 ^ ((Nat.log2 m : Int) + e - bits + 1 - e).toNat ≤ m := Nat.le_trans (Nat.pow_le_pow_right (by decide) e1) (Nat.log2_self_le h)
  have h2 : 0 < m / 2 ^ ((Nat.log2 m : Int) + e - bits + 1 - e).toNat := Nat.div_pos h1 (Nat.two_pow_pos _)
  dsimp only
  split <;> omega
theorem round_eq {bits : Nat} {least most : Int} {way : Nat} {neg : Bool} {m : Nat} {e : Int} (h : m ≠ 0) (hb : 1 ≤ bits) :
  roundE bits least most way neg m e = (comeE most (Rd20.round bits least most way neg m e).1,((Rd20.round bits least most way neg m e).2 : Int)) := by
 have et : tinyE bits least way neg m e = decide (Rd20.top (units way neg m e (Rd20.top m e - bits + 1)).1 (Rd20.top m e - bits + 1) < least) := by
  unfold tinyE
  rw [decide_eq_false (units_pos h hb),Bool.false_or]
 unfold roundE
 rw [if_neg h]
 unfold roundQ Rd20.round
 rw [same_units,et]
 dsimp only
 generalize hu : max (Rd20.top m e) least - (bits : Int) + 1 = u
 generalize hr : units way neg m e u = r
 generalize decide (Rd20.top (units way neg m e (Rd20.top m e - (bits : Int) + 1)).1 (Rd20.top m e - (bits : Int) + 1) < least) = tn
 by_cases hc : most ≤ Rd20.top r.1 u ∧ r.1 ≠ 0
 ·rw [if_pos hc]
  have e1 : (decide (r.1 = 0) || decide (Rd20.top r.1 u < most)) = false := by
   rw [decide_eq_false hc.2,decide_eq_false (by omega)]
   rfl
  rw [e1,if_neg Bool.false_ne_true]
  unfold overE
  by_cases ho : Rd20.over way neg = true
  ·rw [if_pos ho,if_pos ho]; rfl
  ·rw [if_neg ho,if_neg ho]; rfl
 ·rw [if_neg hc]
  have e1 : (decide (r.1 = 0) || decide (Rd20.top r.1 u < most)) = true := by
   by_cases h0 : r.1 = 0
   ·rw [decide_eq_true h0,Bool.true_or]
   ·have : Rd20.top r.1 u < most := by
     by_cases h1 : most ≤ Rd20.top r.1 u
     ·exact absurd ⟨h1,h0⟩ hc
     ·omega
    rw [decide_eq_true this,Bool.or_true]
  rw [e1,if_pos rfl]
  cases h2 : r.2
  ·rfl
  ·cases tn <;> rfl
theorem put_ws (neg : Bool) (e m : Nat) : Rd20.put neg e m = wsE neg (e * 2 ^ 64 + m) := by
 unfold Rd20.put wsE
 exact Nat.add_assoc _ _ _
theorem units_lead (neg : Bool) (q : Nat) (u : Int) (b : Nat) : (units 3 neg q u (Rd20.top q u - b)).1 = if Nat.log2 q ≤ b then q * 2 ^ (b - Nat.log2 q) else q / 2 ^ (Nat.log2 q - b) := by
 unfold Rd20.top
 by_cases h : Nat.log2 q ≤ b
 ·rw [units_exact (by omega),if_pos h]
  have e1 : (u - ((Nat.log2 q : Int) + u - b)).toNat = b - Nat.log2 q := by omega
  rw [e1]
 ·rw [units_cut (by omega),if_neg h,more3,if_neg Bool.false_ne_true]
  have e1 : ((Nat.log2 q : Int) + u - b - u).toNat = Nat.log2 q - b := by omega
  rw [e1]
theorem num_eq {neg : Bool} {q : Nat} {u : Int} (h : q ≠ 0 → Rd20.top q u < -16382 → -16445 ≤ u) : numE neg q u = Rd20.extended neg (.units q u) := by
 unfold numE Rd20.extended
 by_cases h0 : q = 0
 ·rw [if_pos h0]
  dsimp only
  rw [if_pos h0,put_ws]
 ·rw [if_neg h0]
  dsimp only
  rw [if_neg h0]
  by_cases hs : Rd20.top q u < -16382
  ·rw [if_pos hs,if_pos hs]
   have e1 : max (Rd20.top q u) (-16382) - 63 = -16445 := by omega
   rw [e1,units_exact (h h0 hs),put_ws]
   have e2 : (u - -16445).toNat = (u + 16445).toNat := by omega
   rw [e2]
   congr 1
   omega
  ·rw [if_neg hs,if_neg hs]
   have e1 : max (Rd20.top q u) (-16382) - 63 = Rd20.top q u - (63 : Nat) := by omega
   rw [e1,units_lead,put_ws]
theorem num_inf (neg : Bool) : numE neg 1 16384 = Rd20.INF neg := by cases neg <;> decide +kernel
theorem num_come {neg : Bool} {c : Rd20.Come} (h : ∀ q u,c = .units q u → q ≠ 0 → Rd20.top q u < -16382 → -16445 ≤ u) : numE neg (comeE 16384 c).1 (comeE 16384 c).2 = Rd20.extended neg c := by
 cases c with
 | inf => exact num_inf neg
 | units q u => exact num_eq (h q u rfl)
theorem dbl_eq {neg : Bool} {q : Nat} {u : Int} (h : q ≠ 0 → Rd20.top q u < -1022 → -1074 ≤ u) : dblE neg q u = Rd20.double neg (.units q u) := by
 unfold dblE Rd20.double Rd20.doubleSize
 by_cases h0 : q = 0
 ·rw [if_pos h0]
  dsimp only
  rw [if_pos h0]
  rfl
 ·rw [if_neg h0]
  dsimp only
  rw [if_neg h0]
  by_cases hs : Rd20.top q u < -1022
  ·rw [if_pos hs]
   have e1 : max (Rd20.top q u) (-1022) = -1022 := by omega
   rw [e1]
   have e3 : (-1022 - 53 + 1 : Int) = -1074 := by decide
   rw [e3,units_exact (h h0 hs)]
   have e2 : (u - -1074).toNat = (u + 1074).toNat := by omega
   rw [e2]
   show _ + (-1022 + 1022 : Int).toNat * 2 ^ 52 + _ = _
   rw [show (-1022 + 1022 : Int).toNat = 0 from rfl]
   omega
  ·rw [if_neg hs]
   have e1 : max (Rd20.top q u) (-1022) = Rd20.top q u := by omega
   rw [e1]
   have e3 : Rd20.top q u - 53 + 1 = Rd20.top q u - (52 : Nat) := by omega
   rw [e3,units_lead]
   have e4 : (Rd20.top q u + 1023).toNat = (Rd20.top q u + 1022).toNat + 1 := by omega
   rw [e4]
   generalize (if Nat.log2 q ≤ 52 then q * 2 ^ (52 - Nat.log2 q) else q / 2 ^ (Nat.log2 q - 52)) = z
   generalize (Rd20.top q u + 1022).toNat = y
   generalize (if neg = true then 2 ^ 63 else 0) = x
   omega
theorem dbl_inf (neg : Bool) : dblE neg 1 1024 = Rd20.double neg .inf := by cases neg <;> decide +kernel
theorem dbl_come {neg : Bool} {c : Rd20.Come} (h : ∀ q u,c = .units q u → q ≠ 0 → Rd20.top q u < -1022 → -1074 ≤ u) : dblE neg (comeE 1024 c).1 (comeE 1024 c).2 = Rd20.double neg c := by
 cases c with
 | inf => exact dbl_inf neg
 | units q u => exact dbl_eq (h q u rfl)
theorem round_unit {bits : Nat} {least most : Int} {way : Nat} {neg : Bool} {m : Nat} {e : Int} {q : Nat} {u : Int} (h : (Rd20.round bits least most way neg m e).1 = .units q u) (hm : least ≤ most) (hb : (1 : Int) ≤ bits) : least - bits + 1 ≤ u ∨ most - bits = u := by
 unfold Rd20.round at h
 dsimp only at h
 split at h
 ·split at h
  ·cases h
  ·cases h
   exact .inr rfl
 ·cases h
  exact .inl (by omega)
theorem exact_eq {neg : Bool} {m : Nat} {e : Int} (hl : Nat.log2 m ≤ 63) (ht : Rd20.top m e < 16384) (hs : Rd20.top m e < -16382 → -16445 ≤ e) : Rd20.exact (.fin neg m e) = numE neg m e := by
 unfold Rd20.exact Rd20.made
 by_cases h0 : m = 0
 ·subst h0
  rw [num_eq (fun h => absurd rfl h)]
  rfl
 ·dsimp only
  rw [if_neg h0]
  dsimp only
  have hu : max (Rd20.top m e) (-16382) - ((64 : Nat) : Int) + 1 ≤ e := by
   have ht' : Rd20.top m e = (Nat.log2 m : Int) + e := rfl
   by_cases hh : Rd20.top m e < -16382
   ·have := hs hh; omega
   ·omega
  have hr : (Rd20.round 64 (-16382) 16384 0 neg m e).1 = .units (m * 2 ^ (e - (max (Rd20.top m e) (-16382) - ((64 : Nat) : Int) + 1)).toNat) (max (Rd20.top m e) (-16382) - ((64 : Nat) : Int) + 1) := by
   unfold Rd20.round
   dsimp only
   rw [units_exact hu]
   have hc : ¬ (16384 ≤ Rd20.top (m * 2 ^ (e - (max (Rd20.top m e) (-16382) - ((64 : Nat) : Int) + 1)).toNat) (max (Rd20.top m e) (-16382) - ((64 : Nat) : Int) + 1) ∧ (m * 2 ^ (e - (max (Rd20.top m e) (-16382) - ((64 : Nat) : Int) + 1)).toNat) ≠ 0) := by
    intro hc
    have h1 := hc.1
    unfold Rd20.top at h1
    rw [log2_mul _ h0] at h1
    have ht' : Rd20.top m e = (Nat.log2 m : Int) + e := rfl
    unfold Rd20.top at hu ht
    omega
   rw [if_neg hc]
  rw [hr]
  generalize hg : max (Rd20.top m e) (-16382) - ((64 : Nat) : Int) + 1 = u at *
  have htop : Rd20.top (m * 2 ^ (e - u).toNat) u = Rd20.top m e := by
   unfold Rd20.top
   rw [log2_mul _ h0]
   omega
  have hq : m * 2 ^ (e - u).toNat ≠ 0 := Nat.ne_of_gt (Nat.mul_pos (Nat.pos_of_ne_zero h0) (Nat.two_pow_pos _))
  rw [num_eq fun _ => hs]
  unfold Rd20.extended
  dsimp only
  rw [if_neg hq,if_neg h0,htop]
  by_cases hh : Rd20.top m e < -16382
  ·rw [if_pos hh,if_pos hh]
   have eu : u = -16445 := by omega
   subst eu
   have e1 : (-16445 + 16445 : Int).toNat = 0 := rfl
   rw [e1,Nat.pow_zero,Nat.mul_one]
   have e2 : (e - -16445).toNat = (e + 16445).toNat := by omega
   rw [e2]
  ·rw [if_neg hh,if_neg hh]
   have ht' : Rd20.top m e = (Nat.log2 m : Int) + e := rfl
   have eu : (e - u).toNat = 63 - Nat.log2 m := by omega
   rw [eu,log2_mul _ h0]
   have e3 : Nat.log2 m + (63 - Nat.log2 m) = 63 := by omega
   rw [e3,if_pos (Nat.le_refl _),if_pos hl,Nat.sub_self,Nat.pow_zero,Nat.mul_one]
theorem parts {neg : Bool} {E M : Nat} (hE : E < 32768) (hM : M < 2 ^ 64) : wsE neg (E * 2 ^ 64 + M) < 2 ^ 80 ∧ Rd20.expOf (wsE neg (E * 2 ^ 64 + M)) = E ∧ Rd20.sizeOf (wsE neg (E * 2 ^ 64 + M)) = M ∧ Rd20.signOf (wsE neg (E * 2 ^ 64 + M)) = neg := by
 have hlt : E * 2 ^ 64 + M < 2 ^ 79 := by omega
 unfold Rd20.expOf Rd20.sizeOf Rd20.signOf wsE
 cases neg
 ·rw [if_neg Bool.false_ne_true]
  refine ⟨by omega,by omega,by omega,decide_eq_false (Nat.not_le.mpr (Nat.lt_of_le_of_lt (Nat.le_of_eq (Nat.zero_add _)) hlt))⟩
 ·rw [if_pos rfl]
  refine ⟨by omega,by omega,by omega,decide_eq_true (Nat.le_add_right _ _)⟩
theorem EM_parts : Rd20.expOf EMn = 1 ∧ Rd20.sizeOf EMn = 0 := by decide +kernel
theorem num80 {neg : Bool} {E M : Nat} (hE : E < 32768) (hM : M < 2 ^ 64) (h0 : E = 0 → M < 2 ^ 63) (h1 : E ≠ 0 → 2 ^ 63 ≤ M) (h2 : E = 32767 → M = 2 ^ 63) : Num80 (wsE neg (E * 2 ^ 64 + M)) ∧ wsE neg (E * 2 ^ 64 + M) ≠ EMn := by
 obtain ⟨p1,p2,p3,p4⟩ := parts (neg := neg) hE hM
 generalize wsE neg (E * 2 ^ 64 + M) = x at *
 refine ⟨⟨p1,?_,?_⟩,fun e => ?_⟩
 ·unfold Rd20.right
  rw [decide_eq_true p1,Bool.true_and,p2,p3]
  by_cases hz : E = 0
  ·rw [if_pos hz]; exact decide_eq_true (h0 hz)
  ·rw [if_neg hz]; exact decide_eq_true (h1 hz)
 ·unfold Rd20.plain
  refine if_neg ?_
  unfold Rd20.worth
  rw [p2,p3]
  by_cases hz : E = 32767
  ·rw [if_pos hz,if_pos (h2 hz)]; exact fun z => nomatch z
  ·rw [if_neg hz]; exact fun z => nomatch z
 ·rw [e,EM_parts.1] at p2
  rw [e,EM_parts.2] at p3
  have := h1 (by omega)
  omega
theorem lead_bounds {q : Nat} (h : q ≠ 0) : 2 ^ 63 ≤ (if Nat.log2 q ≤ 63 then q * 2 ^ (63 - Nat.log2 q) else q / 2 ^ (Nat.log2 q - 63)) ∧ (if Nat.log2 q ≤ 63 then q * 2 ^ (63 - Nat.log2 q) else q / 2 ^ (Nat.log2 q - 63)) < 2 ^ 64 := by
 have h1 := Nat.log2_self_le h
 have h2 := Nat.lt_log2_self (n := q)
 by_cases hk : Nat.log2 q ≤ 63
 ·rw [if_pos hk]
  constructor
  ·have e : (2 : Nat) ^ 63 = 2 ^ Nat.log2 q * 2 ^ (63 - Nat.log2 q) := by rw [← Nat.pow_add]; congr 1; omega
   rw [e]
   exact Nat.mul_le_mul_right _ h1
  ·have e : (2 : Nat) ^ 64 = 2 ^ (Nat.log2 q + 1) * 2 ^ (63 - Nat.log2 q) := by rw [← Nat.pow_add]; congr 1; omega
   rw [e]
   exact Nat.mul_lt_mul_of_pos_right h2 (Nat.two_pow_pos _)
 ·rw [if_neg hk]
  constructor
  ·rw [Nat.le_div_iff_mul_le (Nat.two_pow_pos _),← Nat.pow_add]
   have e : 63 + (Nat.log2 q - 63) = Nat.log2 q := by omega
   rw [e]
   exact h1
  ·rw [Nat.div_lt_iff_lt_mul (Nat.two_pow_pos _),← Nat.pow_add]
   have e : 64 + (Nat.log2 q - 63) = Nat.log2 q + 1 := by omega
   rw [e]
   exact h2
theorem num80_units {neg : Bool} {q : Nat} {u : Int} (h : q ≠ 0 → Rd20.top q u < 16384 ∧ (Rd20.top q u < -16382 → -16445 ≤ u)) : Num80 (Rd20.extended neg (.units q u)) ∧ Rd20.extended neg (.units q u) ≠ EMn := by
 unfold Rd20.extended
 dsimp only
 by_cases h0 : q = 0
 ·rw [if_pos h0,put_ws]
  exact num80 (by decide) (by decide) (fun _ => by decide) (fun z => absurd rfl z) (fun z => nomatch z)
 ·rw [if_neg h0]
  obtain ⟨ht,hs⟩ := h h0
  by_cases hh : Rd20.top q u < -16382
  ·rw [if_pos hh,put_ws]
   have hu := hs hh
   have hlt : q * 2 ^ (u + 16445).toNat < 2 ^ 63 := by
    have e : 2 ^ (Nat.log2 q + 1) * 2 ^ (u + 16445).toNat ≤ 2 ^ 63 := by
     rw [← Nat.pow_add]
     refine Nat.pow_le_pow_right (by decide) ?_
     unfold Rd20.top at hh
     omega
    exact Nat.lt_of_lt_of_le (Nat.mul_lt_mul_of_pos_right Nat.lt_log2_self (Nat.two_pow_pos _)) e
   exact num80 (by decide) (by omega) (fun _ => hlt) (fun z => absurd rfl z) (fun z => nomatch z)
  ·rw [if_neg hh,put_ws]
   obtain ⟨l1,l2⟩ := lead_bounds h0
   exact num80 (by omega) l2 (fun z => by omega) (fun _ => l1) (fun z => by omega)
theorem num80_inf (neg : Bool) : Num80 (Rd20.INF neg) ∧ Rd20.INF neg ≠ EMn := by
 unfold Rd20.INF
 rw [put_ws]
 exact num80 (by decide) (by decide) (fun z => nomatch z) (fun _ => by decide) (fun _ => rfl)
theorem num80_NONE : Num80 Rd20.NONE ∧ Rd20.NONE ≠ EMn := by
 unfold Num80
 decide +kernel
theorem NONE_eq : Rd20.NONE = NONEn := by decide +kernel
theorem round_ok {bits : Nat} {way : Nat} {neg : Bool} {m : Nat} {e : Int} (hb : 1 ≤ bits) (hb2 : bits ≤ 64) {q : Nat} {u : Int} (h : (Rd20.round bits (-16382) 16384 way neg m e).1 = .units q u) (h0 : q ≠ 0) : Rd20.top q u < 16384 ∧ (Rd20.top q u < -16382 → -16445 ≤ u) := by
 unfold Rd20.round at h
 dsimp only at h
 split at h
 ·split at h
  ·cases h
  ·cases h
   have hl : Nat.log2 (2 ^ bits - 1) = bits - 1 := by
    have hp := Nat.two_pow_pos (bits - 1)
    have e2 : 2 ^ bits = 2 ^ (bits - 1) * 2 := by rw [← Nat.pow_succ]; congr 1; omega
    refine log2_of ?_ ?_
    ·omega
    ·have e3 : bits - 1 + 1 = bits := by omega
     rw [e3]
     omega
   unfold Rd20.top
   rw [hl]
   omega
 ·rename_i hc
  cases h
  constructor
  ·by_cases hx : 16384 ≤ Rd20.top (units way neg m e (max (Rd20.top m e) (-16382) - (bits : Int) + 1)).1 (max (Rd20.top m e) (-16382) - (bits : Int) + 1)
   ·exact absurd ⟨hx,h0⟩ hc
   ·omega
  ·intro _
   omega
theorem round_num80 {bits : Nat} {way : Nat} {neg : Bool} {m : Nat} {e : Int} (hb : 1 ≤ bits) (hb2 : bits ≤ 64) : Num80 (Rd20.extended neg (Rd20.round bits (-16382) 16384 way neg m e).1) ∧ Rd20.extended neg (Rd20.round bits (-16382) 16384 way neg m e).1 ≠ EMn := by
 cases h : (Rd20.round bits (-16382) 16384 way neg m e).1 with
 | inf => exact num80_inf neg
 | units q u => exact num80_units fun h0 => round_ok hb hb2 h h0
theorem num_round {bits : Nat} {way : Nat} {neg : Bool} {m : Nat} {e : Int} (hb : 1 ≤ bits) (hb2 : bits ≤ 64) :
  numE neg (comeE 16384 (Rd20.round bits (-16382) 16384 way neg m e).1).1 (comeE 16384 (Rd20.round bits (-16382) 16384 way neg m e).1).2 = Rd20.extended neg (Rd20.round bits (-16382) 16384 way neg m e).1 :=
 num_come fun q u h h0 => (round_ok hb hb2 h h0).2
theorem made_num80 {bits way : Nat} (x : Rd20.Num) (hb : 1 ≤ bits) (hb2 : bits ≤ 64) : Num80 (Rd20.made bits way x).1 ∧ (Rd20.made bits way x).1 ≠ EMn := by
 unfold Rd20.made
 cases x with
 | nan => exact num80_NONE
 | inf neg => exact num80_inf neg
 | fin neg m e =>
  dsimp only
  split
  ·rw [put_ws]
   exact num80 (by decide) (by decide) (fun _ => by decide) (fun z => absurd rfl z) (fun z => nomatch z)
  ·exact round_num80 hb hb2
theorem more_congr {way : Nat} {neg odd : Bool} {r d r' d' : Nat} (h0 : r = 0 ↔ r' = 0) (h1 : d < 2 * r ↔ d' < 2 * r') (h2 : 2 * r = d ↔ 2 * r' = d') : more way neg odd r d = more way neg odd r' d' := by
 unfold more
 by_cases hr : r = 0
 ·rw [if_pos hr,if_pos (h0.mp hr)]
 ·rw [if_neg hr,if_neg (fun z => hr (h0.mpr z))]
  by_cases hw : way = 0
  ·rw [if_pos hw,if_pos hw]
   have e1 : decide (d < 2 * r) = decide (d' < 2 * r') := decide_eq_decide.mpr h1
   have e2 : decide (2 * r = d) = decide (2 * r' = d') := decide_eq_decide.mpr h2
   rw [e1,e2]
  ·rw [if_neg hw,if_neg hw]
theorem split_at (X D K : Nat) (hD : 0 < D) (hK : 0 < K) : X / (D * K) = X / D / K ∧ X % (D * K) = X / D % K * D + X % D := by
 refine ⟨(Nat.div_div_eq_div_mul X D K).symm,?_⟩
 have h := Nat.mod_mul (a := D) (b := K) (x := X)
 rw [h]
 rw [Nat.mul_comm D]
 omega
theorem sticky (X D k : Nat) (hD : 0 < D) (hk : 2 ≤ k) : (2 * (X / D) + (if X % D = 0 then 0 else 1)) / 2 ^ k = X / (D * 2 ^ (k - 1)) ∧
  ((2 * (X / D) + (if X % D = 0 then 0 else 1)) % 2 ^ k = 0 ↔ X % (D * 2 ^ (k - 1)) = 0) ∧
  (2 ^ k < 2 * ((2 * (X / D) + (if X % D = 0 then 0 else 1)) % 2 ^ k) ↔ D * 2 ^ (k - 1) < 2 * (X % (D * 2 ^ (k - 1)))) ∧
  (2 * ((2 * (X / D) + (if X % D = 0 then 0 else 1)) % 2 ^ k) = 2 ^ k ↔ 2 * (X % (D * 2 ^ (k - 1))) = D * 2 ^ (k - 1)) := by
 obtain ⟨e1,e2⟩ := split_at X D (2 ^ (k - 1)) hD (Nat.two_pow_pos _)
 rw [e1,e2]
 have hr := Nat.mod_lt X hD
 generalize X % D = r at *
 generalize X / D = q at *
 have hk2 : 2 ^ k = 2 * 2 ^ (k - 1) := by rw [Nat.mul_comm,← Nat.pow_succ]; congr 1; omega
 have hL : 2 ^ (k - 1) = 2 * 2 ^ (k - 2) := by rw [Nat.mul_comm,← Nat.pow_succ]; congr 1; omega
 have hLp := Nat.two_pow_pos (k - 2)
 generalize 2 ^ (k - 2) = L at *
 rw [hk2,hL]
 have hb := Nat.mod_lt q (show 0 < 2 * L by omega)
 have hq := Nat.div_add_mod q (2 * L)
 generalize q / (2 * L) = a at *
 generalize q % (2 * L) = b at *
 subst hq
 have key : ∀ σ : Nat,σ ≤ 1 → (2 * (2 * L * a + b) + σ) / (2 * (2 * L)) = a ∧ (2 * (2 * L * a + b) + σ) % (2 * (2 * L)) = 2 * b + σ := by
  intro σ hσ
  have h1 : 2 * (2 * L * a + b) + σ = (2 * b + σ) + (2 * (2 * L)) * a := by
   rw [Nat.mul_add,← Nat.mul_assoc 2 (2 * L) a]
   omega
  rw [h1]
  refine ⟨?_,?_⟩
  ·rw [Nat.add_mul_div_left _ _ (by omega),Nat.div_eq_of_lt (by omega)]
   omega
  ·rw [Nat.add_mul_mod_self_left,Nat.mod_eq_of_lt (by omega)]
 have mono : ∀ {x y : Nat},x < y → x * D + D ≤ y * D := fun {x y} h => by
  have := Nat.mul_le_mul_right D (Nat.succ_le_of_lt h)
  rw [Nat.succ_mul] at this
  exact this
 have hDL : D * (2 * L) = 2 * (L * D) := by rw [Nat.mul_comm D,Nat.mul_assoc]
 have hbD : b * D = 0 ↔ b = 0 := by
  constructor
  ·intro h; rcases Nat.mul_eq_zero.mp h with h | h <;> omega
  ·intro h; rw [h,Nat.zero_mul]
 have tri : (b < L ∧ b * D + D ≤ L * D) ∨ (b = L ∧ b * D = L * D) ∨ (L < b ∧ L * D + D ≤ b * D) := by
  rcases Nat.lt_trichotomy b L with h | h | h
  ·exact .inl ⟨h,mono h⟩
  ·exact .inr (.inl ⟨h,by rw [h]⟩)
  ·exact .inr (.inr ⟨h,mono h⟩)
 rw [hDL]
 by_cases hr0 : r = 0
 ·rw [if_pos hr0]
  obtain ⟨k1,k2⟩ := key 0 (by decide)
  rw [k1,k2]
  generalize hbd : b * D = y at *
  generalize L * D = z at *
  refine ⟨rfl,?_,?_,?_⟩ <;> rcases tri with ⟨h1,h2⟩ | ⟨h1,h2⟩ | ⟨h1,h2⟩ <;> omega
 ·rw [if_neg hr0]
  obtain ⟨k1,k2⟩ := key 1 (by decide)
  rw [k1,k2]
  generalize hbd : b * D = y at *
  generalize L * D = z at *
  refine ⟨rfl,?_,?_,?_⟩ <;> rcases tri with ⟨h1,h2⟩ | ⟨h1,h2⟩ | ⟨h1,h2⟩ <;> omega
end Rr
end
section
namespace Rr
def IsRoot (n r : Nat) : Prop := r * r ≤ n ∧ n < (r + 1) * (r + 1)
theorem IsRoot.uniq {n r s : Nat} (a : IsRoot n r) (b : IsRoot n s) : r = s := by
 rcases Nat.lt_trichotomy r s with h | h | h
 ·exact absurd (Nat.lt_of_lt_of_le a.2 (Nat.le_trans (Nat.mul_le_mul h h) b.1)) (Nat.lt_irrefl _)
 ·exact h
 ·exact absurd (Nat.lt_of_lt_of_le b.2 (Nat.le_trans (Nat.mul_le_mul h h) a.1)) (Nat.lt_irrefl _)
theorem rootFrom_ok (n : Nat) : ∀ (k r : Nat),r * r ≤ n → n < (r + 2 ^ k) * (r + 2 ^ k) → IsRoot n (Rd20.rootFrom n k r)
 | 0,r,h1,h2 => ⟨h1,by rw [Nat.pow_zero] at h2; exact h2⟩
 | k + 1,r,h1,h2 => by
  show IsRoot n (Rd20.rootFrom n k (if (r + 2 ^ k) * (r + 2 ^ k) ≤ n then r + 2 ^ k else r))
  by_cases h : (r + 2 ^ k) * (r + 2 ^ k) ≤ n
  ·rw [if_pos h]
   refine rootFrom_ok n k _ h ?_
   have e : r + 2 ^ k + 2 ^ k = r + 2 ^ (k + 1) := by rw [Nat.pow_succ]; omega
   rw [e]
   exact h2
  ·rw [if_neg h]
   exact rootFrom_ok n k r h1 (Nat.not_le.mp h)
theorem root_is (n : Nat) : IsRoot n (Rd20.rootFrom n (Nat.log2 n / 2 + 1) 0) := by
 refine rootFrom_ok n _ 0 (Nat.zero_le _) ?_
 rw [Nat.zero_add,← Nat.pow_add]
 exact Nat.lt_of_lt_of_le Nat.lt_log2_self (Nat.pow_le_pow_right (by decide) (by omega))
theorem IsRoot.shift {n r j r' : Nat} (a : IsRoot n r) (b : IsRoot (n * (2 ^ j * 2 ^ j)) r') : r' / 2 ^ j = r := by
 have hp := Nat.two_pow_pos j
 generalize 2 ^ j = p at *
 have h1 : r * p ≤ r' := by
  rcases Nat.lt_or_ge r' (r * p) with h | h
  ·have h2 : (r' + 1) * (r' + 1) ≤ (r * p) * (r * p) := Nat.mul_le_mul h h
   have h3 : (r * p) * (r * p) = r * r * (p * p) := by rw [Nat.mul_assoc,Nat.mul_assoc,Nat.mul_left_comm p r p]
   have h4 : r * r * (p * p) ≤ n * (p * p) := Nat.mul_le_mul_right _ a.1
   have h5 := b.2
   omega
  ·exact h
 have h2 : r' < (r + 1) * p := by
  rcases Nat.lt_or_ge r' ((r + 1) * p) with h | h
  ·exact h
  ·have h2 : ((r + 1) * p) * ((r + 1) * p) ≤ r' * r' := Nat.mul_le_mul h h
   have h3 : ((r + 1) * p) * ((r + 1) * p) = (r + 1) * (r + 1) * (p * p) := by rw [Nat.mul_assoc,Nat.mul_assoc,Nat.mul_left_comm p (r + 1) p]
   have h4 : n * (p * p) < (r + 1) * (r + 1) * (p * p) := Nat.mul_lt_mul_of_pos_right a.2 (Nat.mul_pos hp hp)
   have h5 := b.1
   omega
 refine Nat.div_eq_of_lt_le h1 ?_
 exact h2
theorem abs_set {s : RS} {i : Int} {x : Nat} (hx : x ≠ EMn) : absE { s with regs := s.regs.set i.toNat x } = Rd20.set_ (absE s) i x := by
 unfold absE Rd20.set_
 simp only [List.map_set,optE_some hx]
theorem Valid.set {s : RS} (v : Valid s) {i x : Nat} (hx : Num80 x) (hn : x ≠ EMn) : Valid { s with regs := s.regs.set i x } := ⟨by show (s.regs.set i x).length = 8; rw [List.length_set]; exact v.n8,v.way,v.len,fun y hy => by
 rcases List.mem_or_eq_of_mem_set hy with h | h
 ·exact v.reg y h
 ·rw [h]; exact .inr ⟨hn,hx⟩⟩
theorem abs_free {s : RS} {i : Nat} : absE { s with regs := s.regs.set i EMn } = { absE s with regs := (absE s).regs.set i none } := by
 unfold absE
 simp only [List.map_set,optE_none rfl]
theorem Valid.free {s : RS} (v : Valid s) {i : Nat} : Valid { s with regs := s.regs.set i EMn } := ⟨by show (s.regs.set i EMn).length = 8; rw [List.length_set]; exact v.n8,v.way,v.len,fun y hy => by
 rcases List.mem_or_eq_of_mem_set hy with h | h
 ·exact v.reg y h
 ·exact .inl h⟩
theorem abs_turn {s : RS} {k : Nat} : absE { s with regs := s.regs.drop k ++ s.regs.take k } = { absE s with regs := (absE s).regs.drop k ++ (absE s).regs.take k } := by
 unfold absE
 simp only [List.map_append,List.map_drop,List.map_take]
theorem Valid.turn {s : RS} (v : Valid s) {k : Nat} (hk : k ≤ 8) : Valid { s with regs := s.regs.drop k ++ s.regs.take k } := ⟨by
 show (s.regs.drop k ++ s.regs.take k).length = 8
 rw [List.length_append,List.length_drop,List.length_take,v.n8]
 omega,v.way,v.len,fun y hy => by
 rcases List.mem_append.mp hy with h | h
 ·exact v.reg y (List.mem_of_mem_drop h)
 ·exact v.reg y (List.mem_of_mem_take h)⟩
theorem bits_now {s : RS} (v : Valid s) : 1 ≤ Rd20.bitsNow (absE s) ∧ Rd20.bitsNow (absE s) ≤ 64 := by
 unfold Rd20.bitsNow Rd20.LENGTHS
 show 1 ≤ ([24,53,64] : List Nat).getD s.len 64 ∧ ([24,53,64] : List Nat).getD s.len 64 ≤ 64
 have h := v.len
 match hs : s.len,h with
 | 0,_ => decide
 | 1,_ => decide
 | 2,_ => decide
 | n + 3,h => omega
theorem comes_eq {s : Rd20.Abs} {taken : List Nat} {i : Int} {bits : Nat} {r : Rd20.Res} (h : (taken.any fun x => Rd20.worth x == .nan) = false) :
  Rd20.comes s taken i bits r = Rd20.flag (Rd20.set_ s i (Rd20.made bits s.way r.1).1) (if (r.2 ||| (Rd20.made bits s.way r.1).2) % 2 = 0 ∧ taken.any Rd20.small = true then (r.2 ||| (Rd20.made bits s.way r.1).2) ||| 2 else r.2 ||| (Rd20.made bits s.way r.1).2) := by
 unfold Rd20.comes Rd20.flagsOf
 rw [h,if_neg Bool.false_ne_true]
 dsimp only
 rw [if_neg Bool.false_ne_true]
theorem comes_nan {s : Rd20.Abs} {taken : List Nat} {i : Int} {bits : Nat} {r : Rd20.Res} (h : (taken.any fun x => Rd20.worth x == .nan) = true) : Rd20.comes s taken i bits r = Rd20.set_ s i Rd20.NONE := by
 unfold Rd20.comes
 rw [h,if_pos rfl]
end Rr
end
section
namespace Rr
open Rd20 (units more)
theorem round_congr {bits : Nat} {least most : Int} {way : Nat} {neg : Bool} {m m' : Nat} {e e' : Int} (ht : Rd20.top m e = Rd20.top m' e') (hu : ∀ u,Rd20.top m e - bits + 1 ≤ u → units way neg m e u = units way neg m' e' u) :
  Rd20.round bits least most way neg m e = Rd20.round bits least most way neg m' e' := by
 unfold Rd20.round
 dsimp only
 rw [← ht,← hu _ (by omega),← hu _ (Int.le_refl _)]
def quo (N D s : Nat) : Nat := 2 * (N * 2 ^ s / D) + (if N * 2 ^ s % D = 0 then 0 else 1)
theorem log2_two {q σ : Nat} (h : q ≠ 0) (hs : σ ≤ 1) : Nat.log2 (2 * q + σ) = Nat.log2 q + 1 := by
 have h1 := Nat.log2_self_le h
 have h2 := Nat.lt_log2_self (n := q)
 have e1 : 2 ^ (Nat.log2 q + 1) = 2 * 2 ^ Nat.log2 q := by rw [Nat.pow_succ,Nat.mul_comm]
 have e2 : 2 ^ (Nat.log2 q + 1 + 1) = 2 * 2 ^ (Nat.log2 q + 1) := by rw [Nat.pow_succ,Nat.mul_comm]
 refine log2_of ?_ ?_
 ·omega
 ·omega
theorem log2_div {x j : Nat} (h : x / 2 ^ j ≠ 0) : Nat.log2 x = Nat.log2 (x / 2 ^ j) + j := by
 have h1 := Nat.log2_self_le h
 have h2 := Nat.lt_log2_self (n := x / 2 ^ j)
 refine log2_of ?_ ?_
 ·rw [Nat.pow_add]
  exact Nat.le_trans (Nat.mul_le_mul_right _ h1) (Nat.div_mul_le_self x _)
 ·have e : Nat.log2 (x / 2 ^ j) + j + 1 = (Nat.log2 (x / 2 ^ j) + 1) + j := by omega
  rw [e,Nat.pow_add]
  exact (Nat.div_lt_iff_lt_mul (Nat.two_pow_pos _)).mp h2
theorem quo_div (N D s j : Nat) : N * 2 ^ (s + j) / D / 2 ^ j = N * 2 ^ s / D := by
 rw [Nat.div_div_eq_div_mul,Nat.pow_add,← Nat.mul_assoc,Nat.mul_div_mul_right _ _ (Nat.two_pow_pos j)]
theorem quo_top {N D s j : Nat} (E : Int) (h : N * 2 ^ s / D ≠ 0) : Rd20.top (quo N D (s + j)) (E - ((s + j : Nat) : Int) - 1) = Rd20.top (quo N D s) (E - (s : Int) - 1) := by
 have h' : N * 2 ^ (s + j) / D / 2 ^ j ≠ 0 := by rw [quo_div]; exact h
 have h'' : N * 2 ^ (s + j) / D ≠ 0 := fun e => h' (by rw [e,Nat.zero_div])
 unfold Rd20.top quo
 rw [log2_two h (by split <;> omega),log2_two h'' (by split <;> omega),log2_div h',quo_div]
 omega
theorem quo_units {N D s j : Nat} (way : Nat) (neg : Bool) (E u : Int) (hD : 0 < D) (hu : E - (s : Int) + 1 ≤ u) : units way neg (quo N D (s + j)) (E - ((s + j : Nat) : Int) - 1) u = units way neg (quo N D s) (E - (s : Int) - 1) u := by
 have hk : ∃ k : Nat,2 ≤ k ∧ (u - (E - (s : Int) - 1)).toNat = k ∧ (u - (E - ((s + j : Nat) : Int) - 1)).toNat = k + j := ⟨(u - (E - (s : Int) - 1)).toNat,by omega,rfl,by omega⟩
 obtain ⟨k,k2,ek,ek'⟩ := hk
 rw [units_cut (by omega),units_cut (by omega),ek,ek']
 have a := sticky (N * 2 ^ s) D k hD k2
 have b := sticky (N * 2 ^ (s + j)) D (k + j) hD (by omega)
 have hp := Nat.two_pow_pos j
 have ed : D * 2 ^ (k + j - 1) = D * 2 ^ (k - 1) * 2 ^ j := by
  have : k + j - 1 = (k - 1) + j := by omega
  rw [this,Nat.pow_add,Nat.mul_assoc]
 have en : N * 2 ^ (s + j) = N * 2 ^ s * 2 ^ j := by rw [Nat.pow_add,Nat.mul_assoc]
 rw [ed] at b
 have eq1 : N * 2 ^ (s + j) / (D * 2 ^ (k - 1) * 2 ^ j) = N * 2 ^ s / (D * 2 ^ (k - 1)) := by rw [en,Nat.mul_div_mul_right _ _ hp]
 have eq2 : N * 2 ^ (s + j) % (D * 2 ^ (k - 1) * 2 ^ j) = N * 2 ^ s % (D * 2 ^ (k - 1)) * 2 ^ j := by rw [en,Nat.mul_mod_mul_right]
 rw [eq1,eq2] at b
 unfold quo
 obtain ⟨a1,a2,a3,a4⟩ := a
 obtain ⟨b1,b2,b3,b4⟩ := b
 generalize N * 2 ^ s % (D * 2 ^ (k - 1)) = R at *
 generalize D * 2 ^ (k - 1) = Y at *
 generalize 2 ^ j = p at *
 have f0 : R * p = 0 ↔ R = 0 := ⟨fun h => by rcases Nat.mul_eq_zero.mp h with h | h <;> omega,fun h => by rw [h,Nat.zero_mul]⟩
 have f1 : Y * p < 2 * (R * p) ↔ Y < 2 * R := by
  rw [← Nat.mul_assoc]
  exact ⟨fun h => Nat.lt_of_mul_lt_mul_right h,fun h => Nat.mul_lt_mul_of_pos_right h hp⟩
 have f2 : 2 * (R * p) = Y * p ↔ 2 * R = Y := by
  rw [← Nat.mul_assoc]
  exact ⟨fun h => Nat.eq_of_mul_eq_mul_right hp h,fun h => by rw [h]⟩
 have m1 : ∀ odd,more way neg odd ((2 * (N * 2 ^ (s + j) / D) + if N * 2 ^ (s + j) % D = 0 then 0 else 1) % 2 ^ (k + j)) (2 ^ (k + j)) = more way neg odd ((2 * (N * 2 ^ s / D) + if N * 2 ^ s % D = 0 then 0 else 1) % 2 ^ k) (2 ^ k) := fun odd =>
  more_congr (b2.trans (f0.trans a2.symm)) (b3.trans (f1.trans a3.symm)) (b4.trans (f2.trans a4.symm))
 have z : decide ((2 * (N * 2 ^ (s + j) / D) + if N * 2 ^ (s + j) % D = 0 then 0 else 1) % 2 ^ (k + j) ≠ 0) = decide ((2 * (N * 2 ^ s / D) + if N * 2 ^ s % D = 0 then 0 else 1) % 2 ^ k ≠ 0) :=
  decide_eq_decide.mpr (not_congr (b2.trans (f0.trans a2.symm)))
 rw [b1,a1,m1,z]
theorem round_quo {N D s j bits : Nat} {least most : Int} {way : Nat} {neg : Bool} {E : Int} (hD : 0 < D) (h : 2 ^ (bits + 1) ≤ N * 2 ^ s / D) :
  Rd20.round bits least most way neg (quo N D (s + j)) (E - ((s + j : Nat) : Int) - 1) = Rd20.round bits least most way neg (quo N D s) (E - (s : Int) - 1) := by
 have h0 : N * 2 ^ s / D ≠ 0 := Nat.ne_of_gt (Nat.lt_of_lt_of_le (Nat.two_pow_pos _) h)
 refine round_congr (quo_top E h0) fun u hu => quo_units way neg E u hD ?_
 rw [quo_top E h0] at hu
 have hl : bits + 1 ≤ Nat.log2 (N * 2 ^ s / D) := (Nat.le_log2 h0).mpr h
 have ht : Rd20.top (quo N D s) (E - (s : Int) - 1) = ((Nat.log2 (N * 2 ^ s / D) + 1 : Nat) : Int) + (E - (s : Int) - 1) := by
  unfold Rd20.top quo
  rw [log2_two h0 (by split <;> omega)]
 rw [ht] at hu
 omega
theorem two_split {r σ k : Nat} (hs : σ ≤ 1) (hk : 1 ≤ k) : (2 * r + σ) / 2 ^ k = r / 2 ^ (k - 1) ∧ (2 * r + σ) % 2 ^ k = 2 * (r % 2 ^ (k - 1)) + σ := by
 have hk2 : 2 ^ k = 2 * 2 ^ (k - 1) := by rw [Nat.mul_comm,← Nat.pow_succ]; congr 1; omega
 have hp := Nat.two_pow_pos (k - 1)
 rw [hk2]
 generalize 2 ^ (k - 1) = K at *
 have hb := Nat.mod_lt r hp
 have hq := Nat.div_add_mod r K
 generalize r / K = a at *
 generalize r % K = b at *
 subst hq
 have h1 : 2 * (K * a + b) + σ = (2 * b + σ) + (2 * K) * a := by
  rw [Nat.mul_add,← Nat.mul_assoc 2 K a]
  omega
 rw [h1]
 refine ⟨?_,?_⟩
 ·rw [Nat.add_mul_div_left _ _ (by omega),Nat.div_eq_of_lt (by omega)]
  omega
 ·rw [Nat.add_mul_mod_self_left,Nat.mod_eq_of_lt (by omega)]
def rootE (n r : Nat) : Nat := 2 * r + (if r * r = n then 0 else 1)
theorem sq_shift {n r j r' : Nat} (a : IsRoot n r) (b : IsRoot (n * (2 ^ j * 2 ^ j)) r') : (r' * r' = n * (2 ^ j * 2 ^ j)) ↔ (r * r = n ∧ r' % 2 ^ j = 0) := by
 have hsh := a.shift b
 have hp := Nat.two_pow_pos j
 have hr' := Nat.div_add_mod r' (2 ^ j)
 rw [hsh] at hr'
 have sq : ∀ x y : Nat,x * y * (x * y) = y * y * (x * x) := fun x y => by rw [Nat.mul_comm x y,Nat.mul_assoc,Nat.mul_assoc,Nat.mul_left_comm x y x]
 constructor
 ·intro h
  have hd : 2 ^ j ∣ r' := by
   have h1 : (2 ^ j) ^ 2 ∣ r' ^ 2 := by
    rw [Nat.pow_two,Nat.pow_two,h]
    exact Nat.dvd_mul_left _ _
   exact (Nat.pow_dvd_pow_iff (by decide)).mp h1
  have hc : r' % 2 ^ j = 0 := Nat.mod_eq_zero_of_dvd hd
  rw [hc,Nat.add_zero] at hr'
  rw [← hr',sq] at h
  exact ⟨Nat.eq_of_mul_eq_mul_right (Nat.mul_pos hp hp) h,hc⟩
 ·rintro ⟨h1,h2⟩
  rw [h2,Nat.add_zero] at hr'
  rw [← hr',sq,h1]
theorem exact_shift {n r j r' : Nat} (h : r * r = n) (b : IsRoot (n * (2 ^ j * 2 ^ j)) r') : r' % 2 ^ j = 0 := by
 have sq : ∀ x y : Nat,x * y * (x * y) = y * y * (x * x) := fun x y => by rw [Nat.mul_comm x y,Nat.mul_assoc,Nat.mul_assoc,Nat.mul_left_comm x y x]
 have c : IsRoot (n * (2 ^ j * 2 ^ j)) (2 ^ j * r) := by
  have e : 2 ^ j * r * (2 ^ j * r) = n * (2 ^ j * 2 ^ j) := by rw [sq,h]
  refine ⟨Nat.le_of_eq e,?_⟩
  rw [← e]
  exact Nat.mul_lt_mul_of_lt_of_lt (Nat.lt_succ_self _) (Nat.lt_succ_self _)
 rw [b.uniq c]
 exact Nat.mul_mod_right _ _
theorem rootE_units {n r j r' : Nat} (way : Nat) (neg : Bool) (E u : Int) (a : IsRoot n r) (b : IsRoot (n * (2 ^ j * 2 ^ j)) r') (hu : E + 2 ≤ u) : units way neg (rootE (n * (2 ^ j * 2 ^ j)) r') (E - (j : Int)) u = units way neg (rootE n r) E u := by
 have hk : ∃ k : Nat,2 ≤ k ∧ (u - E).toNat = k ∧ (u - (E - (j : Int))).toNat = k + j := ⟨(u - E).toNat,by omega,rfl,by omega⟩
 obtain ⟨k,k2,ek,ek'⟩ := hk
 rw [units_cut (by omega),units_cut (by omega),ek,ek']
 unfold rootE
 have hsh := a.shift b
 have hsq := sq_shift a b
 have hex : r * r = n → r' % 2 ^ j = 0 := fun h => exact_shift h b
 have hp := Nat.two_pow_pos j
 have hc := Nat.mod_lt r' hp
 have hr' := Nat.div_add_mod r' (2 ^ j)
 rw [hsh] at hr'
 obtain ⟨x1,x2⟩ := two_split (r := r) (σ := if r * r = n then 0 else 1) (k := k) (by split <;> omega) (by omega)
 obtain ⟨y1,y2⟩ := two_split (r := r') (σ := if r' * r' = n * (2 ^ j * 2 ^ j) then 0 else 1) (k := k + j) (by split <;> omega) (by omega)
 have ek1 : 2 ^ (k + j - 1) = 2 ^ j * 2 ^ (k - 1) := by rw [← Nat.pow_add]; congr 1; omega
 obtain ⟨z1,z2⟩ := split_at r' (2 ^ j) (2 ^ (k - 1)) hp (Nat.two_pow_pos _)
 rw [hsh] at z1 z2
 rw [ek1,z1] at y1
 rw [ek1,z2] at y2
 have hk2 : 2 ^ k = 2 * 2 ^ (k - 1) := by rw [Nat.mul_comm,← Nat.pow_succ]; congr 1; omega
 have hk3 : 2 ^ (k + j) = 2 * (2 ^ (k - 1) * 2 ^ j) := by
  rw [← Nat.pow_add,Nat.mul_comm,← Nat.pow_succ]; congr 1; omega
 have hL : 2 ^ (k - 1) = 2 * 2 ^ (k - 2) := by rw [Nat.mul_comm,← Nat.pow_succ]; congr 1; omega
 have hLp := Nat.two_pow_pos (k - 2)
 have hb := Nat.mod_lt r (Nat.two_pow_pos (k - 1))
 rw [y1,x1,y2,x2]
 generalize r % 2 ^ (k - 1) = b0 at *
 generalize r' % 2 ^ j = c at *
 rw [hk2,hk3,hL]
 rw [hL] at hb
 generalize 2 ^ (k - 2) = L at *
 generalize 2 ^ j = p at *
 have mono : ∀ {x y : Nat},x < y → x * p + p ≤ y * p := fun {x y} h => by
  have := Nat.mul_le_mul_right p (Nat.succ_le_of_lt h)
  rw [Nat.succ_mul] at this
  exact this
 have hLL : 2 * L * p = 2 * (L * p) := Nat.mul_assoc 2 L p
 have tri : (b0 < L ∧ b0 * p + p ≤ L * p) ∨ (b0 = L ∧ b0 * p = L * p) ∨ (L < b0 ∧ L * p + p ≤ b0 * p) := by
  rcases Nat.lt_trichotomy b0 L with h | h | h
  ·exact .inl ⟨h,mono h⟩
  ·exact .inr (.inl ⟨h,by rw [h]⟩)
  ·exact .inr (.inr ⟨h,mono h⟩)
 have hz : b0 * p = 0 ↔ b0 = 0 := ⟨fun h => by rcases Nat.mul_eq_zero.mp h with h | h <;> omega,fun h => by rw [h,Nat.zero_mul]⟩
 rw [hLL]
 have hs : ((if r' * r' = n * (p * p) then 0 else 1) = 0 ∧ r * r = n ∧ c = 0) ∨ ((if r' * r' = n * (p * p) then 0 else 1) = 1 ∧ ¬ (r * r = n ∧ c = 0)) := by
  by_cases h : r' * r' = n * (p * p)
  ·exact .inl ⟨if_pos h,hsq.mp h⟩
  ·exact .inr ⟨if_neg h,fun z => h (hsq.mpr z)⟩
 generalize (if r' * r' = n * (p * p) then 0 else 1) = σ' at *
 have hs2 : ((if r * r = n then 0 else 1) = 0 ∧ r * r = n) ∨ ((if r * r = n then 0 else 1) = 1 ∧ ¬ r * r = n) := by
  by_cases h : r * r = n
  ·exact .inl ⟨if_pos h,h⟩
  ·exact .inr ⟨if_neg h,h⟩
 generalize (if r * r = n then 0 else 1) = σ at *
 generalize b0 * p = y at *
 generalize L * p = w at *
 generalize hQ : (r * r = n) = q0 at *
 have fact0 : (2 * (y + c) + σ' = 0 ↔ 2 * b0 + σ = 0) ∧ (2 * (2 * w) < 2 * (2 * (y + c) + σ') ↔ 2 * (2 * L) < 2 * (2 * b0 + σ)) ∧ (2 * (2 * (y + c) + σ') = 2 * (2 * w) ↔ 2 * (2 * b0 + σ) = 2 * (2 * L)) := by
  rcases hs with ⟨h1,h2,h3⟩ | ⟨h1,h2⟩
  ·rcases hs2 with ⟨g1,g2⟩ | ⟨g1,g2⟩
   ·rcases tri with ⟨t1,t2⟩ | ⟨t1,t2⟩ | ⟨t1,t2⟩ <;> refine ⟨?_,?_,?_⟩ <;> omega
   ·exact absurd h2 g2
  ·rcases hs2 with ⟨g1,g2⟩ | ⟨g1,g2⟩
   ·exact absurd ⟨g2,hex g2⟩ h2
   ·rcases tri with ⟨t1,t2⟩ | ⟨t1,t2⟩ | ⟨t1,t2⟩ <;> refine ⟨?_,?_,?_⟩ <;> omega
 obtain ⟨f0,f1,f2⟩ := fact0
 have m1 : ∀ odd,more way neg odd (2 * (y + c) + σ') (2 * (2 * w)) = more way neg odd (2 * b0 + σ) (2 * (2 * L)) := fun odd => more_congr f0 f1 f2
 have zz : decide (2 * (y + c) + σ' ≠ 0) = decide (2 * b0 + σ ≠ 0) := decide_eq_decide.mpr (not_congr f0)
 rw [m1,zz]
theorem round_root {n r j r' bits : Nat} {least most : Int} {way : Nat} {neg : Bool} {E : Int} (a : IsRoot n r) (b : IsRoot (n * (2 ^ j * 2 ^ j)) r') (h : 2 ^ (bits + 1) ≤ r) :
  Rd20.round bits least most way neg (rootE (n * (2 ^ j * 2 ^ j)) r') (E - (j : Int)) = Rd20.round bits least most way neg (rootE n r) E := by
 have h0 : r ≠ 0 := Nat.ne_of_gt (Nat.lt_of_lt_of_le (Nat.two_pow_pos _) h)
 have hsh := a.shift b
 have h1 : r' / 2 ^ j ≠ 0 := by rw [hsh]; exact h0
 have h2 : r' ≠ 0 := fun e => h1 (by rw [e,Nat.zero_div])
 have ht' : Rd20.top (rootE (n * (2 ^ j * 2 ^ j)) r') (E - (j : Int)) = ((Nat.log2 r + 1 : Nat) : Int) + E := by
  unfold Rd20.top rootE
  rw [log2_two h2 (by split <;> omega),log2_div h1,hsh]
  omega
 have ht : Rd20.top (rootE n r) E = ((Nat.log2 r + 1 : Nat) : Int) + E := by
  unfold Rd20.top rootE
  rw [log2_two h0 (by split <;> omega)]
 have hl : bits + 1 ≤ Nat.log2 r := (Nat.le_log2 h0).mpr h
 refine round_congr (ht'.trans ht.symm) fun u hu => rootE_units way neg E u a b ?_
 rw [ht'] at hu
 omega
end Rr
end
section
namespace Rr
theorem quo_any {N D s t bits : Nat} {least most : Int} {way : Nat} {neg : Bool} {E : Int} (hD : 0 < D) (hs : 2 ^ (bits + 1) ≤ N * 2 ^ s / D) (ht : 2 ^ (bits + 1) ≤ N * 2 ^ t / D) :
  Rd20.round bits least most way neg (quo N D s) (E - (s : Int) - 1) = Rd20.round bits least most way neg (quo N D t) (E - (t : Int) - 1) := by
 rcases Nat.le_total s t with h | h
 ·obtain ⟨j,rfl⟩ := Nat.le.dest h
  exact (round_quo hD hs).symm
 ·obtain ⟨j,rfl⟩ := Nat.le.dest h
  exact round_quo hD ht
theorem by_enough {m n bits : Nat} (hm : m ≠ 0) (hn : n ≠ 0) (hb : bits ≤ 64) : 2 ^ (bits + 1) ≤ m * 2 ^ (80 + Nat.log2 n + 1) / n := by
 rw [Nat.le_div_iff_mul_le (Nat.pos_of_ne_zero hn)]
 have h1 : 2 ^ (bits + 1) * n ≤ 2 ^ (bits + 1) * 2 ^ (Nat.log2 n + 1) := Nat.mul_le_mul_left _ (Nat.le_of_lt Nat.lt_log2_self)
 have h2 : 2 ^ (bits + 1) * 2 ^ (Nat.log2 n + 1) ≤ 2 ^ (80 + Nat.log2 n + 1) := by
  rw [← Nat.pow_add]
  exact Nat.pow_le_pow_right (by decide) (by omega)
 exact Nat.le_trans h1 (Nat.le_trans h2 (Nat.le_mul_of_pos_left _ (Nat.pos_of_ne_zero hm)))
theorem by_fin (a b : Bool) {m n : Nat} (e f : Int) (hn : n ≠ 0) : Rd20.by_ (.fin a m e) (.fin b n f) = (.fin (a != b) (quo m n (80 + Nat.log2 n + 1)) (e - f - ((80 + Nat.log2 n + 1 : Nat) : Int) - 1),0) := by
 unfold Rd20.by_ quo
 dsimp only
 rw [if_neg hn]
theorem root_any {m s t r r' bits : Nat} {least most : Int} {way : Nat} {neg : Bool} {e : Int} (a : IsRoot (m * 2 ^ s) r) (b : IsRoot (m * 2 ^ t) r') (hp : s % 2 = t % 2) (hs : 2 ^ (bits + 1) ≤ r) (ht : 2 ^ (bits + 1) ≤ r') (he : (e - (s : Int)) % 2 = 0) :
  Rd20.round bits least most way neg (rootE (m * 2 ^ s) r) ((e - (s : Int)) / 2 - 1) = Rd20.round bits least most way neg (rootE (m * 2 ^ t) r') ((e - (t : Int)) / 2 - 1) := by
 rcases Nat.le_total s t with h | h
 ·obtain ⟨j,hj⟩ : ∃ j,t = s + 2 * j := ⟨(t - s) / 2,by omega⟩
  subst hj
  have en : m * 2 ^ (s + 2 * j) = m * 2 ^ s * (2 ^ j * 2 ^ j) := by rw [← Nat.pow_add,Nat.mul_assoc,← Nat.pow_add]; congr 2; omega
  rw [en] at b ⊢
  have ee : (e - ((s + 2 * j : Nat) : Int)) / 2 - 1 = (e - (s : Int)) / 2 - 1 - (j : Int) := by omega
  rw [ee]
  exact (round_root a b hs).symm
 ·obtain ⟨j,hj⟩ : ∃ j,s = t + 2 * j := ⟨(s - t) / 2,by omega⟩
  subst hj
  have en : m * 2 ^ (t + 2 * j) = m * 2 ^ t * (2 ^ j * 2 ^ j) := by rw [← Nat.pow_add,Nat.mul_assoc,← Nat.pow_add]; congr 2; omega
  rw [en] at a ⊢
  have ee : (e - ((t + 2 * j : Nat) : Int)) / 2 - 1 = (e - (t : Int)) / 2 - 1 - (j : Int) := by omega
  rw [ee]
  exact round_root b a ht
theorem root_enough {m s bits r : Nat} (hm : m ≠ 0) (hs : 160 ≤ s) (hb : bits ≤ 64) (a : IsRoot (m * 2 ^ s) r) : 2 ^ (bits + 1) ≤ r := by
 rcases Nat.lt_or_ge r (2 ^ (bits + 1)) with h | h
 ·have h1 : (r + 1) * (r + 1) ≤ 2 ^ (bits + 1) * 2 ^ (bits + 1) := Nat.mul_le_mul h h
  rw [← Nat.pow_add] at h1
  have h2 : 2 ^ (bits + 1 + (bits + 1)) ≤ 2 ^ s := Nat.pow_le_pow_right (by decide) (by omega)
  have h3 : 2 ^ s ≤ m * 2 ^ s := Nat.le_mul_of_pos_left _ (Nat.pos_of_ne_zero hm)
  have h4 := a.2
  omega
 ·exact h
theorem root_fin {m : Nat} (e : Int) (h : m ≠ 0) : Rd20.root (.fin false m e) = (.fin false (rootE (m * 2 ^ (if e % 2 = 0 then 160 else 161)) (Rd20.rootFrom (m * 2 ^ (if e % 2 = 0 then 160 else 161)) (Nat.log2 (m * 2 ^ (if e % 2 = 0 then 160 else 161)) / 2 + 1) 0)) ((e - ((if e % 2 = 0 then 160 else 161 : Nat) : Int)) / 2 - 1),0) := by
 unfold Rd20.root rootE
 dsimp only
 rw [if_neg h,if_neg Bool.false_ne_true]
end Rr
end
section
namespace Rr
open PySem PySem.Spec PyProof.Rows L2
def tenE (zs : List Int) : Bool := decide (zs.length = 10) && zs.all fun z => Rd20.within z 0 255
def spTen (K : PySem.W.Frag) : Sp := fun vs H Q _ => ∃ (a : Addr) (zs : List Int),vs = [.ref a] ∧ H a = some (.lst (zs.map V.int)) ∧ zs.length ≤ 1000 ∧ ∀ H',Same H H' → Q (.bl (tenE zs)) H'
section
variable {P : Program} {w : World} {K : PySem.W.Frag} {mg : Str → Option Value} {base : Heap} {C CE0 CF CR : Addr}
theorem ok_ten (F : Src K mg "is_ten_bytes" s_is_ten_bytes ["row"]) (f_is_within : Fn P w K mg base "is_within" 1 ["n","low","high"] spWithin) (n_len : mg "len" = none) (n_all : mg "all" = none) (c_BYTES : Con1 mg "BYTES" (.int 10)) : Fn P w K mg base "is_ten_bytes" 2 ["row"] (spTen K) := by
 refine F.fn sc_is_ten_bytes (fun vs H Q E h => ?_) (fun f cdv A outer s H vs Q E hr h => ?_)
 ·obtain ⟨a,zs,rfl,_⟩ := h
  rfl
 ·obtain ⟨a,zs,rfl,ha,hl,k⟩ := h
  refine ⟨_,(pss_one (ps_ret (pe_and (pe_cmpR op_eq (pe_callB call_len_seq (by rfl) n_len b_len (pa_cons (pv 0) pa_nil)) (pe_c1 c_BYTES rfl) (nomark _)) (pe_one (pe_callB (cr_all rfl) (by rfl) n_all b_all (pa_cons (pe_lc (own := [("byte",1)]) rfl sc_is_ten_bytes.nd (pi_list (pv 0)) (show BlkOk ["row","byte"] (defScope s_is_ten_bytes) _ [("byte",1)] from ⟨rfl,by decide +kernel,by decide +kernel,by decide +kernel,by decide +kernel⟩) (fun _ _ _ _ _ => pg_name (i := 1) sc_is_ten_bytes.nd rfl (Or.inl rfl)) (fun _ _ _ _ _ => pts_nil) (fun _ _ _ _ _ => (pf f_is_within hr (pa_cons (pv 1) (pa_cons pe_int (pa_cons pe_int pa_nil)))))) pa_nil)))))),?_⟩
  unfold tenE at k
  refine ⟨_,rfl,a,_,rfl,.inl (SqL.of ha),rfl,_,rfl,?_⟩
  refine br2 (fun h => ?_) (fun h => ?_)
  ·have h1 : zs.length = 10 := by
    have := dV_iff.mp h
    rw [List.length_map] at this
    omega
   rw [decide_eq_true h1,Bool.true_and] at k
   refine ⟨_,rfl,a,rfl,⟨_,SqL.of ha⟩,fun D hD => ?_⟩
   refine lc_list (K := K) (a := a) (xs := zs.map V.int) (fun i H' => H' D = some (.lst (((zs.take i).map fun z => Rd20.within z 0 255).map V.bl)) ∧ Same H H') ⟨upd_same,same_new hD⟩ (fun i H' _ p => SqL.of (p.2 _ _ ha)) ?_ ?_
   ·rintro i x H' hx ⟨h1,h2⟩
    obtain ⟨z,hz,rfl⟩ : ∃ z,zs[i]? = some z ∧ x = V.int z := by
     rw [List.getElem?_map] at hx
     cases e : zs[i]? with
     | none => rw [e] at hx; cases hx
     | some z => rw [e] at hx; exact ⟨z,rfl,(Option.some.inj hx).symm⟩
    refine ⟨rfl,?_⟩
    simp only [tYes,if_true]
    refine ⟨_,rfl,z,0,255,rfl,_,h1,?_,?_,?_⟩
    ·rw [List.length_map,List.length_map,List.length_take]
     exact Nat.lt_of_le_of_lt (Nat.min_le_right _ _) (by show zs.length < 16777216; omega)
    ·rw [upd_same,take_snoc' hz,List.map_append,List.map_append]
     rfl
    ·intro b o e
     rw [upd_ne (ne_of_none e hD)]
     exact h2 b o e
   ·rintro H' ⟨h1,h2⟩
    rw [List.length_map,List.take_length] at h1
    refine ⟨D,_,rfl,SqL.of h1,?_⟩
    have e1 : (zs.map fun z => Rd20.within z 0 255).all id = zs.all fun z => Rd20.within z 0 255 := by rw [List.all_map]; rfl
    rw [e1]
    exact k H' h2
  ·have h1 : ¬ zs.length = 10 := by
    intro e
    rw [dV_t (by rw [List.length_map,e]; rfl)] at h
    cases h
   rw [decide_eq_false h1,Bool.false_and] at k
   exact k H fun _ _ e => e
def cWhole (zs : List Int) (q : Rd20.Call) : Prop := ∃ a,zs = [a] ∧ -(2 ^ 63) ≤ a ∧ a < 2 ^ 63 ∧ q = .whole a
theorem whole_eq {n : Int} (h : n.natAbs < 2 ^ 64) : numE (decide (n < 0)) n.natAbs 0 = Rd20.exact (Rd20.ofInt n) := by
 have hl : Nat.log2 n.natAbs ≤ 63 := by
  by_cases h0 : n.natAbs = 0
  ·rw [h0]; decide
  ·have := (Nat.log2_lt h0).mpr h; omega
 have ht : Rd20.top n.natAbs 0 = (Nat.log2 n.natAbs : Int) + 0 := rfl
 exact (exact_eq hl (by omega) (by omega)).symm
theorem exact80 (x : Rd20.Num) : Num80 (Rd20.exact x) ∧ Rd20.exact x ≠ EMn := made_num80 x (by decide) (by decide)
theorem p63 : -((2 : Int) ^ (63 : Int).toNat) = -(2 ^ 63) := rfl
theorem ok_call_whole (F : Src K mg "call_whole" s_call_whole ["ring","given"]) (f_is_within : Fn P w K mg base "is_within" 1 ["n","low","high"] spWithin) (f_pushed : Fn P w K mg base "pushed" 2 ["ring","number"] (spPushed C)) (f_number_of_whole : Fn P w K mg base "number_of_whole" 6 ["n"] spWhole)
  (c_BAD_ARGUMENT : Con1 mg "BAD_ARGUMENT" (.int (-2))) : Fn P w K mg base "call_whole" 7 ["ring","given"] (spCall C cWhole) := by
 refine F.fn sc_call_whole (fun vs H Q E h => ?_) (fun f cdv A outer s H vs Q E hr h => ?_)
 ·obtain ⟨r,g,l,s,zs,q,rfl,_⟩ := h
  rfl
 ·obtain ⟨r,g,l,st,zs,q,rfl,R,V0,hg,hgl,hq,k⟩ := h
  obtain ⟨a,rfl,h0,h1,rfl⟩ := hq
  refine ⟨_,(pss_cons (ps_set (i := 2) sc_call_whole.nd rfl (Or.inl rfl) (pe_ix ix_list (pv 1) pe_int (fun _ _ => rfl)))
    (pss_cons (ps_if (pt_not (pt_val (pf f_is_within hr (pa_cons (pv 2) (pa_cons (pe_un un_neg (pe_op op_pow pe_int pe_int)) (pa_cons (pe_op op_sub (pe_op op_pow pe_int pe_int) pe_int) pa_nil)))))) (pss_one (ps_ret (pe_lst (pa_cons (pe_c1 c_BAD_ARGUMENT rfl) pa_nil)))) pss_nil)
    (pss_one (ps_ret (pf f_pushed hr (pa_cons (pv 0) (pa_cons (pf f_number_of_whole hr (pa_cons (pv 2) pa_nil)) pa_nil))))))),?_⟩
  rw [does_whole] at k
  refine ⟨_,rfl,g,_,0,_,rfl,rfl,SqL.of hg,atI_nat (j := 0) rfl,?_⟩
  refine ⟨_,rfl,_,_,rfl,rfl,cp2 63 (by decide),_,rfl,_,_,rfl,rfl,cp2 63 (by decide),_,_,rfl,rfl,a,-(2 ^ 63),2 ^ 63 - 1,rfl,_,rfl,?_⟩
  have hw : Rd20.within a (-(2 ^ 63)) (2 ^ 63 - 1) = true := within_iff.mpr ⟨h0,by omega⟩
  refine br_f (by rw [hw]; rfl) ?_
  have hN : a.natAbs < 2 ^ 64 := by omega
  refine ⟨_,rfl,_,rfl,a,rfl,hN,fun H1 S1 => ?_⟩
  rw [whole_eq hN]
  have hx := exact80 (Rd20.ofInt a)
  exact ⟨r,l,st,_,rfl,R.same S1,V0,hx.1,hx.2,k.part (Keep.of_same R S1)⟩
def cLoad (zs : List Int) (q : Rd20.Call) : Prop := ∃ bs : List Nat,zs = 10 :: bs.map (fun b : Nat => (b : Int)) ∧ bs.length = 10 ∧ (∀ b ∈ bs,b < 256) ∧ q = .load bs
theorem from_of : ∀ (bs : List Nat) (j : Nat),((List.range bs.length).map fun k => bs.getD k 0 * 256 ^ (k + j)).sum = fromE bs * 256 ^ j
 | [],j => by
  show 0 = 0 * 256 ^ j
  rw [Nat.zero_mul]
 | b :: r,j => by
  have ih := from_of r (j + 1)
  rw [List.length_cons,List.range_succ_eq_map,List.map_cons,List.sum_cons,List.map_map]
  have e : ((fun k => (b :: r).getD k 0 * 256 ^ (k + j)) ∘ Nat.succ) = fun k => r.getD k 0 * 256 ^ (k + (j + 1)) := by
   funext k
   show (b :: r).getD (k + 1) 0 * 256 ^ (k + 1 + j) = _
   rw [List.getD_cons_succ]
   congr 2
   omega
  rw [e,ih]
  show b * 256 ^ (0 + j) + fromE r * 256 ^ (j + 1) = (fromE r * 256 + b) * 256 ^ j
  rw [Nat.zero_add,Nat.pow_succ,Nat.add_mul,Nat.mul_assoc,Nat.mul_comm (256 ^ j) 256]
  omega
theorem from_eq {bs : List Nat} (h : bs.length = 10) : fromE bs = Rd20.numberOf bs := by
 have e := from_of bs 0
 rw [Nat.pow_zero,Nat.mul_one,h] at e
 rw [← e]
 rfl
theorem well_eq {x : Nat} (h : x < 2 ^ 80) : wellE x = Rd20.right x := by
 unfold wellE Rd20.right
 rw [decide_eq_true h,Bool.true_and]
 by_cases h0 : Rd20.expOf x = 0
 ·rw [if_pos h0,h0]
  by_cases h1 : 2 ^ 63 ≤ Rd20.sizeOf x
  ·rw [decide_eq_true h1,decide_eq_false (Nat.not_lt.mpr h1)]; rfl
  ·rw [decide_eq_false h1,decide_eq_true (Nat.not_le.mp h1)]; rfl
 ·rw [if_neg h0,decide_eq_true (show 0 < Rd20.expOf x from Nat.pos_of_ne_zero h0)]
  by_cases h1 : 2 ^ 63 ≤ Rd20.sizeOf x
  ·rw [decide_eq_true h1]; rfl
  ·rw [decide_eq_false h1]; rfl
theorem kept_eq (x : Nat) : keptE x = Rd20.plain x := by
 unfold keptE Rd20.plain infE Rd20.worth
 by_cases h : Rd20.expOf x = 32767
 ·rw [decide_eq_true h,if_pos h,Bool.true_and,Bool.true_and]
  by_cases h1 : Rd20.sizeOf x = 2 ^ 63
  ·rw [decide_eq_true h1,if_pos h1,if_neg (by exact fun z => nomatch z),if_neg (by exact fun z => nomatch z)]
  ·rw [decide_eq_false h1,if_neg h1,if_pos rfl,NONE_eq]; rfl
 ·rw [decide_eq_false h,if_neg h,Bool.false_and,if_neg Bool.false_ne_true,if_neg (by exact fun z => nomatch z)]
theorem EM_right : Rd20.right EMn = false := by decide +kernel
theorem plain80 {x : Nat} (h : x < 2 ^ 80) (hr : Rd20.right x = true) : Num80 (Rd20.plain x) ∧ Rd20.plain x ≠ EMn := by
 unfold Rd20.plain
 by_cases hw : Rd20.worth x = .nan
 ·rw [if_pos hw]; exact num80_NONE
 ·rw [if_neg hw]
  refine ⟨⟨h,hr,if_neg hw⟩,fun e => ?_⟩
  rw [e,EM_right] at hr
  cases hr
theorem cut1 (a : Int) (zs : List Int) : cutV ((a :: zs).map V.int) (some 1) none = zs.map V.int := by
 unfold cutV
 have e1 : HT.sIx ((a :: zs).map V.int).length 0 (some 1) = 1 := by
  rw [List.length_map,List.length_cons]
  show min 1 (zs.length + 1) = 1
  omega
 have e2 : HT.sIx ((a :: zs).map V.int).length ((a :: zs).map V.int).length none = zs.length + 1 := by
  rw [List.length_map,List.length_cons]
  rfl
 rw [e1,e2]
 show (zs.map V.int).take (zs.length + 1 - 1) = zs.map V.int
 exact List.take_of_length_le (by rw [List.length_map]; omega)
theorem ok_call_load (F : Src K mg "call_load" s_call_load ["ring","given"]) (f_is_ten_bytes : Fn P w K mg base "is_ten_bytes" 2 ["row"] (spTen K)) (f_from_row : Fn P w K mg base "from_row" 1 ["row"] (spFrom K)) (f_is_well_formed : Fn P w K mg base "is_well_formed" 2 ["number"] (spNat fun x => .bl (wellE x)))
  (f_as_kept : Fn P w K mg base "as_kept" 3 ["number"] (spNat fun x => .int (keptE x))) (f_pushed : Fn P w K mg base "pushed" 2 ["ring","number"] (spPushed C)) (c_BAD_ARGUMENT : Con1 mg "BAD_ARGUMENT" (.int (-2))) (c_BAD_NUMBER : Con1 mg "BAD_NUMBER" (.int (-3))) :
  Fn P w K mg base "call_load" 4 ["ring","given"] (spCall C cLoad) := by
 refine F.fn sc_call_load (fun vs H Q E h => ?_) (fun f cdv A outer s H vs Q E hr h => ?_)
 ·obtain ⟨r,g,l,s,zs,q,rfl,_⟩ := h
  rfl
 ·obtain ⟨r,g,l,st,zs,q,rfl,R,V0,hg,hgl,hq,k⟩ := h
  obtain ⟨bs,rfl,hl,hb,rfl⟩ := hq
  refine ⟨_,(pss_cons (ps_set (i := 2) sc_call_load.nd rfl (Or.inl rfl) (pe_slice sl_list (pv 1) (po_some pe_int) po_none))
    (pss_cons (ps_if (pt_not (pt_val (pf f_is_ten_bytes hr (pa_cons (pv 2) pa_nil)))) (pss_one (ps_ret (pe_lst (pa_cons (pe_c1 c_BAD_ARGUMENT rfl) pa_nil)))) pss_nil)
    (pss_cons (ps_set (i := 3) sc_call_load.nd rfl (Or.inl rfl) (pf f_from_row hr (pa_cons (pv 2) pa_nil)))
    (pss_cons (ps_if (pt_not (pt_val (pf f_is_well_formed hr (pa_cons (pv 3) pa_nil)))) (pss_one (ps_ret (pe_lst (pa_cons (pe_c1 c_BAD_NUMBER rfl) pa_nil)))) pss_nil)
    (pss_one (ps_ret (pf f_pushed hr (pa_cons (pv 0) (pa_cons (pf f_as_kept hr (pa_cons (pv 3) pa_nil)) pa_nil))))))))),?_⟩
  rw [does_load,← from_eq hl] at k
  have hlt : fromE bs < 2 ^ 80 := by
   have := fromE_lt bs hb
   rw [hl] at this
   exact this
  refine ⟨_,rfl,1,rfl,g,_,rfl,SqL.of hg,fun p n => ?_⟩
  rw [cut1]
  have S1 : Same H (upd H p (.lst ((bs.map fun b : Nat => (b : Int)).map V.int))) := same_new n
  have R1 := R.same S1
  have hten : tenE (bs.map fun b : Nat => (b : Int)) = true := by
   unfold tenE
   rw [List.length_map,decide_eq_true hl,Bool.true_and,List.all_map,List.all_eq_true]
   intro b hbm
   have := hb b hbm
   exact within_iff.mpr ⟨by show (0 : Int) ≤ (b : Int); omega,by show (b : Int) ≤ 255; omega⟩
  refine ⟨_,rfl,p,_,rfl,upd_same,(by rw [List.length_map,hl]; decide),fun H2 S2 => ⟨_,rfl,?_⟩⟩
  refine br_f (by rw [hten]; rfl) ?_
  have R2 := R1.same S2
  have K2 := Keep.of_same R (S1.trans S2)
  have hp : SqL K H2 p (bs.map fun b => V.int (b : Nat)) := by
   have : H2 p = some (.lst ((bs.map fun b : Nat => (b : Int)).map V.int)) := S2 _ _ upd_same
   rw [List.map_map] at this
   exact SqL.of this
  refine ⟨_,rfl,p,bs,rfl,hp,hb,by omega,?_⟩
  refine ⟨_,rfl,fromE bs,rfl,hlt,_,rfl,?_⟩
  rw [well_eq hlt]
  refine br2 (fun h => ?_) (fun h => ?_)
  ·have h1 : Rd20.right (fromE bs) = false := by simpa using h
   rw [if_pos h1] at k
   exact ⟨by show 1 ≤ 16777216; decide,k.fin R2 V0 K2 rfl rfl⟩
  ·have h1 : Rd20.right (fromE bs) = true := by simpa using h
   rw [if_neg (by rw [h1]; exact fun z => nomatch z)] at k
   refine ⟨_,rfl,_,rfl,fromE bs,rfl,hlt,?_⟩
   dsimp only
   rw [kept_eq]
   have hx := plain80 hlt h1
   exact ⟨r,l,st,_,rfl,R2,V0,hx.1,hx.2,k.part K2⟩
end
theorem does_told (s : Rd20.Abs) : Rd20.does s .told = (s,{ value := 0,out := [s.way,s.length,s.flags] ++ s.regs.flatMap fun r => Rd20.bytes 10 (r.getD Rd20.EMPTY) }) := rfl
theorem opt_getD (x : Nat) : (optE x).getD Rd20.EMPTY = x := by
 unfold optE
 by_cases h : x = EMn
 ·rw [if_pos h,h]; rfl
 ·rw [if_neg h]; rfl
theorem told_regs (s : RS) : ((absE s).regs.flatMap fun r => Rd20.bytes 10 (r.getD Rd20.EMPTY)) = s.regs.flatMap (Rd20.bytes 10) := by
 show (s.regs.map optE).flatMap _ = _
 rw [List.flatMap_map]
 congr 1
 funext x
 rw [opt_getD]
theorem bytes_len (x : Nat) : (Rd20.bytes 10 x).length = 10 := by unfold Rd20.bytes; rw [List.length_map,List.length_range]
theorem flat_len : ∀ l : List Nat,(l.flatMap (Rd20.bytes 10)).length = 10 * l.length
 | [] => rfl
 | x :: r => by
  rw [List.flatMap_cons,List.length_append,bytes_len,flat_len r,List.length_cons]
  omega
section
variable {P : Program} {w : World} {K : PySem.W.Frag} {mg : Str → Option Value} {base : Heap} {C CE0 CF CR : Addr}
theorem ok_call_told (F : Src K mg "call_told" s_call_told ["ring","given"]) (T : CG K C) (f_to_row : Fn P w K mg base "to_row" 1 ["number"] spTo) (c_DONE : Con1 mg "DONE" (.int 0)) : Fn P w K mg base "call_told" 2 ["ring","given"] (spCall C fun zs q => q = .told) := by
 refine F.fn sc_call_told (fun vs H Q E h => ?_) (fun f cdv A outer s H vs Q E hr h => ?_)
 ·obtain ⟨r,g,l,s,zs,q,rfl,_⟩ := h
  rfl
 ·obtain ⟨r,g,l,st,zs,q,rfl,R,V0,hg,hgl,rfl,k⟩ := h
  obtain ⟨dx,hr'⟩ := R.ob
  refine ⟨_,(pss_cons (ps_set (i := 2) sc_call_told.nd rfl (Or.inl rfl) (pe_lst (pa_cons (pe_c1 c_DONE rfl) (pa_cons (pe_fld (pv 0) rfl) (pa_cons (pe_fld (pv 0) rfl) (pa_cons (pe_fld (pv 0) rfl) pa_nil))))))
    (pss_cons (ps_for PassesOwn.never rfl (pi_list (pe_fld (pv 0) rfl)) (pg_name (i := 3) sc_call_told.nd rfl (Or.inl rfl)) (pss_one (ps_expr (pe_bm PySem.F.plainAttrs_list PySem.F.slot_list_extend PySem.F.type_list_extend mt_extend (pv 2) (pa_cons (pf f_to_row hr (pa_cons (pv 3) pa_nil)) pa_nil)))))
    (pss_one (ps_ret (pv 2))))),?_⟩
  rw [does_told,told_regs] at k
  refine ⟨_,rfl,r,C,dx,_,_,rfl,hr',T.cl,T.nW,fG_w _ _ _ _,_,rfl,r,C,dx,_,_,rfl,hr',T.cl,T.nL,fG_l _ _ _ _,_,rfl,r,C,dx,_,_,rfl,hr',T.cl,T.nF,fG_f _ _ _ _,(by show 4 ≤ 16777216; decide),fun p n => ?_⟩
  have S1 : Same H (upd H p (.lst (vNs [0,st.way,st.len,st.flags]))) := same_new n
  have hpl : p ≠ l := Ne.symm (ne_of_none R.ls n)
  refine ⟨_,rfl,r,C,dx,_,_,rfl,S1 _ _ hr',T.cl,T.nR,fG_r _ _ _ _,l,rfl,⟨_,SqL.of (S1 _ _ R.ls)⟩,for_list (K := K) (a := l) (xs := vNs st.regs) (fun i σ H' => ∃ v,σ = [some (.ref r),some (.ref g),some (.ref p),v] ∧ H' p = some (.lst (vNs ([0,st.way,st.len,st.flags] ++ (st.regs.take i).flatMap (Rd20.bytes 10)))) ∧ Same H H')
   ⟨none,rfl,upd_same,S1⟩ (fun i σ H' _ ⟨_,_,_,s1⟩ => SqL.of (s1 _ _ R.ls)) ?_ ?_⟩
  ·rintro i y σ H' hi ⟨v,rfl,h1,s1⟩
   obtain ⟨x,hx,rfl⟩ : ∃ x,st.regs[i]? = some x ∧ y = vN x := by
    rw [List.getElem?_map] at hi
    cases e : st.regs[i]? with
    | none => rw [e] at hi; cases hi
    | some z => rw [e] at hi; exact ⟨z,rfl,(Option.some.inj hi).symm⟩
   have hil : i < st.regs.length := (List.getElem?_eq_some_iff.mp hx).1
   rw [V0.n8] at hil
   refine ⟨_,rfl,.inl ⟨rfl,_,SqL.of h1⟩,_,rfl,x,rfl,fun b H2 s2 n2 h2 => ?_⟩
   refine ⟨p,b,_,_,rfl,rfl,s2 _ _ h1,h2,?_,?_⟩
   ·rw [List.length_map,List.length_map,List.length_append,flat_len,bytes_len,List.length_take]
    show 4 + 10 * min i st.regs.length + 10 ≤ 16777216
    omega
   ·refine ⟨_,rfl,?_,fun c o e => by rw [upd_ne (ne_of_none e n)]; exact s2 _ _ (s1 c o e)⟩
    rw [upd_same,take_snoc' hx]
    simp only [vNs,List.flatMap_append,List.flatMap_cons,List.flatMap_nil,List.append_nil,List.map_append,List.append_assoc]
  ·rintro σ H' ⟨v,rfl,h1,s1⟩
   rw [List.length_map,List.take_length] at h1
   refine ⟨_,rfl,?_⟩
   refine k H' l p st (R.same s1) V0 rfl (Keep.of_same R s1) n hpl ?_
   rw [h1]
   unfold ansV
   simp only [vNs,List.map_append,List.map_cons,List.map_nil,List.cons_append,List.nil_append]
   rfl
def cDouble (zs : List Int) (q : Rd20.Call) : Prop := ∃ b : Nat,zs = [(b : Int)] ∧ b < 2 ^ 64 ∧ q = .double b
theorem log_le {m k : Nat} (h : m < 2 ^ (k + 1)) : Nat.log2 m ≤ k := by
 by_cases h0 : m = 0
 ·rw [h0]; exact Nat.zero_le _
 ·have := (Nat.log2_lt h0).mpr h; omega
theorem dnum_eq {b : Nat} (h : b < 2 ^ 64) : dNumE b = Rd20.exact (Rd20.doubleWorth b) := by
 unfold dNumE Rd20.doubleWorth
 dsimp only
 have hF : dFrac b < 2 ^ 52 := Nat.mod_lt _ (by decide)
 have hE : dExp b < 2048 := Nat.mod_lt _ (by decide)
 show _ = Rd20.exact (if dExp b = 2047 then if dFrac b = 0 then Rd20.Num.inf (decide (2 ^ 63 ≤ b)) else Rd20.Num.nan else if dExp b = 0 then Rd20.Num.fin (decide (2 ^ 63 ≤ b)) (dFrac b) (-1074) else Rd20.Num.fin (decide (2 ^ 63 ≤ b)) (dFrac b + 2 ^ 52) ((dExp b : Int) - 1075))
 by_cases h1 : dExp b = 2047
 ·rw [if_pos h1,if_pos h1]
  by_cases h2 : dFrac b = 0
  ·rw [if_pos h2,if_pos h2]
   cases decide (2 ^ 63 ≤ b) <;> decide +kernel
  ·rw [if_neg h2,if_neg h2]
   exact NONE_eq.symm
 ·rw [if_neg h1,if_neg h1]
  by_cases h2 : dExp b = 0
  ·rw [if_pos h2,if_pos h2]
   have hl : Nat.log2 (dFrac b) ≤ 51 := log_le hF
   have ht : Rd20.top (dFrac b) (-1074) = (Nat.log2 (dFrac b) : Int) + -1074 := rfl
   exact (exact_eq (by omega) (by omega) (by omega)).symm
  ·rw [if_neg h2,if_neg h2]
   have hl : Nat.log2 (dFrac b + 2 ^ 52) ≤ 52 := log_le (by omega)
   have ht : Rd20.top (dFrac b + 2 ^ 52) ((dExp b : Int) - 1075) = (Nat.log2 (dFrac b + 2 ^ 52) : Int) + ((dExp b : Int) - 1075) := rfl
   exact (exact_eq (by omega) (by omega) (by omega)).symm
theorem dsmall_eq (b : Nat) : (if b / 2 ^ 52 % 2048 = 0 ∧ b % 2 ^ 52 ≠ 0 then 2 else 0) = (if dSmall b = true then 2 else 0) := by
 unfold dSmall
 have e : (b / 2 ^ 52 % 2048 = 0 ∧ b % 2 ^ 52 ≠ 0) ↔ (decide (dExp b = 0) && decide (0 < dFrac b)) = true := by
  rw [Bool.and_eq_true,decide_eq_true_iff,decide_eq_true_iff]
  unfold dExp dFrac
  omega
 by_cases h : (b / 2 ^ 52 % 2048 = 0 ∧ b % 2 ^ 52 ≠ 0)
 ·rw [if_pos h,if_pos (e.mp h)]
 ·rw [if_neg h,if_neg (fun z => h (e.mpr z))]
theorem ok_call_double (F : Src K mg "call_double" s_call_double ["ring","given"]) (T : CG K C) (f_is_within : Fn P w K mg base "is_within" 1 ["n","low","high"] spWithin) (f_pushed : Fn P w K mg base "pushed" 2 ["ring","number"] (spPushed C)) (f_number_of_double : Fn P w K mg base "number_of_double" 6 ["bits"] spNumDouble)
  (f_is_small_double : Fn P w K mg base "is_small_double" 2 ["bits"] (spBits fun b => .bl (dSmall b))) (m_Ring_set_flags : Mtd P w K mg base C "set_flags" 1 ["self","flags"] (spSetFlags C)) (c_BAD_ARGUMENT : Con1 mg "BAD_ARGUMENT" (.int (-2))) (c_DONE : Con1 mg "DONE" (.int 0)) (c_SMALL_TAKEN : Con1 mg "SMALL_TAKEN" (.int 2)) :
  Fn P w K mg base "call_double" 7 ["ring","given"] (spCall C cDouble) := by
 have cl_Ring := T.cl
 refine F.fn sc_call_double (fun vs H Q E h => ?_) (fun f cdv A outer s H vs Q E hr h => ?_)
 ·obtain ⟨r,g,l,s,zs,q,rfl,_⟩ := h
  rfl
 ·obtain ⟨r,g,l,st,zs,q,rfl,R,V0,hg,hgl,hq,k⟩ := h
  obtain ⟨b,rfl,hb,rfl⟩ := hq
  have hu := hr.units
  refine ⟨_,(pss_cons (ps_set (i := 2) sc_call_double.nd rfl (Or.inl rfl) (pe_ix ix_list (pv 1) pe_int (fun _ _ => rfl)))
    (pss_cons (ps_if (pt_not (pt_val (pf f_is_within hr (pa_cons (pv 2) (pa_cons pe_int (pa_cons (pe_op op_sub (pe_op op_pow pe_int pe_int) pe_int) pa_nil)))))) (pss_one (ps_ret (pe_lst (pa_cons (pe_c1 c_BAD_ARGUMENT rfl) pa_nil)))) pss_nil)
    (pss_cons (ps_set (i := 3) sc_call_double.nd rfl (Or.inl rfl) (pf f_pushed hr (pa_cons (pv 0) (pa_cons (pf f_number_of_double hr (pa_cons (pv 2) pa_nil)) pa_nil))))
    (pss_cons (ps_if (PW.pt (pw_and (pt_cmpR (op_eqD hu) (pv 3) (pe_lst (pa_cons (pe_c1 c_DONE rfl) pa_nil)) (nomark _)) (pw_and1 (pt_val (pf f_is_small_double hr (pa_cons (pv 2) pa_nil)))))) (pss_one (ps_expr (pe_mt (pv 0) cl_Ring m_Ring_set_flags (hr.mono (by decide)) (pa_cons (pe_c1 c_SMALL_TAKEN rfl) pa_nil)))) pss_nil)
    (pss_one (ps_ret (pv 3))))))),?_⟩
  rw [does_double,dsmall_eq] at k
  refine ⟨_,rfl,g,_,0,_,rfl,rfl,SqL.of hg,atI_nat (j := 0) rfl,?_⟩
  refine ⟨_,rfl,_,_,rfl,rfl,cp2 64 (by decide),_,_,rfl,rfl,(b : Int),0,2 ^ 64 - 1,rfl,_,rfl,?_⟩
  have hw : Rd20.within (b : Int) 0 (2 ^ 64 - 1) = true := within_iff.mpr ⟨by omega,by omega⟩
  refine br_f (by rw [hw]; rfl) ?_
  refine ⟨_,rfl,_,rfl,b,rfl,hb,fun H1 S1 => ?_⟩
  rw [dnum_eq hb]
  have hx := exact80 (Rd20.doubleWorth b)
  have R1 := R.same S1
  have K1 := Keep.of_same R S1
  refine ⟨r,l,st,_,rfl,R1,V0,hx.1,hx.2,fun H2 l2 p s2 R2 V2 e2 K2 n2 hpl hp => ?_⟩
  obtain ⟨dx2,hr2⟩ := R2.ob
  unfold Rd20.pushed at e2 hp
  by_cases hf : Rd20.full (absE st) = true
  ·rw [if_pos hf] at k e2 hp
   refine ⟨_,rfl,(by show 1 ≤ 16777216; decide),fun q nq => ?_⟩
   have hp' : upd H2 q (.lst [.int 0]) p = some (.lst [.int (-5)]) := by rw [upd_ne (ne_of_none hp nq)]; exact hp
   refine ⟨.list [.int (-5)],.list [.int 0],.lst (SqL.of hp') (.cons (.int _) .nil),.lst (SqL.of upd_same) (.cons (.int _) .nil),by decide +kernel,by decide +kernel,_,rfl,?_⟩
   refine br_f (by decide +kernel) ?_
   refine br_f rfl ?_
   have S3 : Same H2 (upd H2 q (.lst [.int 0])) := same_new nq
   exact ⟨_,rfl,k _ l2 p s2 (R2.same S3) V2 e2 ((K1.trans K2).trans (Keep.of_same R2 S3)) (K1.free n2) hpl hp'⟩
  ·rw [if_neg hf] at k e2 hp
   refine ⟨_,rfl,(by show 1 ≤ 16777216; decide),fun q nq => ?_⟩
   have hp' : upd H2 q (.lst [.int 0]) p = some (.lst [.int 0]) := by rw [upd_ne (ne_of_none hp nq)]; exact hp
   refine ⟨.list [.int 0],.list [.int 0],.lst (SqL.of hp') (.cons (.int _) .nil),.lst (SqL.of upd_same) (.cons (.int _) .nil),by decide +kernel,by decide +kernel,_,rfl,?_⟩
   have S3 : Same H2 (upd H2 q (.lst [.int 0])) := same_new nq
   have R3 := R2.same S3
   have K3 := (K1.trans K2).trans (Keep.of_same R2 S3)
   refine br_t (by decide +kernel) ?_
   refine ⟨_,rfl,b,rfl,hb,_,rfl,?_⟩
   refine br2 (fun h => ?_) (fun h => ?_)
   ·rw [show dSmall b = true from h,if_pos rfl] at k
    refine ⟨_,rfl,r,dx2,_,rfl,S3 _ _ hr2,rfl,r,l2,s2,2,rfl,R3,fun H4 R4 K4 => ?_⟩
    refine ⟨_,rfl,k H4 l2 p _ R4 (V2.flags _) ?_ (K3.trans K4) (K1.free n2) hpl ?_⟩
    ·rw [abs_flag,e2]
    ·exact K4.keep p _ hp' (fun e => by rw [e] at n2; exact (K1.ring) n2) hpl
   ·rw [show dSmall b = false from h,if_neg Bool.false_ne_true] at k
    refine ⟨_,rfl,k _ l2 p s2 R3 V2 ?_ K3 (K1.free n2) hpl hp'⟩
    rw [e2]
    unfold Rd20.flag
    simp
end
theorem does_int (s : Rd20.Abs) (w : Int) : Rd20.does s (.int w) = if Rd20.within w 0 4 = false then (s,Rd20.just (-2)) else Rd20.of1 s fun x =>
  match Rd20.worth x with
  | .fin neg m e => if 64 < e then (Rd20.flag (Rd20.pop s) 1,{ value := 0,out := [2 ^ 63] }) else
   if (Rd20.wholeOf (if w = 4 then s.way else w.toNat) neg m e).1 < -(2 ^ 63) ∨ 2 ^ 63 ≤ (Rd20.wholeOf (if w = 4 then s.way else w.toNat) neg m e).1 then (Rd20.flag (Rd20.pop s) 1,{ value := 0,out := [2 ^ 63] })
   else (Rd20.flag (Rd20.pop s) (if (Rd20.wholeOf (if w = 4 then s.way else w.toNat) neg m e).2 = true then 32 else 0),{ value := 0,out := [((Rd20.wholeOf (if w = 4 then s.way else w.toNat) neg m e).1 % 2 ^ 64).toNat] })
  | _ => (Rd20.flag (Rd20.pop s) 1,{ value := 0,out := [2 ^ 63] }) := rfl
def intP (e n : Int) (c : Bool) : Nat × Int := if 64 < e then (1,-(2 ^ 63)) else if n < -(2 ^ 63) ∨ 2 ^ 63 ≤ n then (1,-(2 ^ 63)) else (if c = true then 32 else 0,n)
def intE (way x : Nat) : Nat × Int := match Rd20.worth x with
 | .fin neg m e => intP e (Rd20.wholeOf way neg m e).1 (Rd20.wholeOf way neg m e).2
 | _ => (1,-(2 ^ 63))
theorem does_int2 (s : Rd20.Abs) (w : Int) : Rd20.does s (.int w) = if Rd20.within w 0 4 = false then (s,Rd20.just (-2)) else Rd20.of1 s fun x =>
  (Rd20.flag (Rd20.pop s) (intE (if w = 4 then s.way else w.toNat) x).1,{ value := 0,out := [((intE (if w = 4 then s.way else w.toNat) x).2 % 2 ^ 64).toNat] }) := by
 rw [does_int]
 congr 2
 funext x
 unfold intE
 cases Rd20.worth x with
 | nan => rfl
 | inf neg => rfl
 | fin neg m e =>
  dsimp only
  unfold intP
  by_cases h1 : 64 < e
  ·rw [if_pos h1,if_pos h1]; rfl
  ·rw [if_neg h1,if_neg h1]
   by_cases h2 : (Rd20.wholeOf (if w = 4 then s.way else w.toNat) neg m e).1 < -(2 ^ 63) ∨ 2 ^ 63 ≤ (Rd20.wholeOf (if w = 4 then s.way else w.toNat) neg m e).1
   ·rw [if_pos h2,if_pos h2]; rfl
   ·rw [if_neg h2,if_neg h2]
theorem worth_fin {x : Nat} (h : ¬ Rd20.expOf x = 32767) : Rd20.worth x = .fin (Rd20.signOf x) (Rd20.sizeOf x) (powE x) := by
 unfold Rd20.worth powE
 rw [if_neg h]
theorem worth_inf {x : Nat} (h : infE x = true) : Rd20.worth x = .inf (Rd20.signOf x) := by
 unfold infE at h
 rw [Bool.and_eq_true,decide_eq_true_iff,decide_eq_true_iff] at h
 unfold Rd20.worth
 rw [if_pos h.1,if_pos h.2]
theorem worth_nan {x : Nat} (hx : Num80 x) : Rd20.worth x = .nan ↔ x = NONEn := by
 constructor
 ·intro h
  have := hx.2.2
  unfold Rd20.plain at this
  rw [if_pos h,NONE_eq] at this
  exact this.symm
 ·intro h
  rw [h]
  decide +kernel
theorem fin_of {x : Nat} (hx : Num80 x) (h1 : x ≠ NONEn) (h2 : infE x = false) : ¬ Rd20.expOf x = 32767 := by
 intro h
 apply h1
 refine (worth_nan hx).mp ?_
 unfold Rd20.worth
 rw [if_pos h]
 unfold infE at h2
 rw [decide_eq_true h,Bool.true_and] at h2
 rw [if_neg (of_decide_eq_false h2)]
theorem intE_fin {x : Nat} (h : ¬ Rd20.expOf x = 32767) (way : Nat) : intE way x = intP (powE x) (if Rd20.signOf x = true then -((Rd20.units way (Rd20.signOf x) (Rd20.sizeOf x) (powE x) 0).1 : Int) else ((Rd20.units way (Rd20.signOf x) (Rd20.sizeOf x) (powE x) 0).1 : Int)) (Rd20.units way (Rd20.signOf x) (Rd20.sizeOf x) (powE x) 0).2 := by
 unfold intE
 rw [worth_fin h]
 rfl
theorem pow_bounds {x : Nat} (h : ¬ Rd20.expOf x = 32767) : -16445 ≤ powE x ∧ powE x ≤ 16320 := by
 have := expOf_lt x
 unfold powE
 split <;> omega
theorem size_big {x : Nat} (hx : Num80 x) (h : 0 < powE x) : 2 ^ 63 ≤ Rd20.sizeOf x := by
 have h1 := hx.2.1
 unfold Rd20.right at h1
 rw [decide_eq_true hx.1,Bool.true_and] at h1
 by_cases h0 : Rd20.expOf x = 0
 ·unfold powE at h
  rw [if_pos h0] at h
  omega
 ·rw [if_neg h0] at h1
  exact of_decide_eq_true h1
theorem upre0 {x : Nat} (h : ¬ Rd20.expOf x = 32767) : UPre (Rd20.sizeOf x) (powE x) 0 := by
 have hs := sizeOf_lt x
 have hp := pow_bounds h
 refine ⟨⟨64,by decide,hs⟩,by omega,by omega,by decide,by decide,?_⟩
 by_cases h0 : 0 ≤ powE x
 ·exact .inl h0
 ·right
  have a := Nat.two_pow_pos (0 - powE x).toNat
  have b : 2 ^ 64 ≤ 2 ^ 4000 := Nat.pow_le_pow_right (by decide) (by decide)
  calc Rd20.sizeOf x < 2 ^ 64 := hs
   _ ≤ 2 ^ 4000 := b
   _ ≤ 2 ^ (0 - powE x).toNat * 2 ^ 4000 := Nat.le_mul_of_pos_left _ a
theorem wide0 {x : Nat} (h : ¬ Rd20.expOf x = 32767) (way : Nat) : Wide (Rd20.units way (Rd20.signOf x) (Rd20.sizeOf x) (powE x) 0).1 := by
 have hs := sizeOf_lt x
 have hp := pow_bounds h
 have h1 := units_le way (Rd20.signOf x) (Rd20.sizeOf x) (powE x) 0
 refine ⟨20000,by decide,Nat.lt_of_le_of_lt h1 ?_⟩
 have h2 : Rd20.sizeOf x * 2 ^ (powE x - 0).toNat < 2 ^ 64 * 2 ^ 16320 := Nat.lt_of_lt_of_le (Nat.mul_lt_mul_of_pos_right hs (Nat.two_pow_pos _)) (Nat.mul_le_mul_left _ (Nat.pow_le_pow_right (by decide) (by omega)))
 rw [← Nat.pow_add] at h2
 have h3 : 2 ^ (64 + 16320) ≤ 2 ^ 19999 := Nat.pow_le_pow_right (by decide) (by decide)
 have h4 : 2 ^ 20000 = 2 ^ 19999 * 2 := by rw [← Nat.pow_succ]
 have h5 := Nat.two_pow_pos 19999
 omega
def spNothing (C : Addr) : Sp := fun vs H Q _ => ∃ r l s,vs = [.ref r] ∧ RingAt C H r l s ∧ ∀ H',RingAt C H' r l { s with flags := s.flags ||| 1 } → Keep H H' r l l → Q (.int (-(2 ^ 63))) H'
def spWholeFrom (C : Addr) : Sp := fun vs H Q _ => ∃ r l s x way,vs = [.ref r,vN x,vN way] ∧ RingAt C H r l s ∧ Num80 x ∧ ∀ H',RingAt C H' r l { s with flags := s.flags ||| (intE way x).1 } → Keep H H' r l l → Q (.int (intE way x).2) H'
section
variable {P : Program} {w : World} {K : PySem.W.Frag} {mg : Str → Option Value} {base : Heap} {C CE0 CF CR : Addr}
theorem ok_nothing (F : Src K mg "nothing_whole" s_nothing_whole ["ring"]) (T : CG K C) (m_Ring_set_flags : Mtd P w K mg base C "set_flags" 1 ["self","flags"] (spSetFlags C)) (c_NOTHING_CAME : Con1 mg "NOTHING_CAME" (.int 1)) : Fn P w K mg base "nothing_whole" 2 ["ring"] (spNothing C) := by
 have cl_Ring := T.cl
 refine F.fn sc_nothing_whole (fun vs H Q E h => ?_) (fun f cdv A outer s H vs Q E hr h => ?_)
 ·obtain ⟨r,l,s,rfl,_⟩ := h
  rfl
 ·obtain ⟨r,l,st,rfl,R,k⟩ := h
  obtain ⟨dx,hr'⟩ := R.ob
  refine ⟨_,(pss_cons (ps_expr (pe_mt (pv 0) cl_Ring m_Ring_set_flags (hr.mono (by decide)) (pa_cons (pe_c1 c_NOTHING_CAME rfl) pa_nil)))
    (pss_one (ps_ret (pe_un un_neg (pe_op op_pow pe_int pe_int))))),?_⟩
  refine ⟨_,rfl,r,dx,_,rfl,hr',rfl,r,l,st,1,rfl,R,fun H1 R1 K1 => ?_⟩
  exact ⟨_,_,rfl,rfl,cp2 63 (by decide),_,rfl,k H1 R1 K1⟩
theorem ok_whole_from (F : Src K mg "whole_from" s_whole_from ["ring","number","way"]) (T : CG K C) (TE : CE K CE0) (f_is_infinite : Fn P w K mg base "is_infinite" 2 ["number"] (spNat fun x => .bl (infE x))) (c_NONE : Con1 mg "NONE" (.int NONEn)) (f_nothing_whole : Fn P w K mg base "nothing_whole" 2 ["ring"] (spNothing C))
  (f_exact_of : Fn P w K mg base "exact_of" 3 ["number"] (spExactOf CE0)) (f_to_multiple : Fn P w K mg base "to_multiple" 5 ["value","unit","way"] (spMult CE0)) (f_is_within : Fn P w K mg base "is_within" 1 ["n","low","high"] spWithin) (f_same_size : Fn P w K mg base "same_size" 2 ["one","other"] (spSame CE0))
  (m_Ring_set_flags : Mtd P w K mg base C "set_flags" 1 ["self","flags"] (spSetFlags C)) (c_NOT_EXACT : Con1 mg "NOT_EXACT" (.int 32)) : Fn P w K mg base "whole_from" 6 ["ring","number","way"] (spWholeFrom C) := by
 have cl_Ring := T.cl
 refine F.fn sc_whole_from (fun vs H Q E h => ?_) (fun f cdv A outer s H vs Q E hr h => ?_)
 ·obtain ⟨r,l,s,x,way,rfl,_⟩ := h
  rfl
 ·obtain ⟨r,l,st,x,way,rfl,R,hx,k⟩ := h
  obtain ⟨dx,hr'⟩ := R.ob
  refine ⟨_,(pss_cons (ps_if (PW.pt (pw_or (pt_cmpR op_eq (pv 1) (pe_c1 c_NONE rfl) (nomark _)) (pw_or1 (pt_val (pf f_is_infinite hr (pa_cons (pv 1) pa_nil)))))) (pss_one (ps_ret (pf f_nothing_whole hr (pa_cons (pv 0) pa_nil)))) pss_nil)
    (pss_cons (ps_set (i := 3) sc_whole_from.nd rfl (Or.inl rfl) (pf f_exact_of hr (pa_cons (pv 1) pa_nil)))
    (pss_cons (ps_set (i := 4) sc_whole_from.nd rfl (Or.inl rfl) (pf f_to_multiple hr (pa_cons (pv 3) (pa_cons pe_int (pa_cons (pv 2) pa_nil)))))
    (pss_cons (ps_set (i := 5) sc_whole_from.nd rfl (Or.inl rfl) (pe_ifExp (pt_cmpR op_eq (pe_fld (pv 4) rfl) pe_int (nomark _)) (pe_un un_neg (pe_fld (pv 4) rfl)) (pe_fld (pv 4) rfl)))
    (pss_cons (ps_if (pt_not (pt_val (pf f_is_within hr (pa_cons (pv 5) (pa_cons (pe_un un_neg (pe_op op_pow pe_int pe_int)) (pa_cons (pe_op op_sub (pe_op op_pow pe_int pe_int) pe_int) pa_nil)))))) (pss_one (ps_ret (pf f_nothing_whole hr (pa_cons (pv 0) pa_nil)))) pss_nil)
    (pss_cons (ps_if (pt_not (pt_val (pf f_same_size hr (pa_cons (pv 3) (pa_cons (pv 4) pa_nil))))) (pss_one (ps_expr (pe_mt (pv 0) cl_Ring m_Ring_set_flags (hr.mono (by decide)) (pa_cons (pe_c1 c_NOT_EXACT rfl) pa_nil)))) pss_nil)
    (pss_one (ps_ret (pv 5))))))))),?_⟩
  have bad : intE way x = (1,-(2 ^ 63)) → ∀ H1,RingAt C H1 r l { st with flags := st.flags ||| 1 } → Keep H H1 r l l → Q (.int (-(2 ^ 63))) H1 := fun e => by rw [e] at k; exact k
  refine ⟨_,rfl,rfl,_,rfl,?_⟩
  refine br2 (fun h => ?_) (fun h => ?_)
  ·have h1 : x = NONEn := by have := dV_iff.mp h; omega
   have e : intE way x = (1,-(2 ^ 63)) := by unfold intE; rw [(worth_nan hx).mpr h1]
   refine br_t rfl ?_
   exact ⟨_,rfl,r,l,st,rfl,R,bad e⟩
  ·have h1 : x ≠ NONEn := by
    intro e
    rw [dV_t (by rw [e])] at h
    cases h
   refine ⟨_,rfl,x,rfl,hx.1,_,rfl,?_⟩
   refine br2 (fun h => ?_) (fun h => ?_)
   ·have e : intE way x = (1,-(2 ^ 63)) := by unfold intE; rw [worth_inf h]
    exact ⟨_,rfl,r,l,st,rfl,R,bad e⟩
   ·have hf := fin_of hx h1 h
    have hU := upre0 hf
    have hW := wide0 hf way
    have hp := pow_bounds hf
    have hbig := size_big hx
    have hsz := sizeOf_lt x
    rw [intE_fin hf] at k bad
    have hcut := units_le way (Rd20.signOf x) (Rd20.sizeOf x) (powE x) 0
    have hex : 0 ≤ powE x → (Rd20.units way (Rd20.signOf x) (Rd20.sizeOf x) (powE x) 0).1 = Rd20.sizeOf x * 2 ^ (powE x - 0).toNat := fun h => by rw [units_exact h]
    have hsame := same_units way (Rd20.signOf x) (Rd20.sizeOf x) (powE x) 0
    have hS : SPre (Rd20.sizeOf x) (Rd20.units way (Rd20.signOf x) (Rd20.sizeOf x) (powE x) 0).1 (powE x) 0 := ⟨hU.wide,hW,hU.e0,hU.e1,by decide,by decide⟩
    refine ⟨_,rfl,x,rfl,hx.1,fun p1 H1 S1 n1 o1 => ?_⟩
    generalize Rd20.signOf x = neg at *
    generalize Rd20.sizeOf x = m at *
    generalize powE x = e at *
    refine ⟨_,rfl,_,rfl,p1,neg,m,e,0,way,rfl,o1,hU,fun p2 H2 S2 n2 o2 => ?_⟩
    generalize hR : Rd20.units way neg m e 0 = u at *
    have S12 := S1.trans S2
    have R2 := R.same S12
    have K2 := Keep.of_same R S12
    obtain ⟨d2,hp2⟩ := id o2
    refine ⟨_,rfl,p2,CE0,d2,_,_,rfl,hp2,TE.cl,TE.nS,fE_s _ _ _,rfl,_,rfl,?_⟩
    rw [ob_one]
    rcases neg with _ | _
    ·refine br_f rfl ?_
     refine ⟨_,rfl,p2,CE0,d2,_,_,rfl,hp2,TE.cl,TE.nM,fE_m _ _ _,?_⟩
     rw [if_neg Bool.false_ne_true] at k bad
     refine ⟨_,rfl,_,_,rfl,rfl,cp2 63 (by decide),_,rfl,_,_,rfl,rfl,cp2 63 (by decide),_,_,rfl,rfl,((u.1 : Nat) : Int),-(2 ^ 63),2 ^ 63 - 1,rfl,_,rfl,?_⟩
     have o1' := o1.same S2
     obtain ⟨dx2,hr2⟩ := R2.ob
     refine br2 (fun h => ?_) (fun h => ?_)
     ·have h3 : Rd20.within ((u.1 : Nat) : Int) (-(2 ^ 63)) (2 ^ 63 - 1) = false := by simpa using h
      have h4 : ¬ (-(2 ^ 63) ≤ ((u.1 : Nat) : Int) ∧ ((u.1 : Nat) : Int) ≤ 2 ^ 63 - 1) := fun z => by rw [within_iff.mpr z] at h3; cases h3
      refine ⟨_,rfl,r,l,st,rfl,R2,fun H3 R3 K3 => bad ?_ H3 R3 (K2.trans K3)⟩
      unfold intP
      by_cases h5 : 64 < e
      ·rw [if_pos h5]
      ·rw [if_neg h5,if_pos (by omega)]
     ·have h3 : Rd20.within ((u.1 : Nat) : Int) (-(2 ^ 63)) (2 ^ 63 - 1) = true := by simpa using h
      have h4 := within_iff.mp h3
      have h5 : ¬ 64 < e := by
       intro h5
       have h6 := hbig (by omega)
       have h7 := hex (by omega)
       have h8 : 2 ^ 63 * 2 ^ 1 ≤ m * 2 ^ (e - 0).toNat := Nat.mul_le_mul h6 (Nat.pow_le_pow_right (by decide) (by omega))
       omega
      have h6 : ¬ (((u.1 : Nat) : Int) < -(2 ^ 63) ∨ 2 ^ 63 ≤ ((u.1 : Nat) : Int)) := by omega
      unfold intP at k
      rw [if_neg h5,if_neg h6] at k
      refine ⟨_,rfl,_,rfl,p1,p2,_,_,m,u.1,e,0,rfl,o1',o2,hS,_,rfl,?_⟩
      rw [hsame]
      refine br2 (fun h => ?_) (fun h => ?_)
      ·have h : u.2 = true := by simpa using h
       rw [if_pos h] at k
       refine ⟨_,rfl,r,dx2,_,rfl,hr2,rfl,r,l,st,32,rfl,R2,fun H3 R3 K3 => ?_⟩
       exact ⟨_,rfl,k H3 R3 (K2.trans K3)⟩
      ·have h : u.2 = false := by simpa using h
       rw [if_neg (by rw [h]; exact Bool.false_ne_true)] at k
       exact ⟨_,rfl,k H2 (by dsimp only; rw [Nat.or_zero]; exact R2) K2⟩
    ·refine br_t rfl ?_
     refine ⟨_,rfl,p2,CE0,d2,_,_,rfl,hp2,TE.cl,TE.nM,fE_m _ _ _,_,rfl,?_⟩
     rw [if_pos rfl] at k bad
     refine ⟨_,rfl,_,_,rfl,rfl,cp2 63 (by decide),_,rfl,_,_,rfl,rfl,cp2 63 (by decide),_,_,rfl,rfl,(-((u.1 : Nat) : Int)),-(2 ^ 63),2 ^ 63 - 1,rfl,_,rfl,?_⟩
     have o1' := o1.same S2
     obtain ⟨dx2,hr2⟩ := R2.ob
     refine br2 (fun h => ?_) (fun h => ?_)
     ·have h3 : Rd20.within (-((u.1 : Nat) : Int)) (-(2 ^ 63)) (2 ^ 63 - 1) = false := by simpa using h
      have h4 : ¬ (-(2 ^ 63) ≤ (-((u.1 : Nat) : Int)) ∧ (-((u.1 : Nat) : Int)) ≤ 2 ^ 63 - 1) := fun z => by rw [within_iff.mpr z] at h3; cases h3
      refine ⟨_,rfl,r,l,st,rfl,R2,fun H3 R3 K3 => bad ?_ H3 R3 (K2.trans K3)⟩
      unfold intP
      by_cases h5 : 64 < e
      ·rw [if_pos h5]
      ·rw [if_neg h5,if_pos (by omega)]
     ·have h3 : Rd20.within (-((u.1 : Nat) : Int)) (-(2 ^ 63)) (2 ^ 63 - 1) = true := by simpa using h
      have h4 := within_iff.mp h3
      have h5 : ¬ 64 < e := by
       intro h5
       have h6 := hbig (by omega)
       have h7 := hex (by omega)
       have h8 : 2 ^ 63 * 2 ^ 1 ≤ m * 2 ^ (e - 0).toNat := Nat.mul_le_mul h6 (Nat.pow_le_pow_right (by decide) (by omega))
       omega
      have h6 : ¬ ((-((u.1 : Nat) : Int)) < -(2 ^ 63) ∨ 2 ^ 63 ≤ (-((u.1 : Nat) : Int))) := by omega
      unfold intP at k
      rw [if_neg h5,if_neg h6] at k
      refine ⟨_,rfl,_,rfl,p1,p2,_,_,m,u.1,e,0,rfl,o1',o2,hS,_,rfl,?_⟩
      rw [hsame]
      refine br2 (fun h => ?_) (fun h => ?_)
      ·have h : u.2 = true := by simpa using h
       rw [if_pos h] at k
       refine ⟨_,rfl,r,dx2,_,rfl,hr2,rfl,r,l,st,32,rfl,R2,fun H3 R3 K3 => ?_⟩
       exact ⟨_,rfl,k H3 R3 (K2.trans K3)⟩
      ·have h : u.2 = false := by simpa using h
       rw [if_neg (by rw [h]; exact Bool.false_ne_true)] at k
       exact ⟨_,rfl,k H2 (by dsimp only; rw [Nat.or_zero]; exact R2) K2⟩
theorem ok_call_int (F : Src K mg "call_int" s_call_int ["ring","given"]) (T : CG K C) (f_is_within : Fn P w K mg base "is_within" 1 ["n","low","high"] spWithin) (m_Ring_is_empty : Mtd P w K mg base C "is_empty" 1 ["self","i"] (spIsEmpty C)) (m_Ring_take_top : Mtd P w K mg base C "take_top" 1 ["self"] (spTake C))
  (f_whole_from : Fn P w K mg base "whole_from" 6 ["ring","number","way"] (spWholeFrom C)) (c_WAY_THAT_IS_SET : Con1 mg "WAY_THAT_IS_SET" (.int 4)) (c_BAD_ARGUMENT : Con1 mg "BAD_ARGUMENT" (.int (-2))) (c_IS_EMPTY : Con1 mg "IS_EMPTY" (.int (-4))) (c_DONE : Con1 mg "DONE" (.int 0)) :
  Fn P w K mg base "call_int" 7 ["ring","given"] (spCall C (c1 .int)) := by
 have cl_Ring := T.cl
 refine F.fn sc_call_int (fun vs H Q E h => ?_) (fun f cdv A outer s H vs Q E hr h => ?_)
 ·obtain ⟨r,g,l,s,zs,q,rfl,_⟩ := h
  rfl
 ·obtain ⟨r,g,l,st,zs,q,rfl,R,V0,hg,hgl,hq,k⟩ := h
  obtain ⟨dx,hr'⟩ := R.ob
  obtain ⟨a,rfl,rfl⟩ := hq
  refine ⟨_,(pss_cons (ps_set (i := 2) sc_call_int.nd rfl (Or.inl rfl) (pe_ix ix_list (pv 1) pe_int (fun _ _ => rfl)))
    (pss_cons (ps_if (pt_not (pt_val (pf f_is_within hr (pa_cons (pv 2) (pa_cons pe_int (pa_cons (pe_c1 c_WAY_THAT_IS_SET rfl) pa_nil)))))) (pss_one (ps_ret (pe_lst (pa_cons (pe_c1 c_BAD_ARGUMENT rfl) pa_nil)))) pss_nil)
    (pss_cons (ps_if (pt_val (pe_mt (pv 0) cl_Ring m_Ring_is_empty (hr.mono (by decide)) (pa_cons pe_int pa_nil))) (pss_one (ps_ret (pe_lst (pa_cons (pe_c1 c_IS_EMPTY rfl) pa_nil)))) pss_nil)
    (pss_cons (ps_if (pt_cmpR op_eq (pv 2) (pe_c1 c_WAY_THAT_IS_SET rfl) (nomark _)) (pss_one (ps_set (i := 2) sc_call_int.nd rfl (Or.inl rfl) (pe_fld (pv 0) rfl))) pss_nil)
    (pss_one (ps_ret (pe_lst (pa_cons (pe_c1 c_DONE rfl) (pa_cons (pe_op op_mod (pf f_whole_from hr (pa_cons (pv 0) (pa_cons (pe_mt0 (pv 0) cl_Ring m_Ring_take_top (hr.mono (by decide))) (pa_cons (pv 2) pa_nil)))) (pe_op op_pow pe_int pe_int)) pa_nil))))))))),?_⟩
  rw [does_int2] at k
  refine ⟨_,rfl,g,_,0,_,rfl,rfl,SqL.of hg,atI_nat (j := 0) rfl,?_⟩
  refine ⟨_,rfl,a,0,4,rfl,_,rfl,?_⟩
  refine br2 (fun h => ?_) (fun h => ?_)
  ·have h1 : Rd20.within a 0 4 = false := by simpa using h
   rw [if_pos h1] at k
   exact ⟨by show 1 ≤ 16777216; decide,k.fin R V0 (Keep.refl R) rfl rfl⟩
  ·have h1 : Rd20.within a 0 4 = true := by simpa using h
   rw [if_neg (by rw [h1]; exact fun z => nomatch z)] at k
   have w1 := within_iff.mp h1
   unfold Rd20.of1 at k
   rw [show Rd20.reg (absE st) 0 = optE (st.regs.getD 0 0) from reg_abs V0.n8 (by decide) (by decide)] at k
   refine ⟨_,rfl,r,dx,_,rfl,hr',rfl,r,l,st,0,rfl,R,by decide,by decide,_,rfl,?_⟩
   refine br2 (fun h => ?_) (fun h => ?_)
   ·have h2 : st.regs.getD 0 0 = EMn := of_decide_eq_true h
    rw [optE_none h2] at k
    exact ⟨by show 1 ≤ 16777216; decide,k.fin R V0 (Keep.refl R) rfl rfl⟩
   ·have h2 : st.regs.getD 0 0 ≠ EMn := of_decide_eq_false h
    rw [optE_some h2] at k
    have hx := V0.at_ (i := 0) (by decide) h2
    have go : ∀ way : Nat,(if a = 4 then (absE st).way else a.toNat) = way → ∀ (H2 : Hp) (l2 : Addr),RingAt C H2 r l2 { st with regs := st.regs.drop 1 ++ [EMn] } → Keep H H2 r l l2 → ∀ H3,RingAt C H3 r l2 { st with regs := st.regs.drop 1 ++ [EMn],flags := st.flags ||| (intE way (st.regs.getD 0 0)).1 } → Keep H2 H3 r l2 l2 →
      ∀ p,H3 p = none → Q (.ref p) (upd H3 p (.lst [.int 0,.int ((intE way (st.regs.getD 0 0)).2 % 2 ^ 64)])) := fun way hw H2 l2 R2 K2 H3 R3 K3 => by
     rw [hw] at k
     refine k.fin R3 ((V0.pop).flags _) (K2.trans K3) ?_ ?_
     ·rw [← abs_pop]; rfl
     ·unfold ansV
      have e := Int.toNat_of_nonneg (Int.emod_nonneg (intE way (st.regs.getD 0 0)).2 (show (2 : Int) ^ 64 ≠ 0 by decide))
      simp only [List.map_cons,List.map_nil]
      rw [e]
    refine ⟨_,rfl,rfl,_,rfl,?_⟩
    refine br2 (fun h => ?_) (fun h => ?_)
    ·have h3 : a = 4 := dV_iff.mp h
     refine ⟨_,rfl,r,C,dx,_,_,rfl,hr',T.cl,T.nW,fG_w _ _ _ _,?_⟩
     refine ⟨_,rfl,_,rfl,r,dx,_,rfl,hr',rfl,r,l,st,rfl,R,fun H2 l2 R2 K2 => ?_⟩
     refine ⟨_,rfl,r,l2,_,_,st.way,rfl,R2,hx,fun H3 R3 K3 => ?_⟩
     refine ⟨_,_,rfl,rfl,cp2 64 (by decide),_,_,rfl,rfl,(by show (0 : Int) < 2 ^ 64; decide),(by show 2 ≤ 16777216; decide),?_⟩
     exact go st.way (if_pos h3) H2 l2 R2 K2 H3 R3 K3
    ·have h3 : ¬ a = 4 := fun e => by rw [dV_t e] at h; cases h
     have ea : a = ((a.toNat : Nat) : Int) := by omega
     refine ⟨_,rfl,_,rfl,r,dx,_,rfl,hr',rfl,r,l,st,rfl,R,fun H2 l2 R2 K2 => ?_⟩
     refine ⟨_,rfl,r,l2,_,_,a.toNat,(by show [V.ref r,_,V.int a] = [V.ref r,_,V.int ((a.toNat : Nat) : Int)]; rw [← ea]),R2,hx,fun H3 R3 K3 => ?_⟩
     refine ⟨_,_,rfl,rfl,cp2 64 (by decide),_,_,rfl,rfl,(by show (0 : Int) < 2 ^ 64; decide),(by show 2 ≤ 16777216; decide),?_⟩
     exact go a.toNat (if_neg h3) H2 l2 R2 K2 H3 R3 K3
end
def dblF (way x : Nat) : Nat × Nat := match Rd20.worth x with
 | .nan => (0,0x7FF8000000000000)
 | .inf neg => (0,Rd20.double neg .inf)
 | .fin neg m e => if m = 0 then (0,Rd20.double neg (.units 0 0)) else ((Rd20.round 53 (-1022) 1024 way neg m e).2,Rd20.double neg (Rd20.round 53 (-1022) 1024 way neg m e).1)
theorem flag0 (s : Rd20.Abs) : Rd20.flag s 0 = s := by unfold Rd20.flag; simp
theorem does_bits (s : Rd20.Abs) : Rd20.does s .bits = Rd20.of1 s fun x => (Rd20.flag (Rd20.pop s) (dblF s.way x).1,{ value := 0,out := [(dblF s.way x).2] }) := by
 have e : Rd20.does s .bits = Rd20.of1 s fun x => match Rd20.worth x with
  | .nan => (Rd20.pop s,{ value := 0,out := [0x7FF8000000000000] })
  | .inf neg => (Rd20.pop s,{ value := 0,out := [Rd20.double neg .inf] })
  | .fin neg m e => if m = 0 then (Rd20.pop s,{ value := 0,out := [Rd20.double neg (.units 0 0)] }) else
   (Rd20.flag (Rd20.pop s) (Rd20.round 53 (-1022) 1024 s.way neg m e).2,{ value := 0,out := [Rd20.double neg (Rd20.round 53 (-1022) 1024 s.way neg m e).1] }) := rfl
 rw [e]
 congr 1
 funext x
 unfold dblF
 cases Rd20.worth x with
 | nan => dsimp only; rw [flag0]
 | inf neg => dsimp only; rw [flag0]
 | fin neg m e =>
  dsimp only
  by_cases h : m = 0
  ·rw [if_pos h,if_pos h]; dsimp only; rw [flag0]
  ·rw [if_neg h,if_neg h]
theorem fR_v (v : V) (f : Int) : (fR v f).lookup ("value" : Str) = some v := rfl
theorem fR_f (v : V) (f : Int) : (fR v f).lookup ("flags" : Str) = some (.int f) := rfl
theorem rpre_round {bits : Nat} {least most : Int} {way : Nat} {neg : Bool} {m : Nat} {e : Int} (hb0 : 1 ≤ bits) (hb : bits ≤ 64) (hm : ∃ k,k ≤ 80000 ∧ m < 2 ^ k) (he0 : -100000 ≤ e) (he1 : e ≤ 100000) (l0 : -20000 ≤ least) (l1 : least ≤ 20000) (t0 : -20000 + 64 ≤ most) (t1 : most ≤ 20000) {b2 : Nat} {l2 t2 : Int} (h : RPre 1 0 b2 l2 t2) :
  RPre (roundE bits least most way neg m e).1.1 (roundE bits least most way neg m e).1.2 b2 l2 t2 := by
 obtain ⟨_,_,_,b0',b1',l0',l1',t0',t1'⟩ := h
 obtain ⟨k,k1,k2⟩ := hm
 unfold roundE
 by_cases h0 : m = 0
 ·rw [if_pos h0]
  exact ⟨⟨1,by decide,by show 0 < 2 ^ 1; decide⟩,by dsimp only; omega,by dsimp only; omega,b0',b1',l0',l1',t0',t1'⟩
 ·rw [if_neg h0]
  have hl := log_lt h0 k2
  have hR : RPre m e bits least most := ⟨⟨k,by omega,k2⟩,by omega,by omega,hb0,hb,l0,l1,by omega,t1⟩
  have ht : Rd20.top m e = (Nat.log2 m : Int) + e := rfl
  unfold roundQ
  split
  ·have hq : ∃ k',k' ≤ 90000 ∧ (Rd20.units way neg m e (max (Rd20.top m e) least - bits + 1)).1 < 2 ^ k' := by
    have h1 := units_le way neg m e (max (Rd20.top m e) least - bits + 1)
    refine ⟨k + 65,by omega,Nat.lt_of_le_of_lt h1 ?_⟩
    have h2 : (e - (max (Rd20.top m e) least - bits + 1)).toNat ≤ 64 := by omega
    have h3 : m * 2 ^ (e - (max (Rd20.top m e) least - bits + 1)).toNat < 2 ^ (k + 64) := by
     rw [Nat.pow_add]
     exact Nat.lt_of_lt_of_le (Nat.mul_lt_mul_of_pos_right k2 (Nat.two_pow_pos _)) (Nat.mul_le_mul_left _ (Nat.pow_le_pow_right (by decide) h2))
    have h4 : 2 ^ (k + 65) = 2 ^ (k + 64) * 2 := by rw [← Nat.pow_succ]
    have h5 := Nat.two_pow_pos (k + 64)
    omega
   split
   ·exact ⟨hq,by dsimp only; omega,by dsimp only; omega,b0',b1',l0',l1',t0',t1'⟩
   ·exact ⟨hq,by dsimp only; omega,by dsimp only; omega,b0',b1',l0',l1',t0',t1'⟩
  ·unfold overE
   split
   ·exact ⟨⟨1,by decide,by show 1 < 2 ^ 1; decide⟩,by dsimp only; omega,by dsimp only; omega,b0',b1',l0',l1',t0',t1'⟩
   ·refine ⟨⟨bits,by omega,?_⟩,by dsimp only; omega,by dsimp only; omega,b0',b1',l0',l1',t0',t1'⟩
    have := Nat.two_pow_pos bits
    dsimp only
    omega
theorem infd_eq (neg : Bool) : (((if neg = true then 2 ^ 63 else 0) + 9218868437227405312 : Nat) : Int) = ((Rd20.double neg .inf : Nat) : Int) := by cases neg <;> decide +kernel
theorem dn_eq : (9221120237041090560 : Int) = ((0x7FF8000000000000 : Nat) : Int) := by decide +kernel
theorem dbl_zero (neg : Bool) (e : Int) : dblE neg 0 e = Rd20.double neg (.units 0 0) := by
 unfold dblE Rd20.double Rd20.doubleSize
 rw [if_pos rfl]
 dsimp only
 rw [if_pos rfl,Nat.add_zero]
theorem dbl_round0 (way : Nat) (neg : Bool) (e : Int) : dblE neg (roundE 53 (-1022) 1024 way neg 0 e).1.1 (roundE 53 (-1022) 1024 way neg 0 e).1.2 = Rd20.double neg (.units 0 0) ∧ (roundE 53 (-1022) 1024 way neg 0 e).2 = ((0 : Nat) : Int) := by
 unfold roundE
 rw [if_pos rfl]
 exact ⟨dbl_zero neg e,rfl⟩
theorem dbl_round1 {way : Nat} {neg : Bool} {m : Nat} {e : Int} (h : m ≠ 0) : dblE neg (roundE 53 (-1022) 1024 way neg m e).1.1 (roundE 53 (-1022) 1024 way neg m e).1.2 = Rd20.double neg (Rd20.round 53 (-1022) 1024 way neg m e).1 ∧
  (roundE 53 (-1022) 1024 way neg m e).2 = (((Rd20.round 53 (-1022) 1024 way neg m e).2 : Nat) : Int) := by
 rw [round_eq h (by decide)]
 refine ⟨?_,rfl⟩
 dsimp only
 refine dbl_come fun q u hc h00 _ => ?_
 rcases round_unit hc (by decide) (by decide) with hu | hu
 ·omega
 ·omega
theorem rpre1 : RPre 1 0 53 (-1022) 1024 := ⟨⟨1,by decide,by decide⟩,by decide,by decide,by decide,by decide,by decide,by decide,by decide,by decide⟩
def spDoubleFrom (C : Addr) : Sp := fun vs H Q _ => ∃ r l s x,vs = [.ref r,vN x] ∧ RingAt C H r l s ∧ Num80 x ∧ ∀ H',RingAt C H' r l { s with flags := s.flags ||| (dblF s.way x).1 } → Keep H H' r l l → Q (vN (dblF s.way x).2) H'
section
variable {P : Program} {w : World} {K : PySem.W.Frag} {mg : Str → Option Value} {base : Heap} {C CE0 CF CR : Addr}
theorem ok_double_from (F : Src K mg "double_from" s_double_from ["ring","number"]) (T : CG K C) (TR : CR1 K CR) (f_is_infinite : Fn P w K mg base "is_infinite" 2 ["number"] (spNat fun x => .bl (infE x))) (c_NONE : Con1 mg "NONE" (.int NONEn)) (c_DOUBLE_NONE : Con1 mg "DOUBLE_NONE" (.int 9221120237041090560))
  (f_infinite_double : Fn P w K mg base "infinite_double" 1 ["sign"] spInfD) (f_sign_of : Fn P w K mg base "sign_of" 1 ["number"] (spNat fun x => .int (ob (Rd20.signOf x)))) (f_rounded : Fn P w K mg base "rounded" 7 ["value","form","way"] (spRounded CE0 CF CR)) (f_double_form : Fn P w K mg base "double_form" 3 [] (spForm CF))
  (f_exact_of : Fn P w K mg base "exact_of" 3 ["number"] (spExactOf CE0)) (m_Ring_set_flags : Mtd P w K mg base C "set_flags" 1 ["self","flags"] (spSetFlags C)) (f_double_of : Fn P w K mg base "double_of" 5 ["value"] (spDoubleOf CE0)) : Fn P w K mg base "double_from" 8 ["ring","number"] (spDoubleFrom C) := by
 have cl_Ring := T.cl
 refine F.fn sc_double_from (fun vs H Q E h => ?_) (fun f cdv A outer s H vs Q E hr h => ?_)
 ·obtain ⟨r,l,s,x,rfl,_⟩ := h
  rfl
 ·obtain ⟨r,l,st,x,rfl,R,hx,k⟩ := h
  obtain ⟨dx,hr'⟩ := R.ob
  refine ⟨_,(pss_cons (ps_if (pt_cmpR op_eq (pv 1) (pe_c1 c_NONE rfl) (nomark _)) (pss_one (ps_ret (pe_c1 c_DOUBLE_NONE rfl))) pss_nil)
    (pss_cons (ps_if (pt_val (pf f_is_infinite hr (pa_cons (pv 1) pa_nil))) (pss_one (ps_ret (pf f_infinite_double hr (pa_cons (pf f_sign_of hr (pa_cons (pv 1) pa_nil)) pa_nil)))) pss_nil)
    (pss_cons (ps_set (i := 2) sc_double_from.nd rfl (Or.inl rfl) (pf f_rounded hr (pa_cons (pf f_exact_of hr (pa_cons (pv 1) pa_nil)) (pa_cons (pf0 f_double_form hr) (pa_cons (pe_fld (pv 0) rfl) pa_nil)))))
    (pss_cons (ps_expr (pe_mt (pv 0) cl_Ring m_Ring_set_flags (hr.mono (by decide)) (pa_cons (pe_fld (pv 2) rfl) pa_nil)))
    (pss_one (ps_ret (pf f_double_of hr (pa_cons (pe_fld (pv 2) rfl) pa_nil)))))))),?_⟩
  refine ⟨_,rfl,rfl,_,rfl,?_⟩
  refine br2 (fun h => ?_) (fun h => ?_)
  ·have h1 : x = NONEn := by have := dV_iff.mp h; omega
   have e : dblF st.way x = (0,0x7FF8000000000000) := by unfold dblF; rw [(worth_nan hx).mpr h1]
   rw [e] at k
   have k' := k H (by dsimp only; rw [Nat.or_zero]; exact R) (Keep.refl R)
   refine qi (c := ((0x7FF8000000000000 : Nat) : Int)) k' dn_eq
  ·have h1 : x ≠ NONEn := by
    intro e
    rw [dV_t (by rw [e])] at h
    cases h
   refine ⟨_,rfl,x,rfl,hx.1,_,rfl,?_⟩
   refine br2 (fun h => ?_) (fun h => ?_)
   ·have e : dblF st.way x = (0,Rd20.double (Rd20.signOf x) .inf) := by unfold dblF; rw [worth_inf h]
    rw [e] at k
    refine ⟨_,rfl,x,rfl,hx.1,Rd20.signOf x,rfl,?_⟩
    have k' := k H (by dsimp only; rw [Nat.or_zero]; exact R) (Keep.refl R)
    exact qi k' (infd_eq _)
   ·have hf := fin_of hx h1 h
    have hp := pow_bounds hf
    have hsz := sizeOf_lt x
    unfold dblF at k
    rw [worth_fin hf] at k
    dsimp only at k
    refine ⟨_,rfl,x,rfl,hx.1,fun p1 H1 S1 n1 o1 => ?_⟩
    refine ⟨rfl,fun p2 H2 S2 n2 o2 => ?_⟩
    have S12 := S1.trans S2
    have R2 := R.same S12
    obtain ⟨d2,hr2⟩ := R2.ob
    generalize Rd20.signOf x = neg at *
    generalize Rd20.sizeOf x = m at *
    generalize powE x = e at *
    have hP : RPre m e 53 (-1022) 1024 := ⟨⟨64,by decide,hsz⟩,by omega,by omega,by decide,by decide,by decide,by decide,by decide,by decide⟩
    have hP2 := rpre_round (bits := 53) (least := -1022) (most := 1024) (way := st.way) (neg := neg) (by decide) (by decide) ⟨64,by decide,hsz⟩ (by omega : -100000 ≤ e) (by omega) (by decide) (by decide) (by decide) (by decide) rpre1
    refine ⟨_,rfl,r,C,d2,_,_,rfl,hr2,T.cl,T.nW,fG_w _ _ _ _,p1,p2,neg,m,e,53,-1022,1024,st.way,rfl,o1.same S2,o2,hP,fun p3 p4 H3 S3 n3 o3 o4 => ?_⟩
    have R3 := R2.same S3
    have K3 := Keep.of_same R (S12.trans S3)
    obtain ⟨d3,hr3⟩ := R3.ob
    obtain ⟨d4,hp3⟩ := o3
    have fl : ∃ fl : Nat,(roundE 53 (-1022) 1024 st.way neg m e).2 = (fl : Int) ∧ (∀ H',RingAt C H' r l { st with flags := st.flags ||| fl } → Keep H H' r l l → Q (vN (dblE neg (roundE 53 (-1022) 1024 st.way neg m e).1.1 (roundE 53 (-1022) 1024 st.way neg m e).1.2)) H') := by
     by_cases h0 : m = 0
     ·rw [if_pos h0] at k
      subst h0
      have hz := dbl_round0 st.way neg e
      refine ⟨0,hz.2,?_⟩
      rw [hz.1]
      exact k
     ·rw [if_neg h0] at k
      have hz := dbl_round1 (way := st.way) (neg := neg) (e := e) h0
      refine ⟨(Rd20.round 53 (-1022) 1024 st.way neg m e).2,hz.2,?_⟩
      rw [hz.1]
      exact k
    obtain ⟨fl,ef,k2⟩ := fl
    refine ⟨_,rfl,r,d3,_,rfl,hr3,rfl,_,rfl,p3,CR,d4,_,_,rfl,hp3,TR.cl,TR.nF,fR_f _ _,?_⟩
    dsimp only
    rw [ef]
    refine ⟨r,l,st,fl,rfl,R3,fun H5 R5 K5 => ?_⟩
    have hp3l : p3 ≠ l := Ne.symm (ne_of_none R2.ls n3)
    have hp3r : p3 ≠ r := fun z => by rw [z,hr2] at n3; cases n3
    have hp3' := K5.keep p3 _ hp3 hp3r hp3l
    obtain ⟨d5,hp4⟩ := o4
    have hp4' := K5.keep p4 _ hp4 (fun z => by rw [z,hr3] at hp4; cases hp4) (fun z => by rw [z,R3.ls] at hp4; cases hp4)
    refine ⟨_,rfl,p3,CR,d4,_,_,rfl,hp3',TR.cl,TR.nV,fR_v _ _,p4,neg,_,_,rfl,⟨d5,hp4'⟩,hP2,?_⟩
    exact k2 H5 R5 (K3.trans K5)
theorem ok_call_bits (F : Src K mg "call_bits" s_call_bits ["ring","given"]) (T : CG K C) (m_Ring_is_empty : Mtd P w K mg base C "is_empty" 1 ["self","i"] (spIsEmpty C)) (m_Ring_take_top : Mtd P w K mg base C "take_top" 1 ["self"] (spTake C)) (f_double_from : Fn P w K mg base "double_from" 8 ["ring","number"] (spDoubleFrom C))
  (c_IS_EMPTY : Con1 mg "IS_EMPTY" (.int (-4))) (c_DONE : Con1 mg "DONE" (.int 0)) : Fn P w K mg base "call_bits" 9 ["ring","given"] (spCall C fun zs q => q = .bits) := by
 have cl_Ring := T.cl
 refine F.fn sc_call_bits (fun vs H Q E h => ?_) (fun f cdv A outer s H vs Q E hr h => ?_)
 ·obtain ⟨r,g,l,s,zs,q,rfl,_⟩ := h
  rfl
 ·obtain ⟨r,g,l,st,zs,q,rfl,R,V0,hg,hgl,rfl,k⟩ := h
  obtain ⟨dx,hr'⟩ := R.ob
  refine ⟨_,(pss_cons (ps_if (pt_val (pe_mt (pv 0) cl_Ring m_Ring_is_empty (hr.mono (by decide)) (pa_cons pe_int pa_nil))) (pss_one (ps_ret (pe_lst (pa_cons (pe_c1 c_IS_EMPTY rfl) pa_nil)))) pss_nil)
    (pss_one (ps_ret (pe_lst (pa_cons (pe_c1 c_DONE rfl) (pa_cons (pf f_double_from hr (pa_cons (pv 0) (pa_cons (pe_mt0 (pv 0) cl_Ring m_Ring_take_top (hr.mono (by decide))) pa_nil))) pa_nil)))))),?_⟩
  rw [does_bits] at k
  unfold Rd20.of1 at k
  rw [show Rd20.reg (absE st) 0 = optE (st.regs.getD 0 0) from reg_abs V0.n8 (by decide) (by decide)] at k
  refine ⟨_,rfl,r,dx,_,rfl,hr',rfl,r,l,st,0,rfl,R,by decide,by decide,_,rfl,?_⟩
  refine br2 (fun h => ?_) (fun h => ?_)
  ·have h2 : st.regs.getD 0 0 = EMn := of_decide_eq_true h
   rw [optE_none h2] at k
   exact ⟨by show 1 ≤ 16777216; decide,k.fin R V0 (Keep.refl R) rfl rfl⟩
  ·have h2 : st.regs.getD 0 0 ≠ EMn := of_decide_eq_false h
   rw [optE_some h2] at k
   have hx := V0.at_ (i := 0) (by decide) h2
   refine ⟨_,rfl,_,rfl,r,dx,_,rfl,hr',rfl,r,l,st,rfl,R,fun H2 l2 R2 K2 => ?_⟩
   refine ⟨r,l2,_,_,rfl,R2,hx,fun H3 R3 K3 => ?_⟩
   refine ⟨by show 2 ≤ 16777216; decide,?_⟩
   refine k.fin R3 ((V0.pop).flags _) (K2.trans K3) ?_ rfl
   rw [← abs_pop]
   rfl
end
abbrev s_Division_init : Stmt := inClass (top 106) 0
theorem sc_Division_init : FnScope ["self","whole","left"] ["self","whole","left"] (defScope s_Division_init) := ⟨rfl,rfl,rfl,by decide +kernel,rfl,by decide +kernel,by decide +kernel⟩
abbrev s_signed_units : Stmt := top 107
theorem sc_signed_units : FnScope ["value","unit","units"] ["value","unit"] (defScope s_signed_units) := ⟨rfl,rfl,rfl,by decide +kernel,rfl,by decide +kernel,by decide +kernel⟩
abbrev s_sign_of_no_sum : Stmt := top 108
theorem sc_sign_of_no_sum : FnScope ["one","other","way"] ["one","other","way"] (defScope s_sign_of_no_sum) := ⟨rfl,rfl,rfl,by decide +kernel,rfl,by decide +kernel,by decide +kernel⟩
abbrev s_sum_of : Stmt := top 109
theorem sc_sum_of : FnScope ["one","other","way","unit","n"] ["one","other","way"] (defScope s_sum_of) := ⟨rfl,rfl,rfl,by decide +kernel,rfl,by decide +kernel,by decide +kernel⟩
abbrev s_product_of : Stmt := top 110
theorem sc_product_of : FnScope ["one","other"] ["one","other"] (defScope s_product_of) := ⟨rfl,rfl,rfl,by decide +kernel,rfl,by decide +kernel,by decide +kernel⟩
abbrev s_with_tail : Stmt := top 111
theorem sc_with_tail : FnScope ["sign","whole","is_more","power"] ["sign","whole","is_more","power"] (defScope s_with_tail) := ⟨rfl,rfl,rfl,by decide +kernel,rfl,by decide +kernel,by decide +kernel⟩
abbrev s_quotient_of : Stmt := top 112
theorem sc_quotient_of : FnScope ["one","other","size","power"] ["one","other"] (defScope s_quotient_of) := ⟨rfl,rfl,rfl,by decide +kernel,rfl,by decide +kernel,by decide +kernel⟩
abbrev s_divided : Stmt := top 115
theorem sc_divided : FnScope ["one","other","way","unit","size","part","whole","left","sign"] ["one","other","way"] (defScope s_divided) := ⟨rfl,rfl,rfl,by decide +kernel,rfl,by decide +kernel,by decide +kernel⟩
def fD (a b : V) : List (Str × V) := [("whole",a),("left",b)]
def mkD (as : List V) : List (Str × V) := match as with
 | [a,b] => [("whole",a),("left",b)]
 | _ => []
structure CD1 (K : PySem.W.Frag) (C : Addr) : Prop where
 cl : Cls K C
 nW : NoAttr K C "whole"
 nL : NoAttr K C "left"
theorem fD_w (a b : V) : (fD a b).lookup ("whole" : Str) = some a := rfl
theorem fD_l (a b : V) : (fD a b).lookup ("left" : Str) = some b := rfl
structure FPre (m : Nat) (e : Int) : Prop where
 m : m < 2 ^ 64
 e0 : -16445 ≤ e
 e1 : e ≤ 16320
theorem FPre.wide {m : Nat} {e : Int} (h : FPre m e) : Wide m := ⟨64,by decide,h.m⟩
theorem FPre.fit {m : Nat} {e : Int} (h : FPre m e) : Fit (m : Int) := h.wide.fit
theorem at_f (m : Nat) (e u : Int) : Rd20.at_ false m e u = ((m * 2 ^ (e - u).toNat : Nat) : Int) := by
 unfold Rd20.at_
 simp
theorem at_t (m : Nat) (e u : Int) : Rd20.at_ true m e u = -((m * 2 ^ (e - u).toNat : Nat) : Int) := by
 unfold Rd20.at_
 simp
theorem bx (a b : Bool) : Builtin.bitXor (ob a) (ob b) = ob (a != b) := by cases a <;> cases b <;> decide +kernel
def spSigned (C : Addr) : Sp := fun vs H Q _ => ∃ a neg m e u,vs = [.ref a,.int u] ∧ Ex C H a neg m e ∧ Wide m ∧ u ≤ e ∧ e - u ≤ 1000000 ∧ Q (.int (Rd20.at_ neg m e u)) H
def sgZ (a b : Bool) (way : Nat) : Bool := if a = b then a else way == 1
def spNoSum (C : Addr) : Sp := fun vs H Q _ => ∃ p q a b m n e f way,vs = [.ref p,.ref q,.int (way : Nat)] ∧ Ex C H p a m e ∧ Ex C H q b n f ∧ Q (.int (ob (sgZ a b way))) H
def sumE (a : Bool) (m : Nat) (e : Int) (b : Bool) (n : Nat) (f : Int) : Int := Rd20.at_ a m e (min e f) + Rd20.at_ b n f (min e f)
def spSum (C : Addr) : Sp := fun vs H Q _ => ∃ p q a b m n e f way,vs = [.ref p,.ref q,.int (way : Nat)] ∧ Ex C H p a m e ∧ Ex C H q b n f ∧ FPre m e ∧ FPre n f ∧
 ∀ r H',Same H H' → H r = none → Ex C H' r (if sumE a m e b n f = 0 then sgZ a b way else decide (sumE a m e b n f < 0)) (sumE a m e b n f).natAbs (min e f) → Q (.ref r) H'
def spProd (C : Addr) : Sp := fun vs H Q _ => ∃ p q a b m n e f,vs = [.ref p,.ref q] ∧ Ex C H p a m e ∧ Ex C H q b n f ∧ FPre m e ∧ FPre n f ∧
 ∀ r H',Same H H' → H r = none → Ex C H' r (a != b) (m * n) (e + f) → Q (.ref r) H'
def spTail (C : Addr) : Sp := fun vs H Q _ => ∃ (neg : Bool) (q : Nat) (b : Bool) (p : Int),vs = [.int (ob neg),.int q,.bl b,.int p] ∧ Fit q ∧ ∀ r H',Same H H' → H r = none → Ex C H' r neg (2 * q + if b = true then 1 else 0) (p - 1) → Q (.ref r) H'
def spQuot (C : Addr) : Sp := fun vs H Q _ => ∃ p q a b m n e f,vs = [.ref p,.ref q] ∧ Ex C H p a m e ∧ Ex C H q b n f ∧ FPre m e ∧ FPre n f ∧ n ≠ 0 ∧
 ∀ r H',Same H H' → H r = none → Ex C H' r (a != b) (quo m n 130) (e - f - 130 - 1) → Q (.ref r) H'
def sizeE (m : Nat) (e f : Int) : Nat := m * 2 ^ (e - min e f).toNat
def wholeE (way : Nat) (a b : Bool) (m : Nat) (e : Int) (n : Nat) (f : Int) : Nat := madeE way (a != b) (sizeE m e f) (sizeE n f e)
def leftE (way : Nat) (a b : Bool) (m : Nat) (e : Int) (n : Nat) (f : Int) : Int := (sizeE m e f : Int) - (wholeE way a b m e n f : Int) * (sizeE n f e : Int)
def spDivided (C CD : Addr) : Sp := fun vs H Q _ => ∃ p q a b m n e f way,vs = [.ref p,.ref q,.int (way : Nat)] ∧ Ex C H p a m e ∧ Ex C H q b n f ∧ FPre m e ∧ FPre n f ∧ n ≠ 0 ∧
 ∀ d r H',Same H H' → Obj CD (fD (.int (wholeE way a b m e n f)) (.ref r)) H' d → Ex C H' r (if 0 ≤ leftE way a b m e n f then a else !a) (leftE way a b m e n f).natAbs (min e f) → Q (.ref d) H'
theorem min_if (e f : Int) : (if f < e then f else e) = min e f := by
 rw [Int.min_def]
 split <;> split <;> omega
theorem min_comm' (e f : Int) : min f e = min e f := Int.min_comm f e
theorem made_le (way : Nat) (neg : Bool) (m d : Nat) : madeE way neg m d ≤ m + 1 := by
 have := Nat.div_le_self m d
 unfold madeE
 split <;> omega
section
variable {P : Program} {w : World} {K : PySem.W.Frag} {mg : Str → Option Value} {base : Heap} {C CF CR CD : Addr}
theorem ok_Division (F : SrcC K mg "Division" C "Division.__init__" s_Division_init ["self","whole","left"]) (T : CD1 K C) : Cla P w K mg base "Division" C 1 ["self","whole","left"] (spInit C 2 mkD) := by
 refine F.cla sc_Division_init (fun vs H Q E h => ?_) (fun f cdv A outer s H vs Q E hr h => ?_)
 ·obtain ⟨p,dx,as,rfl,hl,_⟩ := h
  simp [hl]
 ·obtain ⟨p,dx,as,rfl,hl,hp,k⟩ := h
  match as,hl with
  | [a,b],_ =>
   refine ⟨_,(pss_cons (ps_fld (pv 0) (pv 1) rfl)
    (pss_one (ps_fld (pv 0) (pv 2) rfl))),?_⟩
   refine ⟨_,rfl,_,rfl,p,C,dx,[],rfl,hp,T.cl,T.nW,few0,?_⟩
   refine ⟨_,rfl,_,rfl,p,C,dx,_,rfl,upd_same,T.cl,T.nL,few1,?_⟩
   exact k _ upd_same fun b o e hb => by rw [upd_ne hb,upd_ne hb]; exact e
theorem ok_signed (F : Src K mg "signed_units" s_signed_units ["value","unit"]) (T : CE K C) (f_size_by : Fn P w K mg base "size_by" 1 ["value","unit"] (spSize C)) : Fn P w K mg base "signed_units" 2 ["value","unit"] (spSigned C) := by
 refine F.fn sc_signed_units (fun vs H Q E h => ?_) (fun f cdv A outer s H vs Q E hr h => ?_)
 ·obtain ⟨a,neg,m,e,u,rfl,_⟩ := h
  rfl
 ·obtain ⟨a,neg,m,e,u,rfl,⟨dx,ha⟩,hw,h1,h2,k⟩ := h
  refine ⟨_,(pss_cons (ps_set (i := 2) sc_signed_units.nd rfl (Or.inl rfl) (pf f_size_by hr (pa_cons (pv 0) (pa_cons (pv 1) pa_nil))))
    (pss_one (ps_ret (pe_ifExp (pt_cmpR op_eq (pe_fld (pv 0) rfl) pe_int (nomark _)) (pe_un un_neg (pv 2)) (pv 2))))),?_⟩
  refine ⟨_,rfl,_,rfl,a,_,m,e,u,rfl,⟨dx,ha⟩,hw,h1,h2,?_⟩
  refine ⟨_,rfl,a,C,dx,_,_,rfl,ha,T.cl,T.nS,fE_s _ _ _,rfl,_,rfl,?_⟩
  rw [ob_one]
  cases neg
  ·rw [at_f] at k
   exact br_f rfl ⟨_,rfl,k⟩
  ·rw [at_t] at k
   exact br_t rfl ⟨_,rfl,_,rfl,k⟩
theorem ok_nosum (F : Src K mg "sign_of_no_sum" s_sign_of_no_sum ["one","other","way"]) (T : CE K C) (c_DOWN : Con1 mg "DOWN" (.int 1)) : Fn P w K mg base "sign_of_no_sum" 1 ["one","other","way"] (spNoSum C) := by
 refine F.fn sc_sign_of_no_sum (fun vs H Q E h => ?_) (fun f cdv A outer s H vs Q E hr h => ?_)
 ·obtain ⟨p,q,a,b,m,n,e,f,way,rfl,_⟩ := h
  rfl
 ·obtain ⟨p,q,a,b,m,n,e,f,way,rfl,⟨dx,hp⟩,⟨dy,hq⟩,k⟩ := h
  refine ⟨_,(pss_cons (ps_if (pt_cmpR op_eq (pe_fld (pv 0) rfl) (pe_fld (pv 1) rfl) (nomark _)) (pss_one (ps_ret (pe_fld (pv 0) rfl))) pss_nil)
    (pss_one (ps_ret (pe_ifExp (pt_cmpR op_eq (pv 2) (pe_c1 c_DOWN rfl) (nomark _)) pe_int pe_int)))),?_⟩
  refine ⟨_,rfl,p,C,dx,_,_,rfl,hp,T.cl,T.nS,fE_s _ _ _,_,rfl,q,C,dy,_,_,rfl,hq,T.cl,T.nS,fE_s _ _ _,rfl,_,rfl,?_⟩
  have hc : decide (V.int (ob a) = V.int (ob b)) = decide (a = b) := by cases a <;> cases b <;> rfl
  unfold sgZ at k
  by_cases hab : a = b
  ·refine br_t (by rw [hc]; exact decide_eq_true hab) ?_
   rw [if_pos hab] at k
   exact ⟨_,rfl,p,C,dx,_,_,rfl,hp,T.cl,T.nS,fE_s _ _ _,k⟩
  ·refine br_f (by rw [hc]; exact decide_eq_false hab) ?_
   rw [if_neg hab] at k
   refine ⟨_,rfl,rfl,_,rfl,?_⟩
   by_cases hw : way = 1
   ·subst hw
    exact br_t rfl k
   ·have e1 : (way == 1) = false := by simp [hw]
    rw [e1] at k
    exact br_f (dV_f (by omega)) k
theorem ok_sum (F : Src K mg "sum_of" s_sum_of ["one","other","way"]) (T : CE K C) (n_min : mg "min" = none) (f_signed_units : Fn P w K mg base "signed_units" 2 ["value","unit"] (spSigned C)) (f_sign_of_no_sum : Fn P w K mg base "sign_of_no_sum" 1 ["one","other","way"] (spNoSum C))
  (f_exact_whole : Fn P w K mg base "exact_whole" 3 ["n","power"] (spExW C)) (k_Exact : Cla P w K mg base "Exact" C 1 ["self","sign","size","power"] (spInit C 3 mkE)) : Fn P w K mg base "sum_of" 4 ["one","other","way"] (spSum C) := by
 refine F.fn sc_sum_of (fun vs H Q E h => ?_) (fun f cdv A outer s H vs Q E hr h => ?_)
 ·obtain ⟨p,q,a,b,m,n,e,f,way,rfl,_⟩ := h
  rfl
 ·obtain ⟨p,q,a,b,m,n,e,f,way,rfl,⟨dx,hp⟩,⟨dy,hq⟩,hm,hn,k⟩ := h
  refine ⟨_,(pss_cons (ps_set (i := 3) sc_sum_of.nd rfl (Or.inl rfl) (pe_callB (call_min2 rfl) (by rfl) n_min b_min (pa_cons (pe_fld (pv 0) rfl) (pa_cons (pe_fld (pv 1) rfl) pa_nil))))
    (pss_cons (ps_set (i := 4) sc_sum_of.nd rfl (Or.inl rfl) (pe_op op_add (pf f_signed_units hr (pa_cons (pv 0) (pa_cons (pv 3) pa_nil))) (pf f_signed_units hr (pa_cons (pv 1) (pa_cons (pv 3) pa_nil)))))
    (pss_cons (ps_if (pt_cmpR op_eq (pv 4) pe_int (nomark _)) (pss_one (ps_ret (pn k_Exact hr (pa_cons (pf f_sign_of_no_sum hr (pa_cons (pv 0) (pa_cons (pv 1) (pa_cons (pv 2) pa_nil)))) (pa_cons pe_int (pa_cons (pv 3) pa_nil)))))) pss_nil)
    (pss_one (ps_ret (pf f_exact_whole hr (pa_cons (pv 4) (pa_cons (pv 3) pa_nil)))))))),?_⟩
  refine ⟨_,rfl,p,C,dx,_,_,rfl,hp,T.cl,T.nP,fE_p _ _ _,_,rfl,q,C,dy,_,_,rfl,hq,T.cl,T.nP,fE_p _ _ _,e,f,rfl,?_⟩
  dsimp only
  rw [min_if]
  have h1 := Int.min_le_left e f
  have h2 := Int.min_le_right e f
  have h3 : -16445 ≤ min e f := by have := hm.e0; have := hn.e0; omega
  have h4 := hm.e1
  have h5 := hn.e1
  refine ⟨_,rfl,_,rfl,p,a,m,e,min e f,rfl,⟨dx,hp⟩,hm.wide,h1,by omega,_,rfl,_,rfl,q,b,n,f,min e f,rfl,⟨dy,hq⟩,hn.wide,h2,by omega,_,_,rfl,rfl,?_⟩
  have hs : Rd20.at_ a m e (min e f) + Rd20.at_ b n f (min e f) = sumE a m e b n f := rfl
  dsimp only
  rw [hs]
  refine ⟨_,rfl,rfl,_,rfl,?_⟩
  refine br2 (fun h => ?_) (fun h => ?_)
  ·have h0 : sumE a m e b n f = 0 := dV_iff.mp h
   rw [if_pos h0,h0] at k
   refine ⟨_,rfl,_,rfl,_,rfl,p,q,a,b,m,n,e,f,way,rfl,⟨dx,hp⟩,⟨dy,hq⟩,_,rfl,?_⟩
   show ∀ (x dx : Addr),_ → _ → _ → _
   refine new_of (n := 3) (mk := mkE) (by rfl) ?_
   exact fun p H' s1 n1 o1 => k p H' s1 n1 o1
  ·have h0 : ¬ sumE a m e b n f = 0 := fun z => by rw [dV_t z] at h; cases h
   rw [if_neg h0] at k
   exact ⟨_,rfl,_,rfl,_,_,rfl,fun r H' s1 n1 o1 => k r H' s1 n1 o1⟩
theorem ok_product (F : Src K mg "product_of" s_product_of ["one","other"]) (T : CE K C) (k_Exact : Cla P w K mg base "Exact" C 1 ["self","sign","size","power"] (spInit C 3 mkE)) : Fn P w K mg base "product_of" 3 ["one","other"] (spProd C) := by
 refine F.fn sc_product_of (fun vs H Q E h => ?_) (fun f cdv A outer s H vs Q E hr h => ?_)
 ·obtain ⟨p,q,a,b,m,n,e,f,rfl,_⟩ := h
  rfl
 ·obtain ⟨p,q,a,b,m,n,e,f,rfl,⟨dx,hp⟩,⟨dy,hq⟩,hm,hn,k⟩ := h
  refine ⟨_,(pss_one (ps_ret (pn k_Exact hr (pa_cons (pe_op op_xor (pe_fld (pv 0) rfl) (pe_fld (pv 1) rfl)) (pa_cons (pe_op op_mulB (pe_fld (pv 0) rfl) (pe_fld (pv 1) rfl)) (pa_cons (pe_op op_add (pe_fld (pv 0) rfl) (pe_fld (pv 1) rfl)) pa_nil)))))),?_⟩
  refine ⟨_,rfl,p,C,dx,_,_,rfl,hp,T.cl,T.nS,fE_s _ _ _,_,rfl,q,C,dy,_,_,rfl,hq,T.cl,T.nS,fE_s _ _ _,_,_,rfl,rfl,_,rfl,p,C,dx,_,_,rfl,hp,T.cl,T.nM,fE_m _ _ _,_,rfl,q,C,dy,_,_,rfl,hq,T.cl,T.nM,fE_m _ _ _,_,_,rfl,rfl,⟨hm.fit,hn.fit⟩,
   _,rfl,p,C,dx,_,_,rfl,hp,T.cl,T.nP,fE_p _ _ _,_,rfl,q,C,dy,_,_,rfl,hq,T.cl,T.nP,fE_p _ _ _,_,_,rfl,rfl,?_⟩
  dsimp only
  rw [bx]
  have e1 : (m : Int) * (n : Int) = ((m * n : Nat) : Int) := by simp
  rw [e1]
  show ∀ (x dx : Addr),_ → _ → _ → _
  refine new_of (n := 3) (mk := mkE) (by rfl) ?_
  exact fun p H' s1 n1 o1 => k p H' s1 n1 o1
theorem ok_tail (F : Src K mg "with_tail" s_with_tail ["sign","whole","is_more","power"]) (k_Exact : Cla P w K mg base "Exact" C 1 ["self","sign","size","power"] (spInit C 3 mkE)) : Fn P w K mg base "with_tail" 3 ["sign","whole","is_more","power"] (spTail C) := by
 refine F.fn sc_with_tail (fun vs H Q E h => ?_) (fun f cdv A outer s H vs Q E hr h => ?_)
 ·obtain ⟨neg,q,b,p,rfl,_⟩ := h
  rfl
 ·obtain ⟨neg,q,b,p,rfl,hf,k⟩ := h
  refine ⟨_,(pss_one (ps_ret (pn k_Exact hr (pa_cons (pv 0) (pa_cons (pe_op op_add (pe_op op_mulB pe_int (pv 1)) (pe_ifExp (pt_val (pv 2)) pe_int pe_int)) (pa_cons (pe_op op_sub (pv 3) pe_int) pa_nil)))))),?_⟩
  refine ⟨_,rfl,_,rfl,_,_,rfl,rfl,⟨fit_small (by decide),hf⟩,_,rfl,_,rfl,?_⟩
  cases b
  ·refine br_f rfl ⟨_,_,rfl,rfl,_,rfl,_,_,rfl,rfl,?_⟩
   have e1 : (2 : Int) * (q : Int) + 0 = ((2 * q + (if false = true then 1 else 0) : Nat) : Int) := by simp
   dsimp only
   rw [e1]
   show ∀ (x dx : Addr),_ → _ → _ → _
   refine new_of (n := 3) (mk := mkE) (by rfl) ?_
   exact fun p H' s1 n1 o1 => k p H' s1 n1 o1
  ·refine br_t rfl ⟨_,_,rfl,rfl,_,rfl,_,_,rfl,rfl,?_⟩
   have e1 : (2 : Int) * (q : Int) + 1 = ((2 * q + (if true = true then 1 else 0) : Nat) : Int) := by simp
   dsimp only
   rw [e1]
   show ∀ (x dx : Addr),_ → _ → _ → _
   refine new_of (n := 3) (mk := mkE) (by rfl) ?_
   exact fun p H' s1 n1 o1 => k p H' s1 n1 o1
theorem ok_quotient (F : Src K mg "quotient_of" s_quotient_of ["one","other"]) (T : CE K C) (c_QUOTIENT_SHIFT : Con1 mg "QUOTIENT_SHIFT" (.int 130)) (f_with_tail : Fn P w K mg base "with_tail" 3 ["sign","whole","is_more","power"] (spTail C)) : Fn P w K mg base "quotient_of" 4 ["one","other"] (spQuot C) := by
 refine F.fn sc_quotient_of (fun vs H Q E h => ?_) (fun f cdv A outer s H vs Q E hr h => ?_)
 ·obtain ⟨p,q,a,b,m,n,e,f,rfl,_⟩ := h
  rfl
 ·obtain ⟨p,q,a,b,m,n,e,f,rfl,⟨dx,hp⟩,⟨dy,hq⟩,hm,hn,h0,k⟩ := h
  refine ⟨_,(pss_cons (ps_set (i := 2) sc_quotient_of.nd rfl (Or.inl rfl) (pe_op op_shlB (pe_fld (pv 0) rfl) (pe_c1 c_QUOTIENT_SHIFT rfl)))
    (pss_cons (ps_set (i := 3) sc_quotient_of.nd rfl (Or.inl rfl) (pe_op op_sub (pe_op op_sub (pe_fld (pv 0) rfl) (pe_fld (pv 1) rfl)) (pe_c1 c_QUOTIENT_SHIFT rfl)))
    (pss_one (ps_ret (pf f_with_tail hr (pa_cons (pe_op op_xor (pe_fld (pv 0) rfl) (pe_fld (pv 1) rfl)) (pa_cons (pe_op op_fdivB (pv 2) (pe_fld (pv 1) rfl)) (pa_cons (pe_cmpR op_gt (pe_op op_mod (pv 2) (pe_fld (pv 1) rfl)) pe_int (nomark _)) (pa_cons (pv 3) pa_nil))))))))),?_⟩
  refine ⟨_,rfl,p,C,dx,_,_,rfl,hp,T.cl,T.nM,fE_m _ _ _,_,_,rfl,rfl,⟨by decide,by decide,hm.fit⟩,?_⟩
  refine ⟨_,rfl,p,C,dx,_,_,rfl,hp,T.cl,T.nP,fE_p _ _ _,_,rfl,q,C,dy,_,_,rfl,hq,T.cl,T.nP,fE_p _ _ _,_,_,rfl,rfl,_,_,rfl,rfl,?_⟩
  have hn0 : 0 < n := Nat.pos_of_ne_zero h0
  have hlog : n.log2 < 64 := (Nat.log2_lt h0).mpr hn.m
  have e1 : (m : Int) * 2 ^ (130 : Int).toNat = ((m * 2 ^ 130 : Nat) : Int) := by rw [show (130 : Int).toNat = 130 from rfl]; simp
  dsimp only
  rw [e1]
  refine ⟨_,rfl,p,C,dx,_,_,rfl,hp,T.cl,T.nS,fE_s _ _ _,_,rfl,q,C,dy,_,_,rfl,hq,T.cl,T.nS,fE_s _ _ _,_,_,rfl,rfl,_,rfl,_,rfl,q,C,dy,_,_,rfl,hq,T.cl,T.nM,fE_m _ _ _,_,_,rfl,rfl,⟨by omega,.inr (by rw [Int.natAbs_natCast]; omega)⟩,
   _,rfl,_,rfl,q,C,dy,_,_,rfl,hq,T.cl,T.nM,fE_m _ _ _,_,_,rfl,rfl,(by show (0 : Int) < (n : Int); omega),_,_,rfl,rfl,_,rfl,?_⟩
  have e3 : ((m * 2 ^ 130 : Nat) : Int) / (n : Int) = ((m * 2 ^ 130 / n : Nat) : Int) := by simp
  have e4 : ((m * 2 ^ 130 : Nat) : Int) % (n : Int) = ((m * 2 ^ 130 % n : Nat) : Int) := by simp
  dsimp only
  rw [bx,e3,e4]
  refine ⟨_,_,_,_,rfl,?_,fun r H' s1 n1 o1 => k r H' s1 n1 ?_⟩
  ·refine ⟨194,by decide,?_⟩
   rw [Int.natAbs_natCast]
   refine Nat.lt_of_le_of_lt (Nat.div_le_self _ _) ?_
   have := hm.m
   rw [show (194 : Nat) = 64 + 130 from rfl,Nat.pow_add]
   exact Nat.mul_lt_mul_of_pos_right this (Nat.two_pow_pos _)
  ·have e5 : (if decide ((0 : Int) < ((m * 2 ^ 130 % n : Nat) : Int)) = true then 1 else 0) = (if m * 2 ^ 130 % n = 0 then 0 else 1) := by
    generalize m * 2 ^ 130 % n = z
    by_cases hz : z = 0
    ·rw [hz]; rfl
    ·rw [if_neg hz,if_pos (decide_eq_true (by omega))]
   rw [e5] at o1
   exact o1
theorem ok_divided (F : Src K mg "divided" s_divided ["one","other","way"]) (T : CE K C) (n_min : mg "min" = none) (n_abs : mg "abs" = none) (f_size_by : Fn P w K mg base "size_by" 1 ["value","unit"] (spSize C)) (f_made_whole : Fn P w K mg base "made_whole" 3 ["sign","size","one","way"] spMade)
  (k_Exact : Cla P w K mg base "Exact" C 1 ["self","sign","size","power"] (spInit C 3 mkE)) (k_Division : Cla P w K mg base "Division" CD 1 ["self","whole","left"] (spInit CD 2 mkD)) : Fn P w K mg base "divided" 4 ["one","other","way"] (spDivided C CD) := by
 refine F.fn sc_divided (fun vs H Q E h => ?_) (fun f cdv A outer s H vs Q E hr h => ?_)
 ·obtain ⟨p,q,a,b,m,n,e,f,way,rfl,_⟩ := h
  rfl
 ·obtain ⟨p,q,a,b,m,n,e,f,way,rfl,⟨dx,hp⟩,⟨dy,hq⟩,hm,hn,hn0,k⟩ := h
  refine ⟨_,(pss_cons (ps_set (i := 3) sc_divided.nd rfl (Or.inl rfl) (pe_callB (call_min2 rfl) (by rfl) n_min b_min (pa_cons (pe_fld (pv 0) rfl) (pa_cons (pe_fld (pv 1) rfl) pa_nil))))
    (pss_cons (ps_set (i := 4) sc_divided.nd rfl (Or.inl rfl) (pf f_size_by hr (pa_cons (pv 0) (pa_cons (pv 3) pa_nil))))
    (pss_cons (ps_set (i := 5) sc_divided.nd rfl (Or.inl rfl) (pf f_size_by hr (pa_cons (pv 1) (pa_cons (pv 3) pa_nil))))
    (pss_cons (ps_set (i := 6) sc_divided.nd rfl (Or.inl rfl) (pf f_made_whole hr (pa_cons (pe_op op_xor (pe_fld (pv 0) rfl) (pe_fld (pv 1) rfl)) (pa_cons (pv 4) (pa_cons (pv 5) (pa_cons (pv 2) pa_nil))))))
    (pss_cons (ps_set (i := 7) sc_divided.nd rfl (Or.inl rfl) (pe_op op_sub (pv 4) (pe_op op_mulB (pv 6) (pv 5))))
    (pss_cons (ps_set (i := 8) sc_divided.nd rfl (Or.inl rfl) (pe_ifExp (pt_cmpR op_ge (pv 7) pe_int (nomark _)) (pe_fld (pv 0) rfl) (pe_op op_sub pe_int (pe_fld (pv 0) rfl))))
    (pss_one (ps_ret (pn k_Division hr (pa_cons (pv 6) (pa_cons (pn k_Exact hr (pa_cons (pv 8) (pa_cons (pe_callB call_abs (by rfl) n_abs b_abs (pa_cons (pv 7) pa_nil)) (pa_cons (pv 3) pa_nil)))) pa_nil))))))))))),?_⟩
  refine ⟨_,rfl,p,C,dx,_,_,rfl,hp,T.cl,T.nP,fE_p _ _ _,_,rfl,q,C,dy,_,_,rfl,hq,T.cl,T.nP,fE_p _ _ _,e,f,rfl,?_⟩
  dsimp only
  rw [min_if]
  have h1 := Int.min_le_left e f
  have h2 := Int.min_le_right e f
  have h3 : -16445 ≤ min e f := by have := hm.e0; have := hn.e0; omega
  have h4 := hm.e1
  have h5 := hn.e1
  refine ⟨_,rfl,_,rfl,p,_,m,e,min e f,rfl,⟨dx,hp⟩,hm.wide,h1,by omega,?_⟩
  refine ⟨_,rfl,_,rfl,q,_,n,f,min e f,rfl,⟨dy,hq⟩,hn.wide,h2,by omega,?_⟩
  have eD : n * 2 ^ (f - min e f).toNat = sizeE n f e := by unfold sizeE; rw [min_comm']
  have eP : m * 2 ^ (e - min e f).toNat = sizeE m e f := rfl
  rw [eD,eP]
  have hP : sizeE m e f < 2 ^ 40000 := by
   unfold sizeE
   refine Nat.lt_of_lt_of_le (Nat.mul_lt_mul_of_pos_right hm.m (Nat.two_pow_pos _)) ?_
   rw [← Nat.pow_add]
   exact Nat.pow_le_pow_right (by decide) (by omega)
  have hD : sizeE n f e < 2 ^ 40000 := by
   rw [← eD]
   refine Nat.lt_of_lt_of_le (Nat.mul_lt_mul_of_pos_right hn.m (Nat.two_pow_pos _)) ?_
   rw [← Nat.pow_add]
   exact Nat.pow_le_pow_right (by decide) (by omega)
  have hD0 : 0 < sizeE n f e := by
   rw [← eD]
   exact Nat.mul_pos (Nat.pos_of_ne_zero hn0) (Nat.two_pow_pos _)
  have hC : sizeE m e f < sizeE n f e * 2 ^ 4000 ∨ (sizeE n f e).log2 < 9000 := by
   by_cases hef : e ≤ f
   ·left
    have e1 : sizeE m e f = m := by
     unfold sizeE
     have : (e - min e f).toNat = 0 := by omega
     rw [this,Nat.pow_zero,Nat.mul_one]
    rw [e1]
    have a1 : 2 ^ 64 ≤ 2 ^ 4000 := Nat.pow_le_pow_right (by decide) (by decide)
    exact Nat.lt_of_lt_of_le hm.m (Nat.le_trans a1 (Nat.le_mul_of_pos_left _ hD0))
   ·right
    have e1 : sizeE n f e = n := by
     unfold sizeE
     have : (f - min f e).toNat = 0 := by omega
     rw [this,Nat.pow_zero,Nat.mul_one]
    rw [e1]
    have := (Nat.log2_lt hn0).mpr hn.m
    omega
  refine ⟨_,rfl,p,C,dx,_,_,rfl,hp,T.cl,T.nS,fE_s _ _ _,_,rfl,q,C,dy,_,_,rfl,hq,T.cl,T.nS,fE_s _ _ _,_,_,rfl,rfl,_,rfl,_,rfl,_,rfl,?_⟩
  dsimp only
  rw [bx]
  refine ⟨a != b,_,_,way,rfl,hD0,⟨40000,by decide,by rw [Int.natAbs_natCast]; exact hP⟩,hC,?_⟩
  have eW : madeE way (a != b) (sizeE m e f) (sizeE n f e) = wholeE way a b m e n f := rfl
  rw [eW]
  have hW : wholeE way a b m e n f < 2 ^ 40001 := by
   have h6 : wholeE way a b m e n f ≤ sizeE m e f + 1 := made_le _ _ _ _
   have h7 : 2 ^ 40001 = 2 ^ 40000 * 2 := by rw [← Nat.pow_succ]
   have h8 := Nat.two_pow_pos 40000
   generalize 2 ^ 40000 = z at *
   omega
  refine ⟨_,rfl,_,rfl,_,rfl,_,_,rfl,rfl,⟨⟨40001,by decide,by rw [Int.natAbs_natCast]; exact hW⟩,⟨40000,by decide,by rw [Int.natAbs_natCast]; exact hD⟩⟩,_,_,rfl,rfl,?_⟩
  have eL : (sizeE m e f : Int) - (wholeE way a b m e n f : Int) * (sizeE n f e : Int) = leftE way a b m e n f := rfl
  dsimp only
  rw [eL]
  generalize leftE way a b m e n f = lft at *
  have e2 : (if lft < 0 then -lft else lft) = ((lft.natAbs : Nat) : Int) := by split <;> omega
  refine ⟨_,rfl,_,_,rfl,rfl,_,rfl,?_⟩
  refine br2 (fun h => ?_) (fun h => ?_)
  ·have h0 : (0 : Int) ≤ lft := of_decide_eq_true h
   rw [if_pos h0] at k
   refine ⟨_,rfl,p,C,dx,_,_,rfl,hp,T.cl,T.nS,fE_s _ _ _,?_⟩
   refine ⟨_,rfl,_,rfl,_,rfl,lft,rfl,_,rfl,?_⟩
   dsimp only
   rw [e2]
   show ∀ (x dx : Addr),_ → _ → _ → _
   refine new_of (n := 3) (mk := mkE) (by rfl) fun r H1 s1 n1 o1 => ?_
   show ∀ (x dx : Addr),_ → _ → _ → _
   refine new_of (n := 2) (mk := mkD) (by rfl) fun d H2 s2 n2 o2 => ?_
   exact k d r H2 (s1.trans s2) o2 (o1.same s2)
  ·have h0 : ¬ (0 : Int) ≤ lft := of_decide_eq_false h
   rw [if_neg h0] at k
   refine ⟨_,rfl,p,C,dx,_,_,rfl,hp,T.cl,T.nS,fE_s _ _ _,_,_,rfl,rfl,?_⟩
   dsimp only
   rw [ob_not]
   refine ⟨_,rfl,_,rfl,_,rfl,lft,rfl,_,rfl,?_⟩
   dsimp only
   rw [e2]
   show ∀ (x dx : Addr),_ → _ → _ → _
   refine new_of (n := 3) (mk := mkE) (by rfl) fun r H1 s1 n1 o1 => ?_
   show ∀ (x dx : Addr),_ → _ → _ → _
   refine new_of (n := 2) (mk := mkD) (by rfl) fun d H2 s2 n2 o2 => ?_
   exact k d r H2 (s1.trans s2) o2 (o1.same s2)
end
abbrev s_whole_root : Stmt := top 113
theorem sc_whole_root : FnScope ["n","root","lower"] ["n"] (defScope s_whole_root) := ⟨rfl,rfl,rfl,by decide +kernel,rfl,by decide +kernel,by decide +kernel⟩
abbrev s_root_of : Stmt := top 114
theorem sc_root_of : FnScope ["value","shift","size","root"] ["value"] (defScope s_root_of) := ⟨rfl,rfl,rfl,by decide +kernel,rfl,by decide +kernel,by decide +kernel⟩
theorem sq_mean (x y : Nat) : 4 * (x * y) ≤ (x + y) * (x + y) := by
 rcases Nat.le_total x y with h | h
 ·obtain ⟨d,rfl⟩ := Nat.le.dest h
  have e : (x + (x + d)) * (x + (x + d)) = 4 * (x * (x + d)) + d * d := by
   simp only [Nat.mul_add,Nat.add_mul]
   rw [Nat.mul_comm d x]
   omega
  rw [e]
  exact Nat.le_add_right _ _
 ·obtain ⟨d,rfl⟩ := Nat.le.dest h
  have e : (y + d + y) * (y + d + y) = 4 * ((y + d) * y) + d * d := by
   simp only [Nat.mul_add,Nat.add_mul]
   rw [Nat.mul_comm d y]
   omega
  rw [e]
  exact Nat.le_add_right _ _
theorem root_step {n a : Nat} (h : 0 < a) : n < ((a + n / a) / 2 + 1) * ((a + n / a) / 2 + 1) := by
 have h1 : n < a * (n / a + 1) := Nat.lt_mul_div_succ n h
 generalize n / a = q at *
 have h2 := sq_mean a (q + 1)
 have h3 : a + (q + 1) ≤ 2 * ((a + q) / 2 + 1) := by omega
 have h4 : (a + (q + 1)) * (a + (q + 1)) ≤ (2 * ((a + q) / 2 + 1)) * (2 * ((a + q) / 2 + 1)) := Nat.mul_le_mul h3 h3
 generalize (a + q) / 2 + 1 = s at *
 have h5 : 2 * s * (2 * s) = 4 * (s * s) := by
  rw [Nat.mul_assoc,Nat.mul_left_comm s 2 s,← Nat.mul_assoc]
 rw [h5] at h4
 omega
theorem root_end {n a : Nat} (h : 0 < a) (hl : ¬ (a + n / a) / 2 < a) : a * a ≤ n := by
 have h1 : a ≤ n / a := by omega
 exact (Nat.le_div_iff_mul_le h).mp h1
theorem root_start {n : Nat} (h : n ≠ 0) : n < 2 ^ ((Nat.log2 n + 2) / 2) * 2 ^ ((Nat.log2 n + 2) / 2) := by
 rw [← Nat.pow_add]
 exact Nat.lt_of_lt_of_le Nat.lt_log2_self (Nat.pow_le_pow_right (by decide) (by omega))
def spRoot : Sp := fun vs H Q _ => ∃ n : Nat,vs = [.int n] ∧ n ≠ 0 ∧ n < 2 ^ 1000 ∧ ∀ r : Nat,IsRoot n r → Q (.int r) H
def spRootOf (C : Addr) : Sp := fun vs H Q _ => ∃ a neg m e,vs = [.ref a] ∧ Ex C H a neg m e ∧ FPre m e ∧ m ≠ 0 ∧
 ∀ (s r : Nat) p H',s = 134 + (e % 2).toNat → IsRoot (m * 2 ^ s) r → Same H H' → H p = none → Ex C H' p false (rootE (m * 2 ^ s) r) ((e - (s : Int)) / 2 - 1) → Q (.ref p) H'
section
variable {P : Program} {w : World} {K : PySem.W.Frag} {mg : Str → Option Value} {base : Heap} {C CF CR CD : Addr}
theorem ok_whole_root (F : Src K mg "whole_root" s_whole_root ["n"]) : Fn P w K mg base "whole_root" 1 ["n"] spRoot := by
 refine F.fn sc_whole_root (fun vs H Q E h => ?_) (fun f cdv A outer s H vs Q E hr h => ?_)
 ·obtain ⟨n,rfl,_⟩ := h
  rfl
 ·obtain ⟨n,rfl,h0,hn,k⟩ := h
  refine ⟨_,(pss_cons (ps_set (i := 1) sc_whole_root.nd rfl (Or.inl rfl) (pe_op op_shlB pe_int (pe_op op_fdivB (pe_op op_add (pe_bm0 PySem.F.plainAttrs_int PySem.F.slot_int_bit_length PySem.F.type_int_bit_length mt_bitlen (pv 0)) pe_int) pe_int)))
    (pss_cons (ps_set (i := 2) sc_whole_root.nd rfl (Or.inl rfl) (pe_op op_fdivB (pe_op op_add (pv 1) (pe_op op_fdivB (pv 0) (pv 1))) pe_int))
    (pss_cons (ps_while PassesOwn.never (pt_cmpR op_lt (pv 2) (pv 1) (nomark _)) (pss_cons (ps_set (i := 1) sc_whole_root.nd rfl (Or.inl rfl) (pv 2))
    (pss_one (ps_set (i := 2) sc_whole_root.nd rfl (Or.inl rfl) (pe_op op_fdivB (pe_op op_add (pv 1) (pe_op op_fdivB (pv 0) (pv 1))) pe_int)))))
    (pss_one (ps_ret (pv 1)))))),?_⟩
  have hlog : n.log2 < 1000 := (Nat.log2_lt h0).mpr hn
  have eb : bl (n : Int) = (Nat.log2 n : Int) + 1 := bl_log n h0
  refine ⟨_,rfl,rfl,_,rfl,rfl,_,_,rfl,rfl,_,_,rfl,rfl,⟨by decide,.inr (by decide)⟩,_,_,rfl,rfl,⟨?_,?_,fit_small (by decide)⟩,?_⟩
  ·show 0 ≤ (bl (n : Int) + 1) / 2
   rw [eb]; omega
  ·show (bl (n : Int) + 1) / 2 ≤ 1000000
   rw [eb]; omega
  have es : (1 : Int) * 2 ^ ((bl (n : Int) + 1) / 2).toNat = ((2 ^ ((Nat.log2 n + 2) / 2) : Nat) : Int) := by
   rw [eb]
   have e1 : (((Nat.log2 n : Int) + 1 + 1) / 2).toNat = (Nat.log2 n + 2) / 2 := by omega
   rw [e1]
   simp
  dsimp only
  rw [es]
  have hst := root_start h0
  have hpos := Nat.two_pow_pos ((Nat.log2 n + 2) / 2)
  have hle : 2 ^ ((Nat.log2 n + 2) / 2) ≤ 2 ^ 1000 := Nat.pow_le_pow_right (by decide) (by omega)
  generalize 2 ^ ((Nat.log2 n + 2) / 2) = r0 at *
  have lower : ∀ r : Nat,0 < r → ((r : Int) + (n : Int) / (r : Int)) / 2 = (((r + n / r) / 2 : Nat) : Int) := fun r _ => by simp
  have lg : ∀ r : Nat,r ≠ 0 → r ≤ 2 ^ 1000 → r.log2 < 9000 := fun r h1 h2 => by
   refine (Nat.log2_lt h1).mpr (Nat.lt_of_le_of_lt h2 (Nat.pow_lt_pow_right (by decide) (by decide)))
  refine ⟨_,rfl,_,rfl,_,rfl,_,_,rfl,rfl,⟨by omega,.inr (by rw [Int.natAbs_natCast]; exact lg _ (by omega) hle)⟩,_,_,rfl,rfl,_,_,rfl,rfl,⟨by decide,.inr (by decide)⟩,?_⟩
  dsimp only
  rw [lower r0 hpos]
  refine while_by (fun σ H' => H' = H ∧ ∃ r : Nat,σ = [some (.int n),some (.int r),some (.int ((r + n / r) / 2 : Nat))] ∧ 0 < r ∧ r ≤ 2 ^ 1000 ∧ n < (r + 1) * (r + 1)) (fun σ _ => match σ with
   | [_,some (.int j),_] => j.toNat
   | _ => 0) ⟨rfl,r0,rfl,hpos,hle,Nat.lt_of_lt_of_le hst (Nat.mul_le_mul (Nat.le_succ _) (Nat.le_succ _))⟩ ?_ ?_
  ·rintro σ H' ⟨rfl,r,rfl,hr0,hr1,hr2⟩
   refine ⟨_,rfl,_,rfl,_,_,rfl,rfl,_,rfl,?_⟩
   refine br2 (fun h => ?_) (fun h => ?_)
   ·have hlt : (r + n / r) / 2 < r := by have := of_decide_eq_true h; omega
    have hs := root_step (n := n) hr0
    have hl0 : 0 < (r + n / r) / 2 := by
     rcases Nat.eq_zero_or_pos ((r + n / r) / 2) with h1 | h1
     ·rw [h1] at hs; omega
     ·exact h1
    have hl1 : (r + n / r) / 2 ≤ 2 ^ 1000 := by omega
    generalize (r + n / r) / 2 = t at *
    refine ⟨_,rfl,?_⟩
    refine ⟨_,rfl,_,rfl,_,rfl,_,_,rfl,rfl,⟨by omega,.inr (by rw [Int.natAbs_natCast]; exact lg _ (by omega) hl1)⟩,_,_,rfl,rfl,_,_,rfl,rfl,⟨by decide,.inr (by decide)⟩,?_⟩
    dsimp only
    rw [lower t hl0]
    refine ⟨⟨rfl,t,rfl,hl0,hl1,hs⟩,?_⟩
    show ((t : Int)).toNat < ((r : Int)).toNat
    omega
   ·have hlt : ¬ (r + n / r) / 2 < r := by have := of_decide_eq_false h; omega
    exact ⟨_,rfl,k r ⟨root_end hr0 hlt,hr2⟩⟩
  ·rintro σ H2 Q1 Q2 hm ⟨v,h1,w',h2,i,j,h5,h6,z,h7,h8⟩
   exact ⟨v,h1,w',h2,i,j,h5,h6,z,h7,hm _ _ h8⟩
theorem ok_root_of (F : Src K mg "root_of" s_root_of ["value"]) (T : CE K C) (c_ROOT_SHIFT : Con1 mg "ROOT_SHIFT" (.int 134)) (f_whole_root : Fn P w K mg base "whole_root" 1 ["n"] spRoot) (f_with_tail : Fn P w K mg base "with_tail" 3 ["sign","whole","is_more","power"] (spTail C)) : Fn P w K mg base "root_of" 4 ["value"] (spRootOf C) := by
 refine F.fn sc_root_of (fun vs H Q E h => ?_) (fun f cdv A outer s H vs Q E hr h => ?_)
 ·obtain ⟨a,neg,m,e,rfl,_⟩ := h
  rfl
 ·obtain ⟨a,neg,m,e,rfl,⟨dx,ha⟩,hm,h0,k⟩ := h
  refine ⟨_,(pss_cons (ps_set (i := 1) sc_root_of.nd rfl (Or.inl rfl) (pe_op op_add (pe_c1 c_ROOT_SHIFT rfl) (pe_op op_mod (pe_fld (pv 0) rfl) pe_int)))
    (pss_cons (ps_set (i := 2) sc_root_of.nd rfl (Or.inl rfl) (pe_op op_shlB (pe_fld (pv 0) rfl) (pv 1)))
    (pss_cons (ps_set (i := 3) sc_root_of.nd rfl (Or.inl rfl) (pf f_whole_root hr (pa_cons (pv 2) pa_nil)))
    (pss_one (ps_ret (pf f_with_tail hr (pa_cons pe_int (pa_cons (pv 3) (pa_cons (pe_cmpR op_lt (pe_op op_mulB (pv 3) (pv 3)) (pv 2) (nomark _)) (pa_cons (pe_op op_fdivB (pe_op op_sub (pe_fld (pv 0) rfl) (pv 1)) pe_int) pa_nil)))))))))),?_⟩
  refine ⟨_,rfl,a,C,dx,_,_,rfl,ha,T.cl,T.nP,fE_p _ _ _,_,_,rfl,rfl,(by show (0 : Int) < 2; decide),_,_,rfl,rfl,?_⟩
  have he2 : e % 2 = ((e % 2).toNat : Int) := by omega
  have he3 : (e % 2).toNat ≤ 1 := by omega
  have es : (134 : Int) + e % 2 = ((134 + (e % 2).toNat : Nat) : Int) := by omega
  have k1 := k (134 + (e % 2).toNat)
  have hs1 : 134 + (e % 2).toNat ≤ 135 := by omega
  dsimp only
  rw [es]
  generalize hsg : 134 + (e % 2).toNat = sh at *
  refine ⟨_,rfl,a,C,dx,_,_,rfl,ha,T.cl,T.nM,fE_m _ _ _,_,rfl,_,_,rfl,rfl,⟨by omega,by omega,hm.fit⟩,?_⟩
  have en : (m : Int) * 2 ^ ((sh : Nat) : Int).toNat = ((m * 2 ^ sh : Nat) : Int) := by rw [Int.toNat_natCast]; simp
  dsimp only
  rw [en]
  have hN0 : m * 2 ^ sh ≠ 0 := Nat.ne_of_gt (Nat.mul_pos (Nat.pos_of_ne_zero h0) (Nat.two_pow_pos _))
  have hN1 : m * 2 ^ sh < 2 ^ 200 := by
   refine Nat.lt_of_lt_of_le (Nat.mul_lt_mul_of_pos_right hm.m (Nat.two_pow_pos _)) ?_
   rw [← Nat.pow_add]
   exact Nat.pow_le_pow_right (by decide) (by omega)
  refine ⟨_,rfl,m * 2 ^ sh,rfl,hN0,Nat.lt_of_lt_of_le hN1 (Nat.pow_le_pow_right (by decide) (by decide)),fun r hr => ?_⟩
  have hrn : r ≤ m * 2 ^ sh := by
   have h1 := hr.1
   rcases Nat.eq_zero_or_pos r with h2 | h2
   ·omega
   ·exact Nat.le_trans (Nat.le_mul_of_pos_left r h2) h1
  have hfr : Fit (r : Int) := ⟨200,by decide,by rw [Int.natAbs_natCast]; omega⟩
  refine ⟨_,rfl,_,rfl,_,rfl,_,_,rfl,rfl,⟨hfr,hfr⟩,_,rfl,_,_,rfl,rfl,_,rfl,a,C,dx,_,_,rfl,ha,T.cl,T.nP,fE_p _ _ _,_,rfl,_,_,rfl,rfl,_,_,rfl,rfl,⟨by decide,.inr (by decide)⟩,?_⟩
  refine ⟨false,r,_,_,rfl,hfr,fun p H' s1 n1 o1 => k1 r p H' rfl hr s1 n1 ?_⟩
  have e5 : (if decide ((r : Int) * (r : Int) < ((m * 2 ^ sh : Nat) : Int)) = true then 1 else 0) = (if r * r = m * 2 ^ sh then 0 else 1) := by
   have h1 := hr.1
   have e6 : (r : Int) * (r : Int) = ((r * r : Nat) : Int) := by simp
   rw [e6]
   generalize r * r = z at *
   generalize m * 2 ^ sh = y at *
   by_cases hz : z = y
   ·rw [if_pos hz,if_neg (by rw [decide_eq_false (by omega)]; exact Bool.false_ne_true)]
   ·rw [if_neg hz,if_pos (decide_eq_true (by omega))]
  rw [e5] at o1
  exact o1
end
end Rr
end
section
namespace Rr
open Rd20 (units more)
theorem lo79 {x : Nat} (h : x < 2 ^ 80) : x % 2 ^ 79 = Rd20.expOf x * 2 ^ 64 + Rd20.sizeOf x := by
 unfold Rd20.expOf Rd20.sizeOf
 omega
theorem ws79 {x : Nat} (h : x < 2 ^ 80) : wsE (Rd20.signOf x) (x % 2 ^ 79) = x := by
 unfold wsE Rd20.signOf
 by_cases h1 : 2 ^ 79 ≤ x
 ·rw [decide_eq_true h1,if_pos rfl]; omega
 ·rw [decide_eq_false h1,if_neg Bool.false_ne_true]; omega
theorem inf_ws (neg : Bool) : wsE neg INFn = Rd20.INF neg := by cases neg <;> decide +kernel
theorem inf_iff {x : Nat} : infE x = true ↔ Rd20.expOf x = 32767 ∧ Rd20.sizeOf x = 2 ^ 63 := by
 unfold infE
 rw [Bool.and_eq_true,decide_eq_true_iff,decide_eq_true_iff]
theorem inf_is {x : Nat} (h : x < 2 ^ 80) (hi : infE x = true) : x = Rd20.INF (Rd20.signOf x) := by
 obtain ⟨h1,h2⟩ := inf_iff.mp hi
 have e := ws79 h
 rw [lo79 h,h1,h2] at e
 unfold Rd20.INF
 rw [put_ws,e]
theorem Num80.lt {x : Nat} (h : Num80 x) : x < 2 ^ 80 := h.1
theorem num_right {x : Nat} (h : Num80 x) : (Rd20.expOf x = 0 → Rd20.sizeOf x < 2 ^ 63) ∧ (Rd20.expOf x ≠ 0 → 2 ^ 63 ≤ Rd20.sizeOf x) := by
 have h1 := h.2.1
 unfold Rd20.right at h1
 rw [decide_eq_true h.1,Bool.true_and] at h1
 refine ⟨fun h0 => ?_,fun h0 => ?_⟩
 ·rw [if_pos h0] at h1; exact of_decide_eq_true h1
 ·rw [if_neg h0] at h1; exact of_decide_eq_true h1
theorem Num80.ne {x : Nat} (h : Num80 x) : x ≠ EMn := fun e => by
 have := h.2.1
 rw [e,EM_right] at this
 cases this
theorem fin_pre {x : Nat} (h : ¬ Rd20.expOf x = 32767) : FPre (Rd20.sizeOf x) (powE x) := ⟨sizeOf_lt x,(pow_bounds h).1,(pow_bounds h).2⟩
theorem zero_iff {x : Nat} (h : Num80 x) : x % 2 ^ 79 = 0 ↔ Rd20.sizeOf x = 0 := by
 rw [lo79 h.1]
 constructor
 ·intro h1; omega
 ·intro h1
  by_cases h0 : Rd20.expOf x = 0
  ·rw [h0,h1]
  ·have := (num_right h).2 h0
   omega
theorem zero_is {x : Nat} (h : Num80 x) (h0 : Rd20.sizeOf x = 0) : x = Rd20.put (Rd20.signOf x) 0 0 := by
 have e := ws79 h.1
 rw [(zero_iff h).mpr h0] at e
 rw [put_ws]
 exact e.symm
theorem zero_fin (a : Bool) (m : Nat) (e : Int) : Rd20.isZero (.fin a m e) = decide (m = 0) := by cases m <;> rfl
theorem not_nan {x : Nat} (h : Num80 x) (hn : x ≠ NONEn) : Rd20.worth x ≠ .nan := fun e => hn ((worth_nan h).mp e)
theorem worth3 {x : Nat} (h : Num80 x) (hn : x ≠ NONEn) : (infE x = true ∧ Rd20.worth x = .inf (Rd20.signOf x) ∧ x = Rd20.INF (Rd20.signOf x)) ∨ (infE x = false ∧ Rd20.worth x = .fin (Rd20.signOf x) (Rd20.sizeOf x) (powE x) ∧ FPre (Rd20.sizeOf x) (powE x)) := by
 cases hi : infE x with
 | true => exact .inl ⟨rfl,worth_inf hi,inf_is h.1 hi⟩
 | false => exact .inr ⟨rfl,worth_fin (fin_of h hn hi),fin_pre (fin_of h hn hi)⟩
theorem zero_worth {x : Nat} (h : Num80 x) (hn : x ≠ NONEn) : decide (x % 2 ^ 79 = 0) = Rd20.isZero (Rd20.worth x) := by
 rcases worth3 h hn with ⟨hi,hw,hx⟩ | ⟨hi,hw,hp⟩
 ·rw [hw]
  have h2 := (inf_iff.mp hi).2
  refine decide_eq_false fun z => ?_
  rw [(zero_iff h).mp z] at h2
  cases h2
 ·rw [hw,zero_fin]
  exact decide_eq_decide.mpr (zero_iff h)
theorem neg_worth {x : Nat} (h : Num80 x) (hn : x ≠ NONEn) : Rd20.negative (Rd20.worth x) = Rd20.signOf x := by
 rcases worth3 h hn with ⟨hi,hw,hx⟩ | ⟨hi,hw,hp⟩ <;> rw [hw] <;> rfl
theorem opp_parts {x : Nat} (h : x < 2 ^ 80) : oppE x < 2 ^ 80 ∧ Rd20.expOf (oppE x) = Rd20.expOf x ∧ Rd20.sizeOf (oppE x) = Rd20.sizeOf x ∧ Rd20.signOf (oppE x) = !Rd20.signOf x := by
 unfold oppE
 rw [lo79 h]
 exact parts (expOf_lt x) (sizeOf_lt x)
theorem opp_ok {x : Nat} (h : Num80 x) (hn : x ≠ NONEn) : Num80 (oppE x) ∧ oppE x ≠ NONEn ∧ Rd20.worth (oppE x) = Rd20.minus (Rd20.worth x) := by
 obtain ⟨p1,p2,p3,p4⟩ := opp_parts h.1
 have hw : Rd20.worth (oppE x) = Rd20.minus (Rd20.worth x) := by
  unfold Rd20.worth
  rw [p2,p3,p4]
  by_cases h1 : Rd20.expOf x = 32767
  ·rw [if_pos h1,if_pos h1]
   by_cases h2 : Rd20.sizeOf x = 2 ^ 63
   ·rw [if_pos h2,if_pos h2]; rfl
   ·rw [if_neg h2,if_neg h2]; rfl
  ·rw [if_neg h1,if_neg h1]; rfl
 have hN : Rd20.worth (oppE x) ≠ .nan := by
  rw [hw]
  rcases worth3 h hn with ⟨hi,hw,hx⟩ | ⟨hi,hw,hp⟩ <;> rw [hw] <;> exact fun z => nomatch z
 have h80 : Num80 (oppE x) := by
  refine ⟨p1,?_,?_⟩
  ·have := h.2.1
   unfold Rd20.right at this ⊢
   rw [p2,p3]
   rw [decide_eq_true h.1] at this
   rw [decide_eq_true p1]
   exact this
  ·unfold Rd20.plain
   rw [if_neg hN]
 exact ⟨h80,fun z => hN ((worth_nan h80).mpr z),hw⟩
theorem made0 (bits way : Nat) (neg : Bool) (e : Int) : Rd20.made bits way (.fin neg 0 e) = (Rd20.put neg 0 0,0) := by
 unfold Rd20.made
 dsimp only
 rw [if_pos rfl]
theorem made1 {bits way : Nat} {neg : Bool} {m : Nat} {e : Int} (h : m ≠ 0) : Rd20.made bits way (.fin neg m e) = (Rd20.extended neg (Rd20.round bits (-16382) 16384 way neg m e).1,(Rd20.round bits (-16382) 16384 way neg m e).2) := by
 unfold Rd20.made
 dsimp only
 rw [if_neg h]
theorem made_round {bits way : Nat} {neg : Bool} {m : Nat} {e : Int} (hb : 1 ≤ bits) (hb2 : bits ≤ 64) :
  numE neg (roundE bits (-16382) 16384 way neg m e).1.1 (roundE bits (-16382) 16384 way neg m e).1.2 = (Rd20.made bits way (.fin neg m e)).1 ∧ (roundE bits (-16382) 16384 way neg m e).2 = (((Rd20.made bits way (.fin neg m e)).2 : Nat) : Int) := by
 by_cases h : m = 0
 ·subst h
  rw [made0]
  unfold roundE
  rw [if_pos rfl]
  refine ⟨?_,rfl⟩
  unfold numE
  rw [if_pos rfl,put_ws]
 ·rw [made1 h,round_eq h hb]
  exact ⟨num_round hb hb2,rfl⟩
def resE (bits way : Nat) (r : Rd20.Res) : Nat × Nat := ((Rd20.made bits way r.1).1,r.2 ||| (Rd20.made bits way r.1).2)
theorem res_none (bits way : Nat) : resE bits way (.nan,1) = (NONEn,1) := by
 unfold resE Rd20.made
 dsimp only
 rw [NONE_eq,Nat.or_zero]
theorem res_inf (bits way : Nat) (a : Bool) : resE bits way (.inf a,0) = (Rd20.INF a,0) := by
 unfold resE Rd20.made
 dsimp only
 rw [Nat.or_zero]
theorem res_fin (bits way : Nat) (x : Rd20.Num) : resE bits way (x,0) = Rd20.made bits way x := by
 unfold resE
 dsimp only
 rw [Nat.zero_or]
theorem made_sum (bits way : Nat) (a b : Bool) (m n : Nat) (e f : Int) :
  Rd20.made bits way (.fin (if sumE a m e b n f = 0 then sgZ a b way else decide (sumE a m e b n f < 0)) (sumE a m e b n f).natAbs (min e f)) = resE bits way (Rd20.plus way (.fin a m e) (.fin b n f)) := by
 have hp : Rd20.plus way (.fin a m e) (.fin b n f) = (if sumE a m e b n f = 0 then .fin (sgZ a b way) 0 0 else .fin (decide (sumE a m e b n f < 0)) (sumE a m e b n f).natAbs (min e f),0) := rfl
 rw [hp,res_fin]
 by_cases h : sumE a m e b n f = 0
 ·rw [if_pos h,if_pos h,h]
  rw [show (0 : Int).natAbs = 0 from rfl,made0,made0]
 ·rw [if_neg h,if_neg h]
theorem quo0 {m n s : Nat} (h : m = 0) : quo m n s = 0 := by
 unfold quo
 rw [h,Nat.zero_mul,Nat.zero_div,Nat.zero_mod,if_pos rfl]
theorem quo_ne {m n s bits : Nat} (h : 2 ^ (bits + 1) ≤ m * 2 ^ s / n) : quo m n s ≠ 0 := by
 unfold quo
 have := Nat.two_pow_pos (bits + 1)
 omega
theorem quo130 {m n bits : Nat} (hm : m ≠ 0) (hn : n ≠ 0) (h : n < 2 ^ 64) (hb : bits ≤ 64) : 2 ^ (bits + 1) ≤ m * 2 ^ 130 / n := by
 rw [Nat.le_div_iff_mul_le (Nat.pos_of_ne_zero hn)]
 have h1 : 2 ^ (bits + 1) * n ≤ 2 ^ (bits + 1) * 2 ^ 64 := Nat.mul_le_mul_left _ (Nat.le_of_lt h)
 have h2 : 2 ^ (bits + 1) * 2 ^ 64 ≤ 2 ^ 130 := by
  rw [← Nat.pow_add]
  exact Nat.pow_le_pow_right (by decide) (by omega)
 exact Nat.le_trans h1 (Nat.le_trans h2 (Nat.le_mul_of_pos_left _ (Nat.pos_of_ne_zero hm)))
theorem made_quo {bits way : Nat} {a b : Bool} {m n : Nat} {e f : Int} (hn : n ≠ 0) (hlt : n < 2 ^ 64) (hb : bits ≤ 64) :
  Rd20.made bits way (.fin (a != b) (quo m n 130) (e - f - 130 - 1)) = resE bits way (Rd20.by_ (.fin a m e) (.fin b n f)) := by
 rw [by_fin a b e f hn,res_fin]
 by_cases hm : m = 0
 ·rw [quo0 hm,quo0 hm,made0,made0]
 ·have h1 := quo130 hm hn hlt hb
  have h2 := by_enough hm hn hb
  rw [made1 (quo_ne h1),made1 (quo_ne h2)]
  rw [show (e - f - 130 - 1 : Int) = e - f - ((130 : Nat) : Int) - 1 from rfl,quo_any (Nat.pos_of_ne_zero hn) h1 h2]
theorem rootE_ne {n r bits : Nat} (h : 2 ^ (bits + 1) ≤ r) : rootE n r ≠ 0 := by
 unfold rootE
 have := Nat.two_pow_pos (bits + 1)
 omega
theorem root_enough2 {m s bits r : Nat} (hm : m ≠ 0) (hs : 134 ≤ s) (hb : bits ≤ 64) (a : IsRoot (m * 2 ^ s) r) : 2 ^ (bits + 1) ≤ r := by
 rcases Nat.lt_or_ge r (2 ^ (bits + 1)) with h | h
 ·have h1 : (r + 1) * (r + 1) ≤ 2 ^ (bits + 1) * 2 ^ (bits + 1) := Nat.mul_le_mul h h
  rw [← Nat.pow_add] at h1
  have h2 : 2 ^ (bits + 1 + (bits + 1)) ≤ 2 ^ s := Nat.pow_le_pow_right (by decide) (by omega)
  have h3 : 2 ^ s ≤ m * 2 ^ s := Nat.le_mul_of_pos_left _ (Nat.pos_of_ne_zero hm)
  have h4 := a.2
  omega
 ·exact h
theorem made_root {bits way : Nat} {m s r : Nat} {e : Int} (hm : m ≠ 0) (hb : bits ≤ 64) (hs : s = 134 + (e % 2).toNat) (hr : IsRoot (m * 2 ^ s) r) :
  Rd20.made bits way (.fin false (rootE (m * 2 ^ s) r) ((e - (s : Int)) / 2 - 1)) = resE bits way (Rd20.root (.fin false m e)) := by
 rw [root_fin e hm,res_fin]
 have h1 := root_enough2 hm (by omega) hb hr
 have ht : ∃ t : Nat,(if e % 2 = 0 then 160 else 161) = t ∧ 160 ≤ t ∧ s % 2 = t % 2 := by
  by_cases h : e % 2 = 0
  ·exact ⟨160,if_pos h,by decide,by omega⟩
  ·exact ⟨161,if_neg h,by decide,by omega⟩
 obtain ⟨t,et,ht,hp⟩ := ht
 rw [et]
 have hr2 := root_is (m * 2 ^ t)
 have h2 := root_enough hm ht hb hr2
 rw [made1 (rootE_ne h1),made1 (rootE_ne h2)]
 rw [root_any hr hr2 hp h1 h2 (by omega)]
theorem units_shift (way : Nat) (neg : Bool) (m : Nat) (e u : Int) (j : Nat) : units way neg (m * 2 ^ j) (e - (j : Int)) u = units way neg m e u := by
 by_cases h1 : u ≤ e - (j : Int)
 ·rw [units_exact h1,units_exact (by omega),Nat.mul_assoc,← Nat.pow_add]
  have e1 : j + (e - (j : Int) - u).toNat = (e - u).toNat := by omega
  rw [e1]
 ·by_cases h2 : u ≤ e
  ·rw [units_cut h1,units_exact h2]
   have ek : ∃ k : Nat,(u - (e - (j : Int))).toNat = k ∧ k ≤ j ∧ (e - u).toNat = j - k := ⟨_,rfl,by omega,by omega⟩
   obtain ⟨k,k1,k2,k3⟩ := ek
   rw [k1,k3]
   have e2 : m * 2 ^ j = m * 2 ^ (j - k) * 2 ^ k := by
    rw [Nat.mul_assoc,← Nat.pow_add]
    congr 2
    omega
   rw [e2,Nat.mul_mod_left,more0,if_neg Bool.false_ne_true,Nat.mul_div_cancel _ (Nat.two_pow_pos _)]
   rfl
  ·rw [units_cut h1,units_cut h2]
   have ek : ∃ k : Nat,(u - e).toNat = k ∧ (u - (e - (j : Int))).toNat = k + j := ⟨_,rfl,by omega⟩
   obtain ⟨k,k1,k2⟩ := ek
   rw [k1,k2,Nat.pow_add,Nat.mul_div_mul_right _ _ (Nat.two_pow_pos j),Nat.mul_mod_mul_right]
   have hp := Nat.two_pow_pos j
   generalize 2 ^ j = p at *
   generalize m % 2 ^ k = R
   generalize 2 ^ k = Y
   have f0 : R * p = 0 ↔ R = 0 := ⟨fun h => by rcases Nat.mul_eq_zero.mp h with h | h <;> omega,fun h => by rw [h,Nat.zero_mul]⟩
   have f1 : Y * p < 2 * (R * p) ↔ Y < 2 * R := by
    rw [← Nat.mul_assoc]
    exact ⟨fun h => Nat.lt_of_mul_lt_mul_right h,fun h => Nat.mul_lt_mul_of_pos_right h hp⟩
   have f2 : 2 * (R * p) = Y * p ↔ 2 * R = Y := by
    rw [← Nat.mul_assoc]
    exact ⟨fun h => Nat.eq_of_mul_eq_mul_right hp h,fun h => by rw [h]⟩
   rw [more_congr f0 f1 f2]
   have z : decide (R * p ≠ 0) = decide (R ≠ 0) := decide_eq_decide.mpr (not_congr f0)
   rw [z]
theorem top_shift {m : Nat} (h : m ≠ 0) (e : Int) (j : Nat) : Rd20.top (m * 2 ^ j) (e - (j : Int)) = Rd20.top m e := by
 unfold Rd20.top
 rw [log2_mul j h]
 omega
theorem shift_ne {m : Nat} (h : m ≠ 0) (j : Nat) : m * 2 ^ j ≠ 0 := Nat.ne_of_gt (Nat.mul_pos (Nat.pos_of_ne_zero h) (Nat.two_pow_pos _))
theorem made_shift (bits way : Nat) (neg : Bool) (m : Nat) (e : Int) (j : Nat) : Rd20.made bits way (.fin neg (m * 2 ^ j) (e - (j : Int))) = Rd20.made bits way (.fin neg m e) := by
 by_cases h : m = 0
 ·subst h
  rw [Nat.zero_mul,made0,made0]
 ·rw [made1 h,made1 (shift_ne h j)]
  have : Rd20.round bits (-16382) 16384 way neg (m * 2 ^ j) (e - (j : Int)) = Rd20.round bits (-16382) 16384 way neg m e := round_congr (top_shift h e j) fun u _ => units_shift way neg m e u j
  rw [this]
theorem num_shift (neg : Bool) (m : Nat) (e : Int) (j : Nat) : numE neg (m * 2 ^ j) (e - (j : Int)) = numE neg m e := by
 by_cases h : m = 0
 ·subst h
  rw [Nat.zero_mul]
  unfold numE
  rw [if_pos rfl,if_pos rfl]
 ·unfold numE
  rw [if_neg h,if_neg (shift_ne h j),top_shift h,units_shift]
theorem FPre.log {m : Nat} {e : Int} (h : FPre m e) : Nat.log2 m ≤ 63 := log_le h.m
theorem exact_f {neg : Bool} {m : Nat} {e : Int} (h : FPre m e) : Rd20.exact (.fin neg m e) = numE neg m e := by
 have hl := h.log
 have h1 := h.e0
 have h2 := h.e1
 refine exact_eq hl ?_ fun _ => h1
 unfold Rd20.top
 omega
theorem near_num {way : Nat} {neg : Bool} {m : Nat} {e : Int} (h : FPre m e) : numE neg (units way neg m e 0).1 0 = Rd20.exact (.fin neg (units way neg m e 0).1 0) := by
 by_cases h0 : 0 ≤ e
 ·rw [units_exact h0]
  dsimp only
  have ej : (0 : Int) = e - (((e - 0).toNat : Nat) : Int) := by omega
  have h1 := num_shift neg m e (e - 0).toNat
  have h2 := made_shift 64 0 neg m e (e - 0).toNat
  rw [← ej] at h1 h2
  rw [h1,← exact_f h]
  unfold Rd20.exact
  rw [h2]
 ·have hq : (units way neg m e 0).1 < 2 ^ 64 := by
   rw [units_cut h0]
   have hm := h.m
   have hp : 2 ≤ 2 ^ (0 - e).toNat := by
    have : 2 ^ 1 ≤ 2 ^ (0 - e).toNat := Nat.pow_le_pow_right (by decide) (by omega)
    exact this
   have hd : m / 2 ^ (0 - e).toNat ≤ m / 2 := Nat.div_le_div_left hp (by decide)
   dsimp only
   split <;> omega
  exact (exact_f ⟨hq,by decide,by decide⟩).symm
theorem over_const {way : Nat} {neg : Bool} {m : Nat} {e : Int} (h : m ≠ 0) (hl : Nat.log2 m ≤ 63) (ht : 16384 ≤ Rd20.top m e) :
  Rd20.round 64 (-16382) 16384 way neg m e = (if Rd20.over way neg = true then .inf else .units (2 ^ 64 - 1) (16384 - ((64 : Nat) : Int)),40) := by
 unfold Rd20.round
 dsimp only
 have em : max (Rd20.top m e) (-16382) - ((64 : Nat) : Int) + 1 = Rd20.top m e - 63 := by omega
 have hu : Rd20.top m e - 63 ≤ e := by unfold Rd20.top; omega
 rw [em,units_exact hu]
 dsimp only
 have e1 : e = Rd20.top m e - 63 + ((e - (Rd20.top m e - 63)).toNat : Int) := by omega
 have e2 : Rd20.top (m * 2 ^ (e - (Rd20.top m e - 63)).toNat) (Rd20.top m e - 63) = Rd20.top m e := by
  have := top_shift h e (e - (Rd20.top m e - 63)).toNat
  have e3 : e - ((e - (Rd20.top m e - 63)).toNat : Int) = Rd20.top m e - 63 := by omega
  rw [e3] at this
  exact this
 rw [e2,if_pos ⟨ht,shift_ne h _⟩]
theorem under_const {way : Nat} {neg : Bool} {m : Nat} {e : Int} (h : m ≠ 0) (hl : Nat.log2 m ≤ 63) (ht : Rd20.top m e ≤ -16600) :
  Rd20.round 64 (-16382) 16384 way neg m e = (.units (if more way neg false 1 4 = true then 1 else 0) (-16445),48) := by
 have em : max (Rd20.top m e) (-16382) - ((64 : Nat) : Int) + 1 = -16445 := by omega
 have hue : ¬ (-16445 : Int) ≤ e := by unfold Rd20.top at ht; omega
 have hd : 2 * m < 2 ^ (-16445 - e).toNat := by
  have h1 : m < 2 ^ (Nat.log2 m + 1) := Nat.lt_log2_self
  have h2 : 2 ^ (Nat.log2 m + 2) ≤ 2 ^ (-16445 - e).toNat := Nat.pow_le_pow_right (by decide) (by unfold Rd20.top at ht; omega)
  have h3 : 2 ^ (Nat.log2 m + 2) = 2 ^ (Nat.log2 m + 1) * 2 := Nat.pow_succ ..
  omega
 have hr : units way neg m e (-16445) = (if more way neg false 1 4 = true then 1 else 0,true) := by
  rw [units_cut hue]
  generalize 2 ^ (-16445 - e).toNat = d at *
  have q0 : m / d = 0 := Nat.div_eq_of_lt (by omega)
  have r0 : m % d = m := Nat.mod_eq_of_lt (by omega)
  rw [q0,r0]
  have hm : more way neg (decide (0 % 2 = 1)) m d = more way neg false 1 4 := more_congr (by omega) (by omega) (by omega)
  rw [hm,decide_eq_true h]
 have hu : Rd20.top m e - ((64 : Nat) : Int) + 1 ≤ e := by unfold Rd20.top; omega
 have e2 : Rd20.top (m * 2 ^ (e - (Rd20.top m e - ((64 : Nat) : Int) + 1)).toNat) (Rd20.top m e - ((64 : Nat) : Int) + 1) = Rd20.top m e := by
  have := top_shift h e (e - (Rd20.top m e - ((64 : Nat) : Int) + 1)).toNat
  have e3 : e - ((e - (Rd20.top m e - ((64 : Nat) : Int) + 1)).toNat : Int) = Rd20.top m e - ((64 : Nat) : Int) + 1 := by omega
  rw [e3] at this
  exact this
 unfold Rd20.round
 dsimp only
 rw [em,hr,units_exact hu]
 dsimp only
 rw [e2,decide_eq_true (show Rd20.top m e < -16382 by omega)]
 have hc : ¬ ((16384 : Int) ≤ Rd20.top (if more way neg false 1 4 = true then 1 else 0) (-16445) ∧ (if more way neg false 1 4 = true then 1 else 0) ≠ 0) := by
  intro hc
  have h1 := hc.1
  unfold Rd20.top at h1
  split at h1
  ·have : Nat.log2 1 = 0 := by decide
   rw [this] at h1
   omega
  ·have : Nat.log2 0 = 0 := by decide
   rw [this] at h1
   omega
 rw [if_neg hc,if_neg (show ¬ (true = false) by decide),if_pos rfl]
theorem scale_far {way : Nat} {neg : Bool} {m : Nat} {e s t : Int} (h : FPre m e) (hst : s = t ∨ (65536 ≤ s ∧ 65536 ≤ t) ∨ (s ≤ -65536 ∧ t ≤ -65536)) : Rd20.made 64 way (.fin neg m (e + s)) = Rd20.made 64 way (.fin neg m (e + t)) := by
 by_cases h0 : m = 0
 ·subst h0
  rw [made0,made0]
 ·have hl := h.log
  have h1 := h.e0
  have h2 := h.e1
  rcases hst with hst | ⟨a,b⟩ | ⟨a,b⟩
  ·rw [hst]
  ·rw [made1 h0,made1 h0,over_const h0 hl (by unfold Rd20.top; omega),over_const h0 hl (by unfold Rd20.top; omega)]
  ·rw [made1 h0,made1 h0,under_const h0 hl (by unfold Rd20.top; omega),under_const h0 hl (by unfold Rd20.top; omega)]
def stepsE (neg : Bool) (n : Nat) (f : Int) : Int := if neg = true then -((min (units 3 neg n f 0).1 65536 : Nat) : Int) else ((min (units 3 neg n f 0).1 65536 : Nat) : Int)
theorem steps_cut {neg : Bool} {n : Nat} {f : Int} (hbig : 0 < f → 2 ^ 63 ≤ n) : stepsE neg n f = Rd20.cut (.fin neg n f) ∨ (65536 ≤ stepsE neg n f ∧ 65536 ≤ Rd20.cut (.fin neg n f)) ∨ (stepsE neg n f ≤ -65536 ∧ Rd20.cut (.fin neg n f) ≤ -65536) := by
 unfold stepsE Rd20.cut
 dsimp only
 by_cases h : 64 < f
 ·rw [if_pos h]
  have hb := hbig (by omega)
  have hu : 65536 ≤ (units 3 neg n f 0).1 := by
   rw [units_exact (by omega)]
   have : n * 1 ≤ n * 2 ^ (f - 0).toNat := Nat.mul_le_mul_left _ (Nat.two_pow_pos _)
   dsimp only
   omega
  have em : min (units 3 neg n f 0).1 65536 = 65536 := by omega
  rw [em,if_neg (by omega : ¬ n = 0)]
  cases neg
  ·right; left; exact ⟨by decide,by decide⟩
  ·right; right; exact ⟨by decide,by decide⟩
 ·rw [if_neg h]
  have ew : (Rd20.wholeOf 3 neg n f).1 = if neg = true then -((units 3 neg n f 0).1 : Int) else ((units 3 neg n f 0).1 : Int) := rfl
  generalize (Rd20.wholeOf 3 neg n f).1 = w at *
  generalize (units 3 neg n f 0).1 = N at *
  cases neg
  ·rw [if_neg Bool.false_ne_true] at ew ⊢
   subst ew
   rw [if_neg (by omega : ¬ (N : Int) < -99999)]
   by_cases h1 : (99999 : Int) < (N : Int)
   ·rw [if_pos h1]; right; left; omega
   ·rw [if_neg h1]
    by_cases h2 : N ≤ 65536
    ·left; omega
    ·right; left; omega
  ·rw [if_pos rfl] at ew ⊢
   subst ew
   by_cases h1 : -(N : Int) < -99999
   ·rw [if_pos h1]; right; right; omega
   ·rw [if_neg h1,if_neg (by omega : ¬ (99999 : Int) < -(N : Int))]
    by_cases h2 : N ≤ 65536
    ·left; omega
    ·right; right; omega
theorem more_0 (r d : Nat) (odd neg : Bool) (hd : 0 < d) : more 0 neg odd r d = (decide (d < 2 * r) || (decide (2 * r = d) && odd)) := by
 unfold more
 by_cases h : r = 0
 ·rw [if_pos h,h,decide_eq_false (by omega),decide_eq_false (by omega)]; rfl
 ·rw [if_neg h,if_pos rfl]
def kindW (kind : Nat) : Nat := if kind = 0 then 3 else 0
theorem rest_left {kind : Nat} {a b : Bool} {m n : Nat} {e f : Int} (hk : kind ≤ 1) (hn : n ≠ 0) :
  Rd20.rest kind (.fin a m e) (.fin b n f) = (.fin (if 0 ≤ leftE (kindW kind) a b m e n f then a else !a) (leftE (kindW kind) a b m e n f).natAbs (min e f),wholeE (kindW kind) a b m e n f) := by
 have hD0 : 0 < sizeE n f e := Nat.mul_pos (Nat.pos_of_ne_zero hn) (Nat.two_pow_pos _)
 have e1 : Rd20.rest kind (.fin a m e) (.fin b n f) = (if (kind == 1 && (decide (sizeE n f e < 2 * (sizeE m e f % sizeE n f e)) || (decide (2 * (sizeE m e f % sizeE n f e) = sizeE n f e) && sizeE m e f / sizeE n f e % 2 == 1))) = true
   then (.fin (!a) (sizeE n f e - sizeE m e f % sizeE n f e) (min e f),sizeE m e f / sizeE n f e + 1) else (.fin a (sizeE m e f % sizeE n f e) (min e f),sizeE m e f / sizeE n f e)) := by
  unfold sizeE
  rw [min_comm' e f]
  rfl
 rw [e1]
 unfold leftE wholeE madeE
 generalize sizeE n f e = D at *
 generalize sizeE m e f = N
 have hdm := Nat.div_add_mod N D
 have hlt := Nat.mod_lt N hD0
 generalize hq : N / D = q at *
 generalize hr : N % D = r at *
 have eb : (q % 2 == 1) = decide (q % 2 = 1) := by by_cases h : q % 2 = 1 <;> simp [h]
 rw [eb]
 have key : (kind == 1 && (decide (D < 2 * r) || (decide (2 * r = D) && decide (q % 2 = 1)))) = more (kindW kind) (a != b) (decide (q % 2 = 1)) r D := by
  unfold kindW
  match kind,hk with
  | 0,_ => rw [if_pos rfl,more3]; rfl
  | 1,_ => rw [if_neg (by decide),more_0 _ _ _ _ hD0]; rfl
 rw [key]
 have ex : (N : Int) = (D : Int) * (q : Int) + (r : Int) := by rw [← hdm]; simp
 by_cases hm : more (kindW kind) (a != b) (decide (q % 2 = 1)) r D = true
 ·rw [if_pos hm,if_pos hm]
  have el : (N : Int) - ((q + 1 : Nat) : Int) * (D : Int) = (r : Int) - (D : Int) := by
   have : ((q + 1 : Nat) : Int) * (D : Int) = (D : Int) * (q : Int) + (D : Int) := by
    rw [show ((q + 1 : Nat) : Int) = (q : Int) + 1 from rfl,Int.add_mul,Int.one_mul,Int.mul_comm]
   rw [this,ex]
   omega
  rw [el,if_neg (by omega)]
  congr 2
  omega
 ·rw [if_neg hm,if_neg hm]
  have el : (N : Int) - ((q : Nat) : Int) * (D : Int) = (r : Int) := by
   rw [ex,Int.mul_comm (q : Int) (D : Int)]
   omega
  rw [el,if_pos (by omega)]
  congr 2
theorem left_small {kind : Nat} {a b : Bool} {m n : Nat} {e f : Int} (hm : FPre m e) (hn : FPre n f) (h0 : n ≠ 0) : (leftE (kindW kind) a b m e n f).natAbs < 2 ^ 64 ∧ ((leftE (kindW kind) a b m e n f).natAbs ≤ sizeE m e f ∨ (leftE (kindW kind) a b m e n f).natAbs ≤ sizeE n f e) := by
 have hD0 : 0 < sizeE n f e := Nat.mul_pos (Nat.pos_of_ne_zero h0) (Nat.two_pow_pos _)
 have hs : (f ≤ e ∧ sizeE n f e < 2 ^ 64) ∨ sizeE m e f < 2 ^ 64 := by
  by_cases h : e ≤ f
  ·right
   unfold sizeE
   have : (e - min e f).toNat = 0 := by omega
   rw [this,Nat.pow_zero,Nat.mul_one]
   exact hm.m
  ·left
   refine ⟨by omega,?_⟩
   unfold sizeE
   have : (f - min f e).toNat = 0 := by omega
   rw [this,Nat.pow_zero,Nat.mul_one]
   exact hn.m
 unfold leftE wholeE madeE
 generalize sizeE n f e = D at *
 generalize sizeE m e f = N at *
 have hdm := Nat.div_add_mod N D
 have hlt := Nat.mod_lt N hD0
 have hle := Nat.mod_le N D
 generalize N / D = q at *
 generalize N % D = r at *
 have ex : (N : Int) = (D : Int) * (q : Int) + (r : Int) := by rw [← hdm]; simp
 by_cases hmo : more (kindW kind) (a != b) (decide (q % 2 = 1)) r D = true
 ·rw [if_pos hmo]
  have el : (N : Int) - ((q + 1 : Nat) : Int) * (D : Int) = (r : Int) - (D : Int) := by
   have : ((q + 1 : Nat) : Int) * (D : Int) = (D : Int) * (q : Int) + (D : Int) := by
    rw [show ((q + 1 : Nat) : Int) = (q : Int) + 1 from rfl,Int.add_mul,Int.one_mul,Int.mul_comm]
   rw [this,ex]
   omega
  rw [el]
  have h2 : D ≤ 2 * r := by
   unfold kindW at hmo
   by_cases hk : kind = 0
   ·rw [if_pos hk,more3] at hmo; cases hmo
   ·rw [if_neg hk,more_0 _ _ _ _ hD0,Bool.or_eq_true,Bool.and_eq_true,decide_eq_true_iff,decide_eq_true_iff] at hmo
    omega
  omega
 ·rw [if_neg hmo]
  have el : (N : Int) - ((q : Nat) : Int) * (D : Int) = (r : Int) := by
   rw [ex,Int.mul_comm (q : Int) (D : Int)]
   omega
  rw [el]
  omega
theorem left_pre {kind : Nat} {a b : Bool} {m n : Nat} {e f : Int} (hm : FPre m e) (hn : FPre n f) (h0 : n ≠ 0) : FPre (leftE (kindW kind) a b m e n f).natAbs (min e f) := by
 have h1 := hm.e0
 have h2 := hn.e0
 have h3 := hm.e1
 exact ⟨(left_small hm hn h0).1,by omega,by omega⟩
end Rr
end
section
namespace Rr
open PySem PySem.Spec PyProof.Rows L2
abbrev s_Result_init : Stmt := inClass (top 118) 0
theorem sc_Result_init : FnScope ["self","number","flags"] ["self","number","flags"] (defScope s_Result_init) := ⟨rfl,rfl,rfl,by decide +kernel,rfl,by decide +kernel,by decide +kernel⟩
abbrev s_Rest_init : Stmt := inClass (top 119) 0
theorem sc_Rest_init : FnScope ["self","result","low_bits"] ["self","result","low_bits"] (defScope s_Rest_init) := ⟨rfl,rfl,rfl,by decide +kernel,rfl,by decide +kernel,by decide +kernel⟩
abbrev s_plain : Stmt := top 120
theorem sc_plain : FnScope ["number"] ["number"] (defScope s_plain) := ⟨rfl,rfl,rfl,by decide +kernel,rfl,by decide +kernel,by decide +kernel⟩
abbrev s_nothing : Stmt := top 121
theorem sc_nothing : FnScope [] [] (defScope s_nothing) := ⟨rfl,rfl,rfl,by decide +kernel,rfl,by decide +kernel,by decide +kernel⟩
abbrev s_infinite : Stmt := top 122
theorem sc_infinite : FnScope ["sign"] ["sign"] (defScope s_infinite) := ⟨rfl,rfl,rfl,by decide +kernel,rfl,by decide +kernel,by decide +kernel⟩
abbrev s_result_of : Stmt := top 123
theorem sc_result_of : FnScope ["value","form","way","near"] ["value","form","way"] (defScope s_result_of) := ⟨rfl,rfl,rfl,by decide +kernel,rfl,by decide +kernel,by decide +kernel⟩
abbrev s_sum_result : Stmt := top 124
theorem sc_sum_result : FnScope ["x","y","form","way"] ["x","y","form","way"] (defScope s_sum_result) := ⟨rfl,rfl,rfl,by decide +kernel,rfl,by decide +kernel,by decide +kernel⟩
abbrev s_product_result : Stmt := top 125
theorem sc_product_result : FnScope ["x","y","form","way"] ["x","y","form","way"] (defScope s_product_result) := ⟨rfl,rfl,rfl,by decide +kernel,rfl,by decide +kernel,by decide +kernel⟩
abbrev s_quotient_result : Stmt := top 126
theorem sc_quotient_result : FnScope ["x","y","form","way","sign"] ["x","y","form","way"] (defScope s_quotient_result) := ⟨rfl,rfl,rfl,by decide +kernel,rfl,by decide +kernel,by decide +kernel⟩
abbrev s_do_result : Stmt := top 127
theorem sc_do_result : FnScope ["op","x","y","form","way"] ["op","x","y","form","way"] (defScope s_do_result) := ⟨rfl,rfl,rfl,by decide +kernel,rfl,by decide +kernel,by decide +kernel⟩
abbrev s_root_result : Stmt := top 128
theorem sc_root_result : FnScope ["x","form","way"] ["x","form","way"] (defScope s_root_result) := ⟨rfl,rfl,rfl,by decide +kernel,rfl,by decide +kernel,by decide +kernel⟩
abbrev s_near_result : Stmt := top 129
theorem sc_near_result : FnScope ["x","way","value","near"] ["x","way"] (defScope s_near_result) := ⟨rfl,rfl,rfl,by decide +kernel,rfl,by decide +kernel,by decide +kernel⟩
abbrev s_scaled_without_end : Stmt := top 130
theorem sc_scaled_without_end : FnScope ["x","sign"] ["x","sign"] (defScope s_scaled_without_end) := ⟨rfl,rfl,rfl,by decide +kernel,rfl,by decide +kernel,by decide +kernel⟩
abbrev s_steps_of : Stmt := top 131
theorem sc_steps_of : FnScope ["y","steps"] ["y"] (defScope s_steps_of) := ⟨rfl,rfl,rfl,by decide +kernel,rfl,by decide +kernel,by decide +kernel⟩
abbrev s_scale_result : Stmt := top 132
theorem sc_scale_result : FnScope ["x","y","way","value"] ["x","y","way"] (defScope s_scale_result) := ⟨rfl,rfl,rfl,by decide +kernel,rfl,by decide +kernel,by decide +kernel⟩
abbrev s_exponent_result : Stmt := top 133
theorem sc_exponent_result : FnScope ["x"] ["x"] (defScope s_exponent_result) := ⟨rfl,rfl,rfl,by decide +kernel,rfl,by decide +kernel,by decide +kernel⟩
abbrev s_without_exponent : Stmt := top 134
theorem sc_without_exponent : FnScope ["x","value"] ["x"] (defScope s_without_exponent) := ⟨rfl,rfl,rfl,by decide +kernel,rfl,by decide +kernel,by decide +kernel⟩
abbrev s_rest_result : Stmt := top 135
theorem sc_rest_result : FnScope ["kind","x","y","division"] ["kind","x","y"] (defScope s_rest_result) := ⟨rfl,rfl,rfl,by decide +kernel,rfl,by decide +kernel,by decide +kernel⟩
def fS (a b : V) : List (Str × V) := [("number",a),("flags",b)]
def mkS (as : List V) : List (Str × V) := match as with
 | [a,b] => [("number",a),("flags",b)]
 | _ => []
structure CS1 (K : PySem.W.Frag) (C : Addr) : Prop where
 cl : Cls K C
 nN : NoAttr K C "number"
 nF : NoAttr K C "flags"
theorem fS_n (a b : V) : (fS a b).lookup ("number" : Str) = some a := rfl
theorem fS_f (a b : V) : (fS a b).lookup ("flags" : Str) = some b := rfl
def fT (a b : V) : List (Str × V) := [("result",a),("low_bits",b)]
def mkT (as : List V) : List (Str × V) := match as with
 | [a,b] => [("result",a),("low_bits",b)]
 | _ => []
structure CT1 (K : PySem.W.Frag) (C : Addr) : Prop where
 cl : Cls K C
 nR : NoAttr K C "result"
 nL : NoAttr K C "low_bits"
theorem fT_r (a b : V) : (fT a b).lookup ("result" : Str) = some a := rfl
theorem fT_l (a b : V) : (fT a b).lookup ("low_bits" : Str) = some b := rfl
abbrev ResAt (C : Addr) (H : Hp) (a : Addr) (r : Nat × Nat) : Prop := Obj C (fS (vN r.1) (vN r.2)) H a
def Gives (CS : Addr) (H : Hp) (r : Nat × Nat) (Q : VK) : Prop := ∀ p H',Same H H' → H p = none → ResAt CS H' p r → Q (.ref p) H'
theorem Gives.part {CS : Addr} {H H1 : Hp} {r : Nat × Nat} {Q : VK} (k : Gives CS H r Q) (s : Same H H1) : Gives CS H1 r Q := fun p H' s1 n1 o1 => k p H' (s.trans s1) (s.free n1) o1
def spPlain (CS : Addr) : Sp := fun vs H Q _ => ∃ x : Nat,vs = [vN x] ∧ Gives CS H (x,0) Q
def spNone0 (CS : Addr) : Sp := fun vs H Q _ => vs = [] ∧ Gives CS H (NONEn,1) Q
def spInfinite : Sp := fun vs H Q _ => ∃ neg : Bool,vs = [.int (ob neg)] ∧ Q (vN (Rd20.INF neg)) H
structure BPre (m : Nat) (e : Int) : Prop where
 wide : ∃ k,k ≤ 80000 ∧ m < 2 ^ k
 e0 : -100000 ≤ e
 e1 : e ≤ 100000
structure FoN (CF : Addr) (H : Hp) (g : Addr) (bits : Nat) : Prop where
 ob : Fo CF H g bits (-16382) 16384
 b0 : 1 ≤ bits
 b1 : bits ≤ 64
theorem FoN.same {CF : Addr} {H H' : Hp} {g : Addr} {bits : Nat} (h : FoN CF H g bits) (s : Same H H') : FoN CF H' g bits := ⟨h.ob.same s,h.b0,h.b1⟩
def spResultOf (C CF CS : Addr) : Sp := fun vs H Q _ => ∃ a g neg m e bits way,vs = [.ref a,.ref g,vN way] ∧ Ex C H a neg m e ∧ FoN CF H g bits ∧ BPre m e ∧ Gives CS H (Rd20.made bits way (.fin neg m e)) Q
def spBin (CF CS : Addr) (f : Nat → Rd20.Num → Rd20.Num → Rd20.Res) : Sp := fun vs H Q _ => ∃ x y g bits way,vs = [vN x,vN y,.ref g,vN way] ∧ Num80 x ∧ x ≠ NONEn ∧ Num80 y ∧ y ≠ NONEn ∧ FoN CF H g bits ∧ Gives CS H (resE bits way (f way (Rd20.worth x) (Rd20.worth y))) Q
theorem rpre64 : RPre 1 0 64 (-16382) 16384 := ⟨⟨1,by decide,by decide⟩,by decide,by decide,by decide,by decide,by decide,by decide,by decide,by decide⟩
theorem bpre_f {m : Nat} {e : Int} (h : FPre m e) : BPre m e := ⟨⟨64,by decide,h.m⟩,by have := h.e0; omega,by have := h.e1; omega⟩
section
variable {P : Program} {w : World} {K : PySem.W.Frag} {mg : Str → Option Value} {base : Heap} {C CF CR CD CS CT : Addr}
theorem ok_Result (F : SrcC K mg "Result" C "Result.__init__" s_Result_init ["self","number","flags"]) (T : CS1 K C) : Cla P w K mg base "Result" C 1 ["self","number","flags"] (spInit C 2 mkS) := by
 refine F.cla sc_Result_init (fun vs H Q E h => ?_) (fun f cdv A outer s H vs Q E hr h => ?_)
 ·obtain ⟨p,dx,as,rfl,hl,_⟩ := h
  simp [hl]
 ·obtain ⟨p,dx,as,rfl,hl,hp,k⟩ := h
  match as,hl with
  | [a,b],_ =>
   refine ⟨_,(pss_cons (ps_fld (pv 0) (pv 1) rfl)
    (pss_one (ps_fld (pv 0) (pv 2) rfl))),?_⟩
   refine ⟨_,rfl,_,rfl,p,C,dx,[],rfl,hp,T.cl,T.nN,few0,?_⟩
   refine ⟨_,rfl,_,rfl,p,C,dx,_,rfl,upd_same,T.cl,T.nF,few1,?_⟩
   exact k _ upd_same fun b o e hb => by rw [upd_ne hb,upd_ne hb]; exact e
theorem ok_Rest (F : SrcC K mg "Rest" C "Rest.__init__" s_Rest_init ["self","result","low_bits"]) (T : CT1 K C) : Cla P w K mg base "Rest" C 1 ["self","result","low_bits"] (spInit C 2 mkT) := by
 refine F.cla sc_Rest_init (fun vs H Q E h => ?_) (fun f cdv A outer s H vs Q E hr h => ?_)
 ·obtain ⟨p,dx,as,rfl,hl,_⟩ := h
  simp [hl]
 ·obtain ⟨p,dx,as,rfl,hl,hp,k⟩ := h
  match as,hl with
  | [a,b],_ =>
   refine ⟨_,(pss_cons (ps_fld (pv 0) (pv 1) rfl)
    (pss_one (ps_fld (pv 0) (pv 2) rfl))),?_⟩
   refine ⟨_,rfl,_,rfl,p,C,dx,[],rfl,hp,T.cl,T.nR,few0,?_⟩
   refine ⟨_,rfl,_,rfl,p,C,dx,_,rfl,upd_same,T.cl,T.nL,few1,?_⟩
   exact k _ upd_same fun b o e hb => by rw [upd_ne hb,upd_ne hb]; exact e
theorem ok_plain (F : Src K mg "plain" s_plain ["number"]) (k_Result : Cla P w K mg base "Result" CS 1 ["self","number","flags"] (spInit CS 2 mkS)) : Fn P w K mg base "plain" 3 ["number"] (spPlain CS) := by
 refine F.fn sc_plain (fun vs H Q E h => ?_) (fun f cdv A outer s H vs Q E hr h => ?_)
 ·obtain ⟨x,rfl,_⟩ := h
  rfl
 ·obtain ⟨x,rfl,k⟩ := h
  refine ⟨_,(pss_one (ps_ret (pn k_Result hr (pa_cons (pv 0) (pa_cons pe_int pa_nil))))),?_⟩
  refine ⟨_,rfl,?_⟩
  show ∀ (x dx : Addr),_ → _ → _ → _
  refine new_of (n := 2) (mk := mkS) (by rfl) ?_
  exact fun p H' s1 n1 o1 => k p H' s1 n1 o1
theorem ok_none0 (F : Src K mg "nothing" s_nothing []) (c_NONE : Con1 mg "NONE" (.int NONEn)) (c_NOTHING_CAME : Con1 mg "NOTHING_CAME" (.int 1)) (k_Result : Cla P w K mg base "Result" CS 1 ["self","number","flags"] (spInit CS 2 mkS)) : Fn P w K mg base "nothing" 3 [] (spNone0 CS) := by
 refine F.fn sc_nothing (fun vs H Q E h => ?_) (fun f cdv A outer s H vs Q E hr h => ?_)
 ·obtain ⟨rfl,_⟩ := h
  rfl
 ·obtain ⟨rfl,k⟩ := h
  refine ⟨_,(pss_one (ps_ret (pn k_Result hr (pa_cons (pe_c1 c_NONE rfl) (pa_cons (pe_c1 c_NOTHING_CAME rfl) pa_nil))))),?_⟩
  show ∀ (x dx : Addr),_ → _ → _ → _
  refine new_of (n := 2) (mk := mkS) (by rfl) ?_
  exact fun p H' s1 n1 o1 => k p H' s1 n1 o1
theorem ok_infinite (F : Src K mg "infinite" s_infinite ["sign"]) (c_INFINITY : Con1 mg "INFINITY" (.int INFn)) (f_with_sign : Fn P w K mg base "with_sign" 1 ["sign","number"] spWith) : Fn P w K mg base "infinite" 2 ["sign"] spInfinite := by
 refine F.fn sc_infinite (fun vs H Q E h => ?_) (fun f cdv A outer s H vs Q E hr h => ?_)
 ·obtain ⟨neg,rfl,_⟩ := h
  rfl
 ·obtain ⟨neg,rfl,k⟩ := h
  refine ⟨_,(pss_one (ps_ret (pf f_with_sign hr (pa_cons (pv 0) (pa_cons (pe_c1 c_INFINITY rfl) pa_nil))))),?_⟩
  refine ⟨_,rfl,neg,INFn,rfl,?_⟩
  rw [inf_ws]
  exact k
theorem ok_result_of (F : Src K mg "result_of" s_result_of ["value","form","way"]) (T : CR1 K CR) (f_rounded : Fn P w K mg base "rounded" 7 ["value","form","way"] (spRounded C CF CR)) (f_number_of : Fn P w K mg base "number_of" 5 ["value"] (spNumber C)) (k_Result : Cla P w K mg base "Result" CS 1 ["self","number","flags"] (spInit CS 2 mkS)) :
  Fn P w K mg base "result_of" 8 ["value","form","way"] (spResultOf C CF CS) := by
 refine F.fn sc_result_of (fun vs H Q E h => ?_) (fun f cdv A outer s H vs Q E hr h => ?_)
 ·obtain ⟨a,g,neg,m,e,bits,way,rfl,_⟩ := h
  rfl
 ·obtain ⟨a,g,neg,m,e,bits,way,rfl,ha,⟨hg,hb0,hb1⟩,⟨hm,he0,he1⟩,k⟩ := h
  refine ⟨_,(pss_cons (ps_set (i := 3) sc_result_of.nd rfl (Or.inl rfl) (pf f_rounded hr (pa_cons (pv 0) (pa_cons (pv 1) (pa_cons (pv 2) pa_nil)))))
    (pss_one (ps_ret (pn k_Result hr (pa_cons (pf f_number_of hr (pa_cons (pe_fld (pv 3) rfl) pa_nil)) (pa_cons (pe_fld (pv 3) rfl) pa_nil)))))),?_⟩
  have hP : RPre m e bits (-16382) 16384 := by
   obtain ⟨kk,k1,k2⟩ := hm
   exact ⟨⟨kk,by omega,k2⟩,by omega,by omega,hb0,hb1,by decide,by decide,by decide,by decide⟩
  have hP2 : RPre (roundE bits (-16382) 16384 way neg m e).1.1 (roundE bits (-16382) 16384 way neg m e).1.2 64 (-16382) 16384 := rpre_round hb0 hb1 hm he0 he1 (by decide) (by decide) (by decide) (by decide) rpre64
  have hz := made_round (way := way) (neg := neg) (m := m) (e := e) hb0 hb1
  refine ⟨_,rfl,_,rfl,_,rfl,a,g,neg,m,e,bits,-16382,16384,way,rfl,ha,hg,hP,fun r p H1 s1 n1 o1 o2 => ?_⟩
  obtain ⟨dr,hr1⟩ := o1
  refine ⟨_,rfl,r,CR,dr,_,_,rfl,hr1,T.cl,T.nV,fR_v _ _,p,neg,_,_,rfl,o2,hP2,_,rfl,r,CR,dr,_,_,rfl,hr1,T.cl,T.nF,fR_f _ _,?_⟩
  rw [hz.1,hz.2]
  show ∀ (x dx : Addr),_ → _ → _ → _
  refine new_of (n := 2) (mk := mkS) (by rfl) ?_
  exact fun p H' s2 n2 o3 => k p H' (s1.trans s2) (s1.free n2) o3
theorem ok_sum_result (F : Src K mg "sum_result" s_sum_result ["x","y","form","way"]) (f_is_infinite : Fn P w K mg base "is_infinite" 2 ["number"] (spNat fun x => .bl (infE x))) (f_nothing : Fn P w K mg base "nothing" 3 [] (spNone0 CS)) (f_plain : Fn P w K mg base "plain" 3 ["number"] (spPlain CS))
  (f_result_of : Fn P w K mg base "result_of" 8 ["value","form","way"] (spResultOf C CF CS)) (f_sum_of : Fn P w K mg base "sum_of" 4 ["one","other","way"] (spSum C)) (f_exact_of : Fn P w K mg base "exact_of" 3 ["number"] (spExactOf C)) : Fn P w K mg base "sum_result" 9 ["x","y","form","way"] (spBin CF CS Rd20.plus) := by
 refine F.fn sc_sum_result (fun vs H Q E h => ?_) (fun f cdv A outer s H vs Q E hr h => ?_)
 ·obtain ⟨x,y,g,bits,way,rfl,_⟩ := h
  rfl
 ·obtain ⟨x,y,g,bits,way,rfl,hx,hxn,hy,hyn,hg,k⟩ := h
  refine ⟨_,(pss_cons (ps_if (PW.pt (pw_and (pt_val (pf f_is_infinite hr (pa_cons (pv 0) pa_nil))) (pw_and (pt_val (pf f_is_infinite hr (pa_cons (pv 1) pa_nil))) (pw_and1 (pt_cmpR op_ne (pv 0) (pv 1) (nomark _)))))) (pss_one (ps_ret (pf0 f_nothing hr))) pss_nil)
    (pss_cons (ps_if (pt_val (pf f_is_infinite hr (pa_cons (pv 0) pa_nil))) (pss_one (ps_ret (pf f_plain hr (pa_cons (pv 0) pa_nil)))) pss_nil)
    (pss_cons (ps_if (pt_val (pf f_is_infinite hr (pa_cons (pv 1) pa_nil))) (pss_one (ps_ret (pf f_plain hr (pa_cons (pv 1) pa_nil)))) pss_nil)
    (pss_one (ps_ret (pf f_result_of hr (pa_cons (pf f_sum_of hr (pa_cons (pf f_exact_of hr (pa_cons (pv 0) pa_nil)) (pa_cons (pf f_exact_of hr (pa_cons (pv 1) pa_nil)) (pa_cons (pv 3) pa_nil)))) (pa_cons (pv 2) (pa_cons (pv 3) pa_nil))))))))),?_⟩
  refine ⟨_,rfl,x,rfl,hx.1,_,rfl,?_⟩
  rcases worth3 hx hxn with ⟨ix,wx,ex⟩ | ⟨ix,wx,px⟩
  ·refine br_t ix ?_
   refine ⟨_,rfl,y,rfl,hy.1,_,rfl,?_⟩
   rcases worth3 hy hyn with ⟨iy,wy,ey⟩ | ⟨iy,wy,py⟩
   ·refine br_t iy ?_
    refine ⟨_,rfl,_,rfl,rfl,_,rfl,?_⟩
    rw [wx,wy] at k
    by_cases hs : Rd20.signOf x = Rd20.signOf y
    ·have exy : x = y := by rw [ex,ey,hs]
     refine br_f (by rw [dV_t (by rw [exy])]; rfl) ?_
     refine ⟨_,rfl,x,rfl,hx.1,_,rfl,?_⟩
     refine br_t ix ?_
     refine ⟨_,rfl,x,rfl,?_⟩
     have e1 : resE bits way (Rd20.plus way (.inf (Rd20.signOf x)) (.inf (Rd20.signOf y))) = (x,0) := by
      show resE bits way (if Rd20.signOf x = Rd20.signOf y then (.inf (Rd20.signOf x),0) else (.nan,1)) = _
      rw [if_pos hs,res_inf,← ex]
     rw [e1] at k
     exact k
    ·have exy : x ≠ y := fun z => hs (by rw [z])
     refine br_t (by rw [dV_f (by omega)]; rfl) ?_
     refine ⟨rfl,?_⟩
     have e1 : resE bits way (Rd20.plus way (.inf (Rd20.signOf x)) (.inf (Rd20.signOf y))) = (NONEn,1) := by
      show resE bits way (if Rd20.signOf x = Rd20.signOf y then (.inf (Rd20.signOf x),0) else (.nan,1)) = _
      rw [if_neg hs,res_none]
     rw [e1] at k
     exact k
   ·refine br_f iy ?_
    refine br_f rfl ?_
    refine ⟨_,rfl,x,rfl,hx.1,_,rfl,?_⟩
    refine br_t ix ?_
    refine ⟨_,rfl,x,rfl,?_⟩
    rw [wx,wy,show Rd20.plus way (.inf (Rd20.signOf x)) (.fin (Rd20.signOf y) (Rd20.sizeOf y) (powE y)) = (.inf (Rd20.signOf x),0) from rfl,res_inf,← ex] at k
    exact k
  ·refine br_f ix ?_
   refine br_f rfl ?_
   refine ⟨_,rfl,x,rfl,hx.1,_,rfl,?_⟩
   refine br_f ix ?_
   refine ⟨_,rfl,y,rfl,hy.1,_,rfl,?_⟩
   rcases worth3 hy hyn with ⟨iy,wy,ey⟩ | ⟨iy,wy,py⟩
   ·refine br_t iy ?_
    refine ⟨_,rfl,y,rfl,?_⟩
    rw [wx,wy,show Rd20.plus way (.fin (Rd20.signOf x) (Rd20.sizeOf x) (powE x)) (.inf (Rd20.signOf y)) = (.inf (Rd20.signOf y),0) from rfl,res_inf,← ey] at k
    exact k
   ·refine br_f iy ?_
    rw [wx,wy,← made_sum] at k
    refine ⟨_,rfl,x,rfl,hx.1,fun p1 H1 s1 n1 o1 => ?_⟩
    refine ⟨_,rfl,y,rfl,hy.1,fun p2 H2 s2 n2 o2 => ?_⟩
    refine ⟨_,rfl,p1,p2,_,_,_,_,_,_,way,rfl,o1.same s2,o2,px,py,fun p3 H3 s3 n3 o3 => ?_⟩
    refine ⟨_,rfl,_,rfl,p3,g,_,_,_,bits,way,rfl,o3,((hg.same s1).same s2).same s3,?_,k.part ((s1.trans s2).trans s3)⟩
    have a1 := px.e0
    have a2 := px.e1
    have b1 := py.e0
    have b2 := py.e1
    refine ⟨⟨40000,by decide,?_⟩,by omega,by omega⟩
    generalize Rd20.signOf x = sa
    generalize Rd20.signOf y = sb
    have bnd : ∀ (sg : Bool) (m : Nat) (e u : Int),m < 2 ^ 64 → (e - u).toNat ≤ 35000 → (Rd20.at_ sg m e u).natAbs < 2 ^ 36000 := fun sg m e u hm hu => by
     have h1 : m * 2 ^ (e - u).toNat < 2 ^ 36000 := by
      refine Nat.lt_of_lt_of_le (Nat.mul_lt_mul_of_pos_right hm (Nat.two_pow_pos _)) ?_
      rw [← Nat.pow_add]
      exact Nat.pow_le_pow_right (by decide) (by omega)
     cases sg
     ·rw [at_f,Int.natAbs_natCast]; exact h1
     ·rw [at_t,Int.natAbs_neg,Int.natAbs_natCast]; exact h1
    have c1 := bnd sa _ (powE x) (min (powE x) (powE y)) px.m (by omega)
    have c2 := bnd sb _ (powE y) (min (powE x) (powE y)) py.m (by omega)
    have c3 : 2 ^ 36001 ≤ 2 ^ 40000 := Nat.pow_le_pow_right (by decide) (by decide)
    have c4 : 2 ^ 36001 = 2 ^ 36000 * 2 := by rw [← Nat.pow_succ]
    unfold sumE
    generalize 2 ^ 36000 = z1 at *
    generalize 2 ^ 36001 = z2 at *
    generalize 2 ^ 40000 = z3 at *
    omega
end
theorem times_inf {X Y : Rd20.Num} (h : (∃ a,X = .inf a) ∨ ∃ b,Y = .inf b) : Rd20.times X Y = if Rd20.isZero X = true ∨ Rd20.isZero Y = true then (.nan,1) else (.inf (Rd20.negative X != Rd20.negative Y),0) := by
 rcases h with ⟨a,rfl⟩ | ⟨b,rfl⟩
 ·cases Y <;> rfl
 ·cases X <;> rfl
def doE (op bits way x y : Nat) : Nat × Nat := if x = NONEn ∨ y = NONEn then (NONEn,0) else resE bits way (Rd20.opOf op way (Rd20.worth x) (Rd20.worth y))
def spDo (CF CS : Addr) : Sp := fun vs H Q _ => ∃ op x y g bits way,vs = [vN op,vN x,vN y,.ref g,vN way] ∧ op ≤ 5 ∧ Num80 x ∧ Num80 y ∧ FoN CF H g bits ∧ Gives CS H (doE op bits way x y) Q
def spRootR (CF CS : Addr) : Sp := fun vs H Q _ => ∃ x g bits way,vs = [vN x,.ref g,vN way] ∧ Num80 x ∧ FoN CF H g bits ∧ Gives CS H (resE bits way (Rd20.root (Rd20.worth x))) Q
def nearE (way x : Nat) : Nat × Nat := match Rd20.worth x with
 | .fin neg m e => (Rd20.exact (.fin neg (Rd20.units way neg m e 0).1 0),if (Rd20.units way neg m e 0).2 = true then 32 else 0)
 | _ => (x,0)
def spNear (CS : Addr) : Sp := fun vs H Q _ => ∃ x way,vs = [vN x,vN way] ∧ Num80 x ∧ Gives CS H (nearE way x) Q
theorem units0_lt {way : Nat} {neg : Bool} {m : Nat} {e : Int} (h : FPre m e) : (Rd20.units way neg m e 0).1 < 2 ^ 20000 := by
 have h1 := units_le way neg m e 0
 have hm := h.m
 have he := h.e1
 have h2 : m * 2 ^ (e - 0).toNat < 2 ^ 64 * 2 ^ 16320 := Nat.lt_of_lt_of_le (Nat.mul_lt_mul_of_pos_right hm (Nat.two_pow_pos _)) (Nat.mul_le_mul_left _ (Nat.pow_le_pow_right (by decide) (by omega)))
 rw [← Nat.pow_add] at h2
 have h3 : 2 ^ (64 + 16320) ≤ 2 ^ 19999 := Nat.pow_le_pow_right (by decide) (by decide)
 have h4 : 2 ^ 20000 = 2 ^ 19999 * 2 := by rw [← Nat.pow_succ]
 have h5 := Nat.two_pow_pos 19999
 generalize 2 ^ 20000 = z1 at *
 generalize 2 ^ 19999 = z2 at *
 generalize 2 ^ (64 + 16320) = z3 at *
 omega
theorem inf_n {x : Nat} (h : Num80 x) : x = INFn ↔ (infE x = true ∧ Rd20.signOf x = false) := by
 constructor
 ·intro e
  rw [e]
  exact ⟨by decide +kernel,by decide +kernel⟩
 ·rintro ⟨h1,h2⟩
  rw [inf_is h.1 h1,h2]
  decide +kernel
section
variable {P : Program} {w : World} {K : PySem.W.Frag} {mg : Str → Option Value} {base : Heap} {C CF CR CD CS CT : Addr}
theorem ok_product_result (F : Src K mg "product_result" s_product_result ["x","y","form","way"]) (f_is_infinite : Fn P w K mg base "is_infinite" 2 ["number"] (spNat fun x => .bl (infE x))) (f_is_zero : Fn P w K mg base "is_zero" 3 ["number"] (spNat fun x => .bl (decide (x % 2 ^ 79 = 0)))) (f_nothing : Fn P w K mg base "nothing" 3 [] (spNone0 CS)) (f_plain : Fn P w K mg base "plain" 3 ["number"] (spPlain CS)) (f_infinite : Fn P w K mg base "infinite" 2 ["sign"] spInfinite) (f_sign_of : Fn P w K mg base "sign_of" 1 ["number"] (spNat fun x => .int (ob (Rd20.signOf x)))) (f_result_of : Fn P w K mg base "result_of" 8 ["value","form","way"] (spResultOf C CF CS)) (f_exact_of : Fn P w K mg base "exact_of" 3 ["number"] (spExactOf C)) (f_product_of : Fn P w K mg base "product_of" 3 ["one","other"] (spProd C)) : Fn P w K mg base "product_result" 9 ["x","y","form","way"] (spBin CF CS fun _ => Rd20.times) := by
 refine F.fn sc_product_result (fun vs H Q E h => ?_) (fun f cdv A outer s H vs Q E hr h => ?_)
 ·obtain ⟨x,y,g,bits,way,rfl,_⟩ := h
  rfl
 ·obtain ⟨x,y,g,bits,way,rfl,hx,hxn,hy,hyn,hg,k⟩ := h
  refine ⟨_,(pss_cons (ps_if (PW.pt (pw_or (pt_val (pf f_is_infinite hr (pa_cons (pv 0) pa_nil))) (pw_or1 (pt_val (pf f_is_infinite hr (pa_cons (pv 1) pa_nil)))))) (pss_cons (ps_if (PW.pt (pw_or (pt_val (pf f_is_zero hr (pa_cons (pv 0) pa_nil))) (pw_or1 (pt_val (pf f_is_zero hr (pa_cons (pv 1) pa_nil)))))) (pss_one (ps_ret (pf0 f_nothing hr))) pss_nil)
    (pss_one (ps_ret (pf f_plain hr (pa_cons (pf f_infinite hr (pa_cons (pe_op op_xor (pf f_sign_of hr (pa_cons (pv 0) pa_nil)) (pf f_sign_of hr (pa_cons (pv 1) pa_nil))) pa_nil)) pa_nil))))) pss_nil)
    (pss_one (ps_ret (pf f_result_of hr (pa_cons (pf f_product_of hr (pa_cons (pf f_exact_of hr (pa_cons (pv 0) pa_nil)) (pa_cons (pf f_exact_of hr (pa_cons (pv 1) pa_nil)) pa_nil))) (pa_cons (pv 2) (pa_cons (pv 3) pa_nil))))))),?_⟩
  refine ⟨_,rfl,x,rfl,hx.1,_,rfl,?_⟩
  dsimp only at k
  rcases worth3 hx hxn with ⟨ix,wx,ex⟩ | ⟨ix,wx,px⟩
  ·refine br_t ix (br_t rfl ?_)
   have hio : (∃ a,Rd20.worth x = .inf a) ∨ ∃ b,Rd20.worth y = .inf b := .inl ⟨_,wx⟩
   rw [times_inf hio] at k
   refine ⟨_,rfl,x,rfl,hx.1,_,rfl,?_⟩
   rw [zero_worth hx hxn]
   cases zx : Rd20.isZero (Rd20.worth x) with
   | true =>
    rw [if_pos (.inl zx),res_none] at k
    exact br_t rfl (br_t rfl ⟨rfl,k⟩)
   | false =>
    refine br_f rfl ⟨_,rfl,y,rfl,hy.1,_,rfl,?_⟩
    rw [zero_worth hy hyn]
    cases zy : Rd20.isZero (Rd20.worth y) with
    | true =>
     rw [if_pos (.inr zy),res_none] at k
     exact br_t rfl ⟨rfl,k⟩
    | false =>
     rw [if_neg (by rw [zx,zy]; exact fun z => z.elim (fun q => nomatch q) (fun q => nomatch q)),res_inf,neg_worth hx hxn,neg_worth hy hyn] at k
     refine br_f rfl ⟨_,rfl,x,rfl,hx.1,_,rfl,y,rfl,hy.1,_,_,rfl,rfl,?_⟩
     dsimp only
     rw [bx]
     exact ⟨_,rfl,_,rfl,k⟩
  ·refine br_f ix ⟨_,rfl,y,rfl,hy.1,_,rfl,?_⟩
   rcases worth3 hy hyn with ⟨iy,wy,ey⟩ | ⟨iy,wy,py⟩
   ·refine br_t iy ?_
    have hio : (∃ a,Rd20.worth x = .inf a) ∨ ∃ b,Rd20.worth y = .inf b := .inr ⟨_,wy⟩
    rw [times_inf hio] at k
    refine ⟨_,rfl,x,rfl,hx.1,_,rfl,?_⟩
    rw [zero_worth hx hxn]
    cases zx : Rd20.isZero (Rd20.worth x) with
    | true =>
     rw [if_pos (.inl zx),res_none] at k
     exact br_t rfl (br_t rfl ⟨rfl,k⟩)
    | false =>
     refine br_f rfl ⟨_,rfl,y,rfl,hy.1,_,rfl,?_⟩
     rw [zero_worth hy hyn]
     cases zy : Rd20.isZero (Rd20.worth y) with
     | true =>
      rw [if_pos (.inr zy),res_none] at k
      exact br_t rfl ⟨rfl,k⟩
     | false =>
      rw [if_neg (by rw [zx,zy]; exact fun z => z.elim (fun q => nomatch q) (fun q => nomatch q)),res_inf,neg_worth hx hxn,neg_worth hy hyn] at k
      refine br_f rfl ⟨_,rfl,x,rfl,hx.1,_,rfl,y,rfl,hy.1,_,_,rfl,rfl,?_⟩
      dsimp only
      rw [bx]
      exact ⟨_,rfl,_,rfl,k⟩
   ·refine br_f iy ?_
    rw [wx,wy,show Rd20.times (.fin (Rd20.signOf x) (Rd20.sizeOf x) (powE x)) (.fin (Rd20.signOf y) (Rd20.sizeOf y) (powE y)) = (.fin (Rd20.signOf x != Rd20.signOf y) (Rd20.sizeOf x * Rd20.sizeOf y) (powE x + powE y),0) from rfl,res_fin] at k
    refine ⟨_,rfl,x,rfl,hx.1,fun p1 H1 s1 n1 o1 => ?_⟩
    refine ⟨_,rfl,y,rfl,hy.1,fun p2 H2 s2 n2 o2 => ?_⟩
    refine ⟨p1,p2,_,_,_,_,_,_,rfl,o1.same s2,o2,px,py,fun p3 H3 s3 n3 o3 => ?_⟩
    have a1 := px.e0
    have a2 := px.e1
    have b1 := py.e0
    have b2 := py.e1
    refine ⟨_,rfl,_,rfl,p3,g,_,_,_,bits,way,rfl,o3,((hg.same s1).same s2).same s3,⟨⟨128,by decide,?_⟩,by omega,by omega⟩,k.part ((s1.trans s2).trans s3)⟩
    rw [show (128 : Nat) = 64 + 64 from rfl,Nat.pow_add]
    exact Nat.mul_lt_mul'' px.m py.m
theorem ok_quotient_result (F : Src K mg "quotient_result" s_quotient_result ["x","y","form","way"]) (f_is_infinite : Fn P w K mg base "is_infinite" 2 ["number"] (spNat fun x => .bl (infE x))) (f_is_zero : Fn P w K mg base "is_zero" 3 ["number"] (spNat fun x => .bl (decide (x % 2 ^ 79 = 0)))) (f_nothing : Fn P w K mg base "nothing" 3 [] (spNone0 CS)) (f_plain : Fn P w K mg base "plain" 3 ["number"] (spPlain CS)) (f_infinite : Fn P w K mg base "infinite" 2 ["sign"] spInfinite) (f_sign_of : Fn P w K mg base "sign_of" 1 ["number"] (spNat fun x => .int (ob (Rd20.signOf x)))) (f_result_of : Fn P w K mg base "result_of" 8 ["value","form","way"] (spResultOf C CF CS)) (f_exact_of : Fn P w K mg base "exact_of" 3 ["number"] (spExactOf C)) (f_quotient_of : Fn P w K mg base "quotient_of" 4 ["one","other"] (spQuot C)) (f_with_sign : Fn P w K mg base "with_sign" 1 ["sign","number"] spWith) (c_BY_ZERO : Con1 mg "BY_ZERO" (.int 4)) (k_Result : Cla P w K mg base "Result" CS 1 ["self","number","flags"] (spInit CS 2 mkS)) :
  Fn P w K mg base "quotient_result" 9 ["x","y","form","way"] (spBin CF CS fun _ => Rd20.by_) := by
 refine F.fn sc_quotient_result (fun vs H Q E h => ?_) (fun f cdv A outer s H vs Q E hr h => ?_)
 ·obtain ⟨x,y,g,bits,way,rfl,_⟩ := h
  rfl
 ·obtain ⟨x,y,g,bits,way,rfl,hx,hxn,hy,hyn,hg,k⟩ := h
  refine ⟨_,(pss_cons (ps_set (i := 4) sc_quotient_result.nd rfl (Or.inl rfl) (pe_op op_xor (pf f_sign_of hr (pa_cons (pv 0) pa_nil)) (pf f_sign_of hr (pa_cons (pv 1) pa_nil))))
    (pss_cons (ps_if (PW.pt (pw_or (PW.pt (pw_and (pt_val (pf f_is_zero hr (pa_cons (pv 0) pa_nil))) (pw_and1 (pt_val (pf f_is_zero hr (pa_cons (pv 1) pa_nil)))))) (pw_or1 (PW.pt (pw_and (pt_val (pf f_is_infinite hr (pa_cons (pv 0) pa_nil))) (pw_and1 (pt_val (pf f_is_infinite hr (pa_cons (pv 1) pa_nil))))))))) (pss_one (ps_ret (pf0 f_nothing hr))) pss_nil)
    (pss_cons (ps_if (pt_val (pf f_is_infinite hr (pa_cons (pv 0) pa_nil))) (pss_one (ps_ret (pf f_plain hr (pa_cons (pf f_infinite hr (pa_cons (pv 4) pa_nil)) pa_nil)))) pss_nil)
    (pss_cons (ps_if (pt_val (pf f_is_infinite hr (pa_cons (pv 1) pa_nil))) (pss_one (ps_ret (pf f_plain hr (pa_cons (pf f_with_sign hr (pa_cons (pv 4) (pa_cons pe_int pa_nil))) pa_nil)))) pss_nil)
    (pss_cons (ps_if (pt_val (pf f_is_zero hr (pa_cons (pv 1) pa_nil))) (pss_one (ps_ret (pn k_Result hr (pa_cons (pf f_infinite hr (pa_cons (pv 4) pa_nil)) (pa_cons (pe_c1 c_BY_ZERO rfl) pa_nil))))) pss_nil)
    (pss_one (ps_ret (pf f_result_of hr (pa_cons (pf f_quotient_of hr (pa_cons (pf f_exact_of hr (pa_cons (pv 0) pa_nil)) (pa_cons (pf f_exact_of hr (pa_cons (pv 1) pa_nil)) pa_nil))) (pa_cons (pv 2) (pa_cons (pv 3) pa_nil))))))))))),?_⟩
  dsimp only at k
  refine ⟨_,rfl,x,rfl,hx.1,_,rfl,y,rfl,hy.1,_,_,rfl,rfl,?_⟩
  dsimp only
  rw [bx]
  refine ⟨_,rfl,x,rfl,hx.1,_,rfl,?_⟩
  by_cases zx : x % 2 ^ 79 = 0
  ·refine br_t (decide_eq_true zx) ⟨_,rfl,y,rfl,hy.1,_,rfl,?_⟩
   by_cases zy : y % 2 ^ 79 = 0
   ·have e1 : Rd20.by_ (Rd20.worth x) (Rd20.worth y) = (.nan,1) := by
     have z1 := zero_worth hx hxn
     have z2 := zero_worth hy hyn
     rw [decide_eq_true zx] at z1
     rw [decide_eq_true zy] at z2
     rcases worth3 hx hxn with ⟨ix,wx,ex⟩ | ⟨ix,wx,px⟩
     ·rw [wx] at z1; cases z1
     ·rcases worth3 hy hyn with ⟨iy,wy,ey⟩ | ⟨iy,wy,py⟩
      ·rw [wy] at z2; cases z2
      ·rw [wx,zero_fin] at z1
       rw [wy,zero_fin] at z2
       rw [wx,wy]
       unfold Rd20.by_
       dsimp only
       rw [if_pos (of_decide_eq_true z2.symm),if_pos (of_decide_eq_true z1.symm)]
    rw [e1,res_none] at k
    exact br_t (decide_eq_true zy) (br_t rfl ⟨rfl,k⟩)
   ·refine br_f (decide_eq_false zy) ?_
    have hz : ¬ (x % 2 ^ 79 = 0 ∧ y % 2 ^ 79 = 0) := fun z => zy z.2
    refine ⟨_,rfl,x,rfl,hx.1,_,rfl,?_⟩
    rcases worth3 hx hxn with ⟨ix,wx,ex⟩ | ⟨ix,wx,px⟩
    ·refine br_t ix ⟨_,rfl,y,rfl,hy.1,_,rfl,?_⟩
     rcases worth3 hy hyn with ⟨iy,wy,ey⟩ | ⟨iy,wy,py⟩
     ·rw [wx,wy,show Rd20.by_ (.inf (Rd20.signOf x)) (.inf (Rd20.signOf y)) = (.nan,1) from rfl,res_none] at k
      exact br_t iy ⟨rfl,k⟩
     ·rw [wx,wy,show Rd20.by_ (.inf (Rd20.signOf x)) (.fin (Rd20.signOf y) (Rd20.sizeOf y) (powE y)) = (.inf (Rd20.signOf x != Rd20.signOf y),0) from rfl,res_inf] at k
      refine br_f iy ⟨_,rfl,x,rfl,hx.1,_,rfl,?_⟩
      exact br_t ix ⟨_,rfl,_,rfl,_,rfl,k⟩
    ·refine br_f ix (br_f rfl ⟨_,rfl,x,rfl,hx.1,_,rfl,?_⟩)
     refine br_f ix ⟨_,rfl,y,rfl,hy.1,_,rfl,?_⟩
     rcases worth3 hy hyn with ⟨iy,wy,ey⟩ | ⟨iy,wy,py⟩
     ·rw [wx,wy,show Rd20.by_ (.fin (Rd20.signOf x) (Rd20.sizeOf x) (powE x)) (.inf (Rd20.signOf y)) = (.fin (Rd20.signOf x != Rd20.signOf y) 0 0,0) from rfl,res_fin,made0,put_ws] at k
      exact br_t iy ⟨_,rfl,_,0,rfl,_,rfl,k⟩
     ·refine br_f iy ⟨_,rfl,y,rfl,hy.1,_,rfl,?_⟩
      by_cases zy : Rd20.sizeOf y = 0
      ·have zx : Rd20.sizeOf x ≠ 0 := fun z => hz ⟨(zero_iff hx).mpr z,(zero_iff hy).mpr zy⟩
       have e1 : resE bits way (Rd20.by_ (Rd20.worth x) (Rd20.worth y)) = (Rd20.INF (Rd20.signOf x != Rd20.signOf y),4) := by
        rw [wx,wy]
        unfold Rd20.by_
        dsimp only
        rw [if_pos zy,if_neg zx]
        unfold resE Rd20.made
        dsimp only
        rw [Nat.or_zero]
       rw [e1] at k
       refine br_t (decide_eq_true ((zero_iff hy).mpr zy)) ⟨_,rfl,_,rfl,?_⟩
       show ∀ (x dx : Addr),_ → _ → _ → _
       refine new_of (n := 2) (mk := mkS) (by rfl) ?_
       exact fun p H' s1 n1 o1 => k p H' s1 n1 o1
      ·refine br_f (decide_eq_false fun z => zy ((zero_iff hy).mp z)) ?_
       rw [wx,wy,← made_quo zy py.m hg.b1] at k
       refine ⟨_,rfl,x,rfl,hx.1,fun p1 H1 s1 n1 o1 => ?_⟩
       refine ⟨_,rfl,y,rfl,hy.1,fun p2 H2 s2 n2 o2 => ?_⟩
       refine ⟨p1,p2,_,_,_,_,_,_,rfl,o1.same s2,o2,px,py,zy,fun p3 H3 s3 n3 o3 => ?_⟩
       have a1 := px.e0
       have a2 := px.e1
       have b1 := py.e0
       have b2 := py.e1
       refine ⟨_,rfl,_,rfl,p3,g,_,_,_,bits,way,rfl,o3,((hg.same s1).same s2).same s3,⟨⟨300,by decide,?_⟩,by omega,by omega⟩,k.part ((s1.trans s2).trans s3)⟩
       unfold quo
       have c1 : Rd20.sizeOf x * 2 ^ 130 / Rd20.sizeOf y ≤ Rd20.sizeOf x * 2 ^ 130 := Nat.div_le_self _ _
       have c2 := px.m
       split <;> omega
  ·refine br_f (decide_eq_false zx) (br_f rfl ?_)
   have hz : ¬ (x % 2 ^ 79 = 0 ∧ y % 2 ^ 79 = 0) := fun z => zx z.1
   refine ⟨_,rfl,x,rfl,hx.1,_,rfl,?_⟩
   rcases worth3 hx hxn with ⟨ix,wx,ex⟩ | ⟨ix,wx,px⟩
   ·refine br_t ix ⟨_,rfl,y,rfl,hy.1,_,rfl,?_⟩
    rcases worth3 hy hyn with ⟨iy,wy,ey⟩ | ⟨iy,wy,py⟩
    ·rw [wx,wy,show Rd20.by_ (.inf (Rd20.signOf x)) (.inf (Rd20.signOf y)) = (.nan,1) from rfl,res_none] at k
     exact br_t iy ⟨rfl,k⟩
    ·rw [wx,wy,show Rd20.by_ (.inf (Rd20.signOf x)) (.fin (Rd20.signOf y) (Rd20.sizeOf y) (powE y)) = (.inf (Rd20.signOf x != Rd20.signOf y),0) from rfl,res_inf] at k
     refine br_f iy ⟨_,rfl,x,rfl,hx.1,_,rfl,?_⟩
     exact br_t ix ⟨_,rfl,_,rfl,_,rfl,k⟩
   ·refine br_f ix (br_f rfl ⟨_,rfl,x,rfl,hx.1,_,rfl,?_⟩)
    refine br_f ix ⟨_,rfl,y,rfl,hy.1,_,rfl,?_⟩
    rcases worth3 hy hyn with ⟨iy,wy,ey⟩ | ⟨iy,wy,py⟩
    ·rw [wx,wy,show Rd20.by_ (.fin (Rd20.signOf x) (Rd20.sizeOf x) (powE x)) (.inf (Rd20.signOf y)) = (.fin (Rd20.signOf x != Rd20.signOf y) 0 0,0) from rfl,res_fin,made0,put_ws] at k
     exact br_t iy ⟨_,rfl,_,0,rfl,_,rfl,k⟩
    ·refine br_f iy ⟨_,rfl,y,rfl,hy.1,_,rfl,?_⟩
     by_cases zy : Rd20.sizeOf y = 0
     ·have zx : Rd20.sizeOf x ≠ 0 := fun z => hz ⟨(zero_iff hx).mpr z,(zero_iff hy).mpr zy⟩
      have e1 : resE bits way (Rd20.by_ (Rd20.worth x) (Rd20.worth y)) = (Rd20.INF (Rd20.signOf x != Rd20.signOf y),4) := by
       rw [wx,wy]
       unfold Rd20.by_
       dsimp only
       rw [if_pos zy,if_neg zx]
       unfold resE Rd20.made
       dsimp only
       rw [Nat.or_zero]
      rw [e1] at k
      refine br_t (decide_eq_true ((zero_iff hy).mpr zy)) ⟨_,rfl,_,rfl,?_⟩
      show ∀ (x dx : Addr),_ → _ → _ → _
      refine new_of (n := 2) (mk := mkS) (by rfl) ?_
      exact fun p H' s1 n1 o1 => k p H' s1 n1 o1
     ·refine br_f (decide_eq_false fun z => zy ((zero_iff hy).mp z)) ?_
      rw [wx,wy,← made_quo zy py.m hg.b1] at k
      refine ⟨_,rfl,x,rfl,hx.1,fun p1 H1 s1 n1 o1 => ?_⟩
      refine ⟨_,rfl,y,rfl,hy.1,fun p2 H2 s2 n2 o2 => ?_⟩
      refine ⟨p1,p2,_,_,_,_,_,_,rfl,o1.same s2,o2,px,py,zy,fun p3 H3 s3 n3 o3 => ?_⟩
      have a1 := px.e0
      have a2 := px.e1
      have b1 := py.e0
      have b2 := py.e1
      refine ⟨_,rfl,_,rfl,p3,g,_,_,_,bits,way,rfl,o3,((hg.same s1).same s2).same s3,⟨⟨300,by decide,?_⟩,by omega,by omega⟩,k.part ((s1.trans s2).trans s3)⟩
      unfold quo
      have c1 : Rd20.sizeOf x * 2 ^ 130 / Rd20.sizeOf y ≤ Rd20.sizeOf x * 2 ^ 130 := Nat.div_le_self _ _
      have c2 := px.m
      split <;> omega
theorem ok_do_result (F : Src K mg "do_result" s_do_result ["op","x","y","form","way"]) (c_NONE : Con1 mg "NONE" (.int NONEn)) (f_plain : Fn P w K mg base "plain" 3 ["number"] (spPlain CS)) (f_opposite : Fn P w K mg base "opposite" 3 ["number"] (spNat fun x => .int (oppE x)))
  (f_sum_result : Fn P w K mg base "sum_result" 9 ["x","y","form","way"] (spBin CF CS Rd20.plus)) (f_product_result : Fn P w K mg base "product_result" 9 ["x","y","form","way"] (spBin CF CS fun _ => Rd20.times)) (f_quotient_result : Fn P w K mg base "quotient_result" 9 ["x","y","form","way"] (spBin CF CS fun _ => Rd20.by_)) :
  Fn P w K mg base "do_result" 10 ["op","x","y","form","way"] (spDo CF CS) := by
 refine F.fn sc_do_result (fun vs H Q E h => ?_) (fun f cdv A outer s H vs Q E hr h => ?_)
 ·obtain ⟨op,x,y,g,bits,way,rfl,_⟩ := h
  rfl
 ·obtain ⟨op,x,y,g,bits,way,rfl,hop,hx,hy,hg,k⟩ := h
  refine ⟨_,(pss_cons (ps_if (PW.pt (pw_or (pt_cmpR op_eq (pv 1) (pe_c1 c_NONE rfl) (nomark _)) (pw_or1 (pt_cmpR op_eq (pv 2) (pe_c1 c_NONE rfl) (nomark _))))) (pss_one (ps_ret (pf f_plain hr (pa_cons (pe_c1 c_NONE rfl) pa_nil)))) pss_nil)
    (pss_cons (ps_if (pt_cmpR op_eq (pv 0) pe_int (nomark _)) (pss_one (ps_ret (pf f_sum_result hr (pa_cons (pv 1) (pa_cons (pv 2) (pa_cons (pv 3) (pa_cons (pv 4) pa_nil))))))) pss_nil)
    (pss_cons (ps_if (pt_cmpR op_eq (pv 0) pe_int (nomark _)) (pss_one (ps_ret (pf f_sum_result hr (pa_cons (pv 1) (pa_cons (pf f_opposite hr (pa_cons (pv 2) pa_nil)) (pa_cons (pv 3) (pa_cons (pv 4) pa_nil))))))) pss_nil)
    (pss_cons (ps_if (pt_cmpR op_eq (pv 0) pe_int (nomark _)) (pss_one (ps_ret (pf f_sum_result hr (pa_cons (pv 2) (pa_cons (pf f_opposite hr (pa_cons (pv 1) pa_nil)) (pa_cons (pv 3) (pa_cons (pv 4) pa_nil))))))) pss_nil)
    (pss_cons (ps_if (pt_cmpR op_eq (pv 0) pe_int (nomark _)) (pss_one (ps_ret (pf f_product_result hr (pa_cons (pv 1) (pa_cons (pv 2) (pa_cons (pv 3) (pa_cons (pv 4) pa_nil))))))) pss_nil)
    (pss_cons (ps_if (pt_cmpR op_eq (pv 0) pe_int (nomark _)) (pss_one (ps_ret (pf f_quotient_result hr (pa_cons (pv 1) (pa_cons (pv 2) (pa_cons (pv 3) (pa_cons (pv 4) pa_nil))))))) pss_nil)
    (pss_one (ps_ret (pf f_quotient_result hr (pa_cons (pv 2) (pa_cons (pv 1) (pa_cons (pv 3) (pa_cons (pv 4) pa_nil))))))))))))),?_⟩
  unfold doE at k
  refine ⟨_,rfl,rfl,_,rfl,?_⟩
  by_cases hxn : x = NONEn
  ·rw [if_pos (.inl hxn)] at k
   exact br_t (dV_t (by rw [hxn])) (br_t rfl ⟨NONEn,rfl,k⟩)
  refine br_f (dV_f (by omega)) ⟨_,rfl,rfl,_,rfl,?_⟩
  by_cases hyn : y = NONEn
  ·rw [if_pos (.inr hyn)] at k
   exact br_t (dV_t (by rw [hyn])) ⟨NONEn,rfl,k⟩
  refine br_f (dV_f (by omega)) ?_
  rw [if_neg (fun z => z.elim hxn hyn)] at k
  unfold Rd20.opOf at k
  obtain ⟨ox1,ox2,ox3⟩ := opp_ok hx hxn
  obtain ⟨oy1,oy2,oy3⟩ := opp_ok hy hyn
  match op,hop with
   | 0,_ =>
    refine ⟨_,rfl,rfl,_,rfl,br_t (dV_t rfl) ?_⟩
    exact ⟨_,rfl,_,rfl,_,rfl,_,rfl,x,y,g,bits,way,rfl,hx,hxn,hy,hyn,hg,k⟩
   | 1,_ =>
    refine ⟨_,rfl,rfl,_,rfl,br_f (dV_f (by decide)) ?_⟩
    refine ⟨_,rfl,rfl,_,rfl,br_t (dV_t rfl) ?_⟩
    refine ⟨_,rfl,_,rfl,y,rfl,hy.1,_,rfl,_,rfl,x,oppE y,g,bits,way,rfl,hx,hxn,oy1,oy2,hg,?_⟩
    rw [oy3]
    exact k
   | 2,_ =>
    refine ⟨_,rfl,rfl,_,rfl,br_f (dV_f (by decide)) ?_⟩
    refine ⟨_,rfl,rfl,_,rfl,br_f (dV_f (by decide)) ?_⟩
    refine ⟨_,rfl,rfl,_,rfl,br_t (dV_t rfl) ?_⟩
    refine ⟨_,rfl,_,rfl,x,rfl,hx.1,_,rfl,_,rfl,y,oppE x,g,bits,way,rfl,hy,hyn,ox1,ox2,hg,?_⟩
    rw [ox3]
    exact k
   | 3,_ =>
    refine ⟨_,rfl,rfl,_,rfl,br_f (dV_f (by decide)) ?_⟩
    refine ⟨_,rfl,rfl,_,rfl,br_f (dV_f (by decide)) ?_⟩
    refine ⟨_,rfl,rfl,_,rfl,br_f (dV_f (by decide)) ?_⟩
    refine ⟨_,rfl,rfl,_,rfl,br_t (dV_t rfl) ?_⟩
    exact ⟨_,rfl,_,rfl,_,rfl,_,rfl,x,y,g,bits,way,rfl,hx,hxn,hy,hyn,hg,k⟩
   | 4,_ =>
    refine ⟨_,rfl,rfl,_,rfl,br_f (dV_f (by decide)) ?_⟩
    refine ⟨_,rfl,rfl,_,rfl,br_f (dV_f (by decide)) ?_⟩
    refine ⟨_,rfl,rfl,_,rfl,br_f (dV_f (by decide)) ?_⟩
    refine ⟨_,rfl,rfl,_,rfl,br_f (dV_f (by decide)) ?_⟩
    refine ⟨_,rfl,rfl,_,rfl,br_t (dV_t rfl) ?_⟩
    exact ⟨_,rfl,_,rfl,_,rfl,_,rfl,x,y,g,bits,way,rfl,hx,hxn,hy,hyn,hg,k⟩
   | 5,_ =>
    refine ⟨_,rfl,rfl,_,rfl,br_f (dV_f (by decide)) ?_⟩
    refine ⟨_,rfl,rfl,_,rfl,br_f (dV_f (by decide)) ?_⟩
    refine ⟨_,rfl,rfl,_,rfl,br_f (dV_f (by decide)) ?_⟩
    refine ⟨_,rfl,rfl,_,rfl,br_f (dV_f (by decide)) ?_⟩
    refine ⟨_,rfl,rfl,_,rfl,br_f (dV_f (by decide)) ?_⟩
    exact ⟨_,rfl,_,rfl,_,rfl,_,rfl,y,x,g,bits,way,rfl,hy,hyn,hx,hxn,hg,k⟩
theorem ok_root_result (F : Src K mg "root_result" s_root_result ["x","form","way"]) (c_NONE : Con1 mg "NONE" (.int NONEn)) (c_INFINITY : Con1 mg "INFINITY" (.int INFn)) (f_is_zero : Fn P w K mg base "is_zero" 3 ["number"] (spNat fun x => .bl (decide (x % 2 ^ 79 = 0)))) (f_nothing : Fn P w K mg base "nothing" 3 [] (spNone0 CS)) (f_plain : Fn P w K mg base "plain" 3 ["number"] (spPlain CS))
  (f_sign_of : Fn P w K mg base "sign_of" 1 ["number"] (spNat fun x => .int (ob (Rd20.signOf x)))) (f_result_of : Fn P w K mg base "result_of" 8 ["value","form","way"] (spResultOf C CF CS)) (f_exact_of : Fn P w K mg base "exact_of" 3 ["number"] (spExactOf C)) (f_root_of : Fn P w K mg base "root_of" 4 ["value"] (spRootOf C)) :
  Fn P w K mg base "root_result" 9 ["x","form","way"] (spRootR CF CS) := by
 refine F.fn sc_root_result (fun vs H Q E h => ?_) (fun f cdv A outer s H vs Q E hr h => ?_)
 ·obtain ⟨x,g,bits,way,rfl,_⟩ := h
  rfl
 ·obtain ⟨x,g,bits,way,rfl,hx,hg,k⟩ := h
  refine ⟨_,(pss_cons (ps_if (PW.pt (pw_or (pt_cmpR op_eq (pv 0) (pe_c1 c_NONE rfl) (nomark _)) (pw_or (pt_val (pf f_is_zero hr (pa_cons (pv 0) pa_nil))) (pw_or1 (pt_cmpR op_eq (pv 0) (pe_c1 c_INFINITY rfl) (nomark _)))))) (pss_one (ps_ret (pf f_plain hr (pa_cons (pv 0) pa_nil)))) pss_nil)
    (pss_cons (ps_if (pt_cmpR op_eq (pf f_sign_of hr (pa_cons (pv 0) pa_nil)) pe_int (nomark _)) (pss_one (ps_ret (pf0 f_nothing hr))) pss_nil)
    (pss_one (ps_ret (pf f_result_of hr (pa_cons (pf f_root_of hr (pa_cons (pf f_exact_of hr (pa_cons (pv 0) pa_nil)) pa_nil)) (pa_cons (pv 1) (pa_cons (pv 2) pa_nil)))))))),?_⟩
  refine ⟨_,rfl,rfl,_,rfl,?_⟩
  by_cases hxn : x = NONEn
  ·have e1 : resE bits way (Rd20.root (Rd20.worth x)) = (x,0) := by
    rw [(worth_nan hx).mpr hxn,show Rd20.root .nan = (.nan,0) from rfl,res_fin,hxn,← NONE_eq]
    rfl
   rw [e1] at k
   exact br_t (dV_t (by rw [hxn])) (br_t rfl ⟨_,rfl,x,rfl,k⟩)
  refine br_f (dV_f (by omega)) ⟨_,rfl,x,rfl,hx.1,_,rfl,?_⟩
  by_cases zx : x % 2 ^ 79 = 0
  ·have e1 : resE bits way (Rd20.root (Rd20.worth x)) = (x,0) := by
    have z0 := (zero_iff hx).mp zx
    have hi : infE x = false := by
     cases hi : infE x with
     | false => rfl
     | true => have := (inf_iff.mp hi).2; omega
    rw [worth_fin (fin_of hx hxn hi),z0]
    have : Rd20.root (.fin (Rd20.signOf x) 0 (powE x)) = (.fin (Rd20.signOf x) 0 0,0) := rfl
    rw [this,res_fin,made0,← zero_is hx z0]
   rw [e1] at k
   exact br_t (decide_eq_true zx) (br_t rfl ⟨_,rfl,x,rfl,k⟩)
  refine br_f (decide_eq_false zx) ⟨_,rfl,rfl,_,rfl,?_⟩
  by_cases hinf : x = INFn
  ·have e1 : resE bits way (Rd20.root (Rd20.worth x)) = (x,0) := by
    obtain ⟨h1,h2⟩ := (inf_n hx).mp hinf
    rw [worth_inf h1,h2,show Rd20.root (.inf false) = (.inf false,0) from rfl,res_inf]
    have := inf_is hx.1 h1
    rw [h2] at this
    rw [← this]
   rw [e1] at k
   exact br_t (dV_t (by rw [hinf])) ⟨_,rfl,x,rfl,k⟩
  refine br_f (dV_f (by omega)) ⟨_,rfl,x,rfl,hx.1,rfl,_,rfl,?_⟩
  rw [ob_one]
  cases hs : Rd20.signOf x with
  | true =>
   have e1 : resE bits way (Rd20.root (Rd20.worth x)) = (NONEn,1) := by
    rcases worth3 hx hxn with ⟨ix,wx,ex⟩ | ⟨ix,wx,px⟩
    ·rw [wx,hs,show Rd20.root (.inf true) = (.nan,1) from rfl,res_none]
    ·rw [wx,hs]
     have h0 : Rd20.sizeOf x ≠ 0 := fun z => zx ((zero_iff hx).mpr z)
     have : Rd20.root (.fin true (Rd20.sizeOf x) (powE x)) = (.nan,1) := by
      unfold Rd20.root
      dsimp only
      rw [if_neg h0,if_pos rfl]
     rw [this,res_none]
   rw [e1] at k
   exact br_t rfl ⟨rfl,k⟩
  | false =>
   refine br_f rfl ?_
   rcases worth3 hx hxn with ⟨ix,wx,ex⟩ | ⟨ix,wx,px⟩
   ·exact absurd ((inf_n hx).mpr ⟨ix,hs⟩) hinf
   ·have h0 : Rd20.sizeOf x ≠ 0 := fun z => zx ((zero_iff hx).mpr z)
    rw [wx,hs] at k
    refine ⟨_,rfl,x,rfl,hx.1,fun p1 H1 s1 n1 o1 => ?_⟩
    refine ⟨p1,_,_,_,rfl,o1,px,h0,fun t r p2 H2 ht hr s2 n2 o2 => ?_⟩
    have a1 := px.e0
    have a2 := px.e1
    have hm := px.m
    refine ⟨_,rfl,_,rfl,p2,g,_,_,_,bits,way,rfl,o2,(hg.same s1).same s2,⟨⟨300,by decide,?_⟩,by omega,by omega⟩,?_⟩
    ·have c1 : r ≤ Rd20.sizeOf x * 2 ^ t := by
      have h1 := hr.1
      rcases Nat.eq_zero_or_pos r with h2 | h2
      ·omega
      ·exact Nat.le_trans (Nat.le_mul_of_pos_left r h2) h1
     have c2 : Rd20.sizeOf x * 2 ^ t < 2 ^ 64 * 2 ^ 135 := Nat.lt_of_lt_of_le (Nat.mul_lt_mul_of_pos_right hm (Nat.two_pow_pos _)) (Nat.mul_le_mul_left _ (Nat.pow_le_pow_right (by decide) (by omega)))
     unfold rootE
     split <;> omega
    ·rw [made_root h0 hg.b1 ht hr]
     exact k.part (s1.trans s2)
theorem ok_near_result (F : Src K mg "near_result" s_near_result ["x","way"]) (c_NONE : Con1 mg "NONE" (.int NONEn)) (c_NOT_EXACT : Con1 mg "NOT_EXACT" (.int 32)) (f_is_infinite : Fn P w K mg base "is_infinite" 2 ["number"] (spNat fun x => .bl (infE x))) (f_plain : Fn P w K mg base "plain" 3 ["number"] (spPlain CS))
  (f_exact_of : Fn P w K mg base "exact_of" 3 ["number"] (spExactOf C)) (f_to_multiple : Fn P w K mg base "to_multiple" 5 ["value","unit","way"] (spMult C)) (f_same_size : Fn P w K mg base "same_size" 2 ["one","other"] (spSame C)) (f_number_of : Fn P w K mg base "number_of" 5 ["value"] (spNumber C)) (k_Result : Cla P w K mg base "Result" CS 1 ["self","number","flags"] (spInit CS 2 mkS)) :
  Fn P w K mg base "near_result" 6 ["x","way"] (spNear CS) := by
 refine F.fn sc_near_result (fun vs H Q E h => ?_) (fun f cdv A outer s H vs Q E hr h => ?_)
 ·obtain ⟨x,way,rfl,_⟩ := h
  rfl
 ·obtain ⟨x,way,rfl,hx,k⟩ := h
  refine ⟨_,(pss_cons (ps_if (PW.pt (pw_or (pt_cmpR op_eq (pv 0) (pe_c1 c_NONE rfl) (nomark _)) (pw_or1 (pt_val (pf f_is_infinite hr (pa_cons (pv 0) pa_nil)))))) (pss_one (ps_ret (pf f_plain hr (pa_cons (pv 0) pa_nil)))) pss_nil)
    (pss_cons (ps_set (i := 2) sc_near_result.nd rfl (Or.inl rfl) (pf f_exact_of hr (pa_cons (pv 0) pa_nil)))
    (pss_cons (ps_set (i := 3) sc_near_result.nd rfl (Or.inl rfl) (pf f_to_multiple hr (pa_cons (pv 2) (pa_cons pe_int (pa_cons (pv 1) pa_nil)))))
    (pss_one (ps_ret (pn k_Result hr (pa_cons (pf f_number_of hr (pa_cons (pv 3) pa_nil)) (pa_cons (pe_ifExp (pt_val (pf f_same_size hr (pa_cons (pv 2) (pa_cons (pv 3) pa_nil)))) pe_int (pe_c1 c_NOT_EXACT rfl)) pa_nil)))))))),?_⟩
  refine ⟨_,rfl,rfl,_,rfl,?_⟩
  unfold nearE at k
  by_cases hxn : x = NONEn
  ·rw [(worth_nan hx).mpr hxn] at k
   exact br_t (dV_t (by rw [hxn])) (br_t rfl ⟨_,rfl,x,rfl,k⟩)
  refine br_f (dV_f (by omega)) ⟨_,rfl,x,rfl,hx.1,_,rfl,?_⟩
  rcases worth3 hx hxn with ⟨ix,wx,ex⟩ | ⟨ix,wx,px⟩
  ·rw [wx] at k
   exact br_t ix ⟨_,rfl,x,rfl,k⟩
  ·rw [wx] at k
   dsimp only at k
   rw [← near_num px] at k
   have hf := fin_of hx hxn ix
   have hU := upre0 hf
   have hW := wide0 hf way
   have hlt := units0_lt (way := way) (neg := Rd20.signOf x) px
   have hsame := same_units way (Rd20.signOf x) (Rd20.sizeOf x) (powE x) 0
   have hS : SPre (Rd20.sizeOf x) (Rd20.units way (Rd20.signOf x) (Rd20.sizeOf x) (powE x) 0).1 (powE x) 0 := ⟨hU.wide,hW,hU.e0,hU.e1,by decide,by decide⟩
   refine br_f ix ⟨_,rfl,x,rfl,hx.1,fun p1 H1 s1 n1 o1 => ?_⟩
   generalize Rd20.signOf x = neg at *
   generalize Rd20.sizeOf x = m at *
   generalize powE x = e at *
   refine ⟨_,rfl,_,rfl,p1,neg,m,e,0,way,rfl,o1,hU,fun p2 H2 s2 n2 o2 => ?_⟩
   have hN : NPre (Rd20.units way neg m e 0).1 0 := ⟨⟨20000,by decide,hlt⟩,by decide,by decide,by decide,by decide,by decide,by decide,by decide,by decide⟩
   generalize hR : Rd20.units way neg m e 0 = u at *
   refine ⟨_,rfl,p2,neg,u.1,0,rfl,o2,hN,_,rfl,_,rfl,p1,p2,_,_,m,u.1,e,0,rfl,o1.same s2,o2,hS,_,rfl,?_⟩
   rw [hsame]
   cases hc : u.2 with
   | true =>
    rw [hc,if_pos rfl] at k
    refine br_f rfl ?_
    show ∀ (x dx : Addr),_ → _ → _ → _
    refine new_of (n := 2) (mk := mkS) (by rfl) ?_
    exact fun p H' s3 n3 o3 => k p H' ((s1.trans s2).trans s3) ((s1.trans s2).free n3) o3
   | false =>
    rw [hc,if_neg Bool.false_ne_true] at k
    refine br_t rfl ?_
    show ∀ (x dx : Addr),_ → _ → _ → _
    refine new_of (n := 2) (mk := mkS) (by rfl) ?_
    exact fun p H' s3 n3 o3 => k p H' ((s1.trans s2).trans s3) ((s1.trans s2).free n3) o3
end
def spEnd (CS : Addr) : Sp := fun vs H Q _ => ∃ x neg way,vs = [vN x,.int (ob neg)] ∧ Num80 x ∧ x ≠ NONEn ∧ Gives CS H (resE 64 way (Rd20.scaled (Rd20.worth x) (.inf neg))) Q
def spSteps : Sp := fun vs H Q _ => ∃ y,vs = [vN y] ∧ Num80 y ∧ ¬ Rd20.expOf y = 32767 ∧ ∀ H',Same H H' → Q (.int (stepsE (Rd20.signOf y) (Rd20.sizeOf y) (powE y))) H'
def scaleE (way x y : Nat) : Nat × Nat := if x = NONEn ∨ y = NONEn then (NONEn,0) else resE 64 way (Rd20.scaled (Rd20.worth x) (Rd20.worth y))
def spScale (CS : Addr) : Sp := fun vs H Q _ => ∃ x y way,vs = [vN x,vN y,vN way] ∧ Num80 x ∧ Num80 y ∧ Gives CS H (scaleE way x y) Q
def expE (x : Nat) : Nat × Nat := match Rd20.worth x with
 | .nan => (NONEn,0)
 | .inf _ => (INFn,0)
 | .fin _ m e => if m = 0 then (Rd20.INF true,4) else (Rd20.exact (Rd20.ofInt (Rd20.top m e)),0)
def spExpR (CS : Addr) : Sp := fun vs H Q _ => ∃ x,vs = [vN x] ∧ Num80 x ∧ Gives CS H (expE x) Q
def wexpE (x : Nat) : Nat := match Rd20.worth x with
 | .fin neg m e => if m = 0 then x else Rd20.exact (.fin neg m (-(Nat.log2 m : Int)))
 | _ => x
def spWExp : Sp := fun vs H Q _ => ∃ x,vs = [vN x] ∧ Num80 x ∧ ∀ H',Same H H' → Q (vN (wexpE x)) H'
def restE (kind x y : Nat) : (Nat × Nat) × Nat := if x = NONEn ∨ y = NONEn then ((NONEn,0),0) else match Rd20.worth x,Rd20.worth y with
 | .fin a m e,.fin b n f => if n = 0 then ((NONEn,1),0) else
  ((Rd20.exact (if Rd20.isZero (Rd20.rest kind (.fin a m e) (.fin b n f)).1 = true then .fin a 0 0 else (Rd20.rest kind (.fin a m e) (.fin b n f)).1),0),(Rd20.rest kind (.fin a m e) (.fin b n f)).2 % 8)
 | .fin _ _ _,_ => ((x,0),0)
 | _,_ => ((NONEn,1),0)
def spRestR (CS CT : Addr) : Sp := fun vs H Q _ => ∃ kind x y,vs = [vN kind,vN x,vN y] ∧ kind ≤ 1 ∧ Num80 x ∧ Num80 y ∧ ∀ t p H',Same H H' → ResAt CS H' p (restE kind x y).1 → Obj CT (fT (.ref p) (vN (restE kind x y).2)) H' t → Q (.ref t) H'
theorem steps_bound (neg : Bool) (n : Nat) (f : Int) : -65536 ≤ stepsE neg n f ∧ stepsE neg n f ≤ 65536 := by
 unfold stepsE
 generalize (Rd20.units 3 neg n f 0).1 = N
 cases neg
 ·rw [if_neg Bool.false_ne_true]; omega
 ·rw [if_pos rfl]; omega
theorem rest_num {kind : Nat} {a b : Bool} {m n : Nat} {e f : Int} (hk : kind ≤ 1) (hm : FPre m e) (hn : FPre n f) (h0 : n ≠ 0) :
  Rd20.exact (if Rd20.isZero (Rd20.rest kind (.fin a m e) (.fin b n f)).1 = true then .fin a 0 0 else (Rd20.rest kind (.fin a m e) (.fin b n f)).1) = numE (if 0 ≤ leftE (kindW kind) a b m e n f then a else !a) (leftE (kindW kind) a b m e n f).natAbs (min e f) := by
 rw [rest_left hk h0]
 dsimp only
 rw [zero_fin]
 have hp := left_pre (kind := kind) (a := a) (b := b) hm hn h0
 by_cases hz : (leftE (kindW kind) a b m e n f).natAbs = 0
 ·have hz' : leftE (kindW kind) a b m e n f = 0 := by omega
  rw [if_pos (decide_eq_true hz),hz',if_pos (Int.le_refl 0)]
  unfold Rd20.exact
  rw [made0,put_ws]
  unfold numE
  rw [if_pos (show Int.natAbs 0 = 0 from rfl)]
 ·rw [if_neg (by rw [decide_eq_false hz]; exact Bool.false_ne_true),exact_f hp]
section
variable {P : Program} {w : World} {K : PySem.W.Frag} {mg : Str → Option Value} {base : Heap} {C CF CR CD CS CT : Addr}
theorem ok_end (F : Src K mg "scaled_without_end" s_scaled_without_end ["x","sign"]) (f_is_infinite : Fn P w K mg base "is_infinite" 2 ["number"] (spNat fun x => .bl (infE x))) (f_is_zero : Fn P w K mg base "is_zero" 3 ["number"] (spNat fun x => .bl (decide (x % 2 ^ 79 = 0)))) (f_nothing : Fn P w K mg base "nothing" 3 [] (spNone0 CS)) (f_plain : Fn P w K mg base "plain" 3 ["number"] (spPlain CS))
  (f_infinite : Fn P w K mg base "infinite" 2 ["sign"] spInfinite) (f_sign_of : Fn P w K mg base "sign_of" 1 ["number"] (spNat fun x => .int (ob (Rd20.signOf x)))) (f_with_sign : Fn P w K mg base "with_sign" 1 ["sign","number"] spWith) : Fn P w K mg base "scaled_without_end" 4 ["x","sign"] (spEnd CS) := by
 refine F.fn sc_scaled_without_end (fun vs H Q E h => ?_) (fun f cdv A outer s H vs Q E hr h => ?_)
 ·obtain ⟨x,neg,way,rfl,_⟩ := h
  rfl
 ·obtain ⟨x,neg,way,rfl,hx,hxn,k⟩ := h
  refine ⟨_,(pss_cons (ps_if (pt_cmpR op_eq (pv 1) pe_int (nomark _)) (pss_one (ps_ret (pe_ifExp (pt_val (pf f_is_zero hr (pa_cons (pv 0) pa_nil))) (pf0 f_nothing hr) (pf f_plain hr (pa_cons (pf f_infinite hr (pa_cons (pf f_sign_of hr (pa_cons (pv 0) pa_nil)) pa_nil)) pa_nil))))) pss_nil)
    (pss_one (ps_ret (pe_ifExp (pt_val (pf f_is_infinite hr (pa_cons (pv 0) pa_nil))) (pf0 f_nothing hr) (pf f_plain hr (pa_cons (pf f_with_sign hr (pa_cons (pf f_sign_of hr (pa_cons (pv 0) pa_nil)) (pa_cons pe_int pa_nil))) pa_nil)))))),?_⟩
  refine ⟨_,rfl,rfl,_,rfl,?_⟩
  cases neg with
  | false =>
   refine br_t rfl ⟨_,rfl,x,rfl,hx.1,_,rfl,?_⟩
   have e1 : Rd20.scaled (Rd20.worth x) (.inf false) = if Rd20.isZero (Rd20.worth x) = true then (.nan,1) else (.inf (Rd20.negative (Rd20.worth x)),0) := rfl
   rw [e1] at k
   dsimp only
   rw [zero_worth hx hxn]
   cases zx : Rd20.isZero (Rd20.worth x) with
   | true =>
    rw [zx,if_pos rfl,res_none] at k
    exact br_t rfl ⟨rfl,k⟩
   | false =>
    rw [zx,if_neg Bool.false_ne_true,res_inf,neg_worth hx hxn] at k
    exact br_f rfl ⟨_,rfl,x,rfl,hx.1,_,rfl,_,rfl,k⟩
  | true =>
   refine br_f rfl ⟨_,rfl,x,rfl,hx.1,_,rfl,?_⟩
   rcases worth3 hx hxn with ⟨ix,wx,ex⟩ | ⟨ix,wx,px⟩
   ·rw [wx,show Rd20.scaled (.inf (Rd20.signOf x)) (.inf true) = (.nan,1) from rfl,res_none] at k
    exact br_t ix ⟨rfl,k⟩
   ·rw [wx,show Rd20.scaled (.fin (Rd20.signOf x) (Rd20.sizeOf x) (powE x)) (.inf true) = (.fin (Rd20.signOf x) 0 0,0) from rfl,res_fin,made0,put_ws] at k
    exact br_f ix ⟨_,rfl,x,rfl,hx.1,_,0,rfl,_,rfl,k⟩
theorem ok_steps (F : Src K mg "steps_of" s_steps_of ["y"]) (n_min : mg "min" = none) (c_TOWARDS_ZERO : Con1 mg "TOWARDS_ZERO" (.int 3)) (c_FAR : Con1 mg "FAR" (.int 65536)) (f_units_in : Fn P w K mg base "units_in" 4 ["value","unit","way"] (spUnits C)) (f_exact_of : Fn P w K mg base "exact_of" 3 ["number"] (spExactOf C))
  (f_sign_of : Fn P w K mg base "sign_of" 1 ["number"] (spNat fun x => .int (ob (Rd20.signOf x)))) : Fn P w K mg base "steps_of" 5 ["y"] spSteps := by
 refine F.fn sc_steps_of (fun vs H Q E h => ?_) (fun f cdv A outer s H vs Q E hr h => ?_)
 ·obtain ⟨y,rfl,_⟩ := h
  rfl
 ·obtain ⟨y,rfl,hy,hf,k⟩ := h
  refine ⟨_,(pss_cons (ps_set (i := 1) sc_steps_of.nd rfl (Or.inl rfl) (pe_callB (call_min2 rfl) (by rfl) n_min b_min (pa_cons (pf f_units_in hr (pa_cons (pf f_exact_of hr (pa_cons (pv 0) pa_nil)) (pa_cons pe_int (pa_cons (pe_c1 c_TOWARDS_ZERO rfl) pa_nil)))) (pa_cons (pe_c1 c_FAR rfl) pa_nil))))
    (pss_one (ps_ret (pe_ifExp (pt_cmpR op_eq (pf f_sign_of hr (pa_cons (pv 0) pa_nil)) pe_int (nomark _)) (pe_un un_neg (pv 1)) (pv 1))))),?_⟩
  refine ⟨_,rfl,y,rfl,hy.1,fun p1 H1 s1 n1 o1 => ?_⟩
  refine ⟨p1,_,_,_,0,3,rfl,o1,upre0 hf,_,_,rfl,?_⟩
  have k1 := k H1 s1
  unfold stepsE at k1
  generalize (Rd20.units 3 (Rd20.signOf y) (Rd20.sizeOf y) (powE y) 0).1 = N at *
  have em : (if (65536 : Int) < (N : Int) then (65536 : Int) else (N : Int)) = ((min N 65536 : Nat) : Int) := by split <;> omega
  dsimp only
  rw [em]
  refine ⟨_,rfl,y,rfl,hy.1,rfl,_,rfl,?_⟩
  rw [ob_one]
  cases hs : Rd20.signOf y with
  | true =>
   rw [hs,if_pos rfl] at k1
   exact br_t rfl ⟨_,rfl,_,rfl,k1⟩
  | false =>
   rw [hs,if_neg Bool.false_ne_true] at k1
   exact br_f rfl ⟨_,rfl,k1⟩
theorem ok_scale_result (F : Src K mg "scale_result" s_scale_result ["x","y","way"]) (T : CE K C) (c_NONE : Con1 mg "NONE" (.int NONEn)) (c_LONGEST : Con1 mg "LONGEST" (.int 2)) (f_is_infinite : Fn P w K mg base "is_infinite" 2 ["number"] (spNat fun x => .bl (infE x))) (f_plain : Fn P w K mg base "plain" 3 ["number"] (spPlain CS))
  (f_scaled_without_end : Fn P w K mg base "scaled_without_end" 4 ["x","sign"] (spEnd CS)) (f_sign_of : Fn P w K mg base "sign_of" 1 ["number"] (spNat fun x => .int (ob (Rd20.signOf x)))) (f_exact_of : Fn P w K mg base "exact_of" 3 ["number"] (spExactOf C)) (f_steps_of : Fn P w K mg base "steps_of" 5 ["y"] spSteps)
  (f_number_form : Fn P w K mg base "number_form" 3 ["length"] (spNForm CF)) (f_result_of : Fn P w K mg base "result_of" 8 ["value","form","way"] (spResultOf C CF CS)) (k_Exact : Cla P w K mg base "Exact" C 1 ["self","sign","size","power"] (spInit C 3 mkE)) :
  Fn P w K mg base "scale_result" 9 ["x","y","way"] (spScale CS) := by
 refine F.fn sc_scale_result (fun vs H Q E h => ?_) (fun f cdv A outer s H vs Q E hr h => ?_)
 ·obtain ⟨x,y,way,rfl,_⟩ := h
  rfl
 ·obtain ⟨x,y,way,rfl,hx,hy,k⟩ := h
  refine ⟨_,(pss_cons (ps_if (PW.pt (pw_or (pt_cmpR op_eq (pv 0) (pe_c1 c_NONE rfl) (nomark _)) (pw_or1 (pt_cmpR op_eq (pv 1) (pe_c1 c_NONE rfl) (nomark _))))) (pss_one (ps_ret (pf f_plain hr (pa_cons (pe_c1 c_NONE rfl) pa_nil)))) pss_nil)
    (pss_cons (ps_if (pt_val (pf f_is_infinite hr (pa_cons (pv 1) pa_nil))) (pss_one (ps_ret (pf f_scaled_without_end hr (pa_cons (pv 0) (pa_cons (pf f_sign_of hr (pa_cons (pv 1) pa_nil)) pa_nil))))) pss_nil)
    (pss_cons (ps_if (pt_val (pf f_is_infinite hr (pa_cons (pv 0) pa_nil))) (pss_one (ps_ret (pf f_plain hr (pa_cons (pv 0) pa_nil)))) pss_nil)
    (pss_cons (ps_set (i := 3) sc_scale_result.nd rfl (Or.inl rfl) (pf f_exact_of hr (pa_cons (pv 0) pa_nil)))
    (pss_one (ps_ret (pf f_result_of hr (pa_cons (pn k_Exact hr (pa_cons (pe_fld (pv 3) rfl) (pa_cons (pe_fld (pv 3) rfl) (pa_cons (pe_op op_add (pe_fld (pv 3) rfl) (pf f_steps_of hr (pa_cons (pv 1) pa_nil))) pa_nil)))) (pa_cons (pf f_number_form hr (pa_cons (pe_c1 c_LONGEST rfl) pa_nil)) (pa_cons (pv 2) pa_nil)))))))))),?_⟩
  unfold scaleE at k
  refine ⟨_,rfl,rfl,_,rfl,?_⟩
  by_cases hxn : x = NONEn
  ·rw [if_pos (.inl hxn)] at k
   exact br_t (dV_t (by rw [hxn])) (br_t rfl ⟨NONEn,rfl,k⟩)
  refine br_f (dV_f (by omega)) ⟨_,rfl,rfl,_,rfl,?_⟩
  by_cases hyn : y = NONEn
  ·rw [if_pos (.inr hyn)] at k
   exact br_t (dV_t (by rw [hyn])) ⟨NONEn,rfl,k⟩
  refine br_f (dV_f (by omega)) ⟨_,rfl,y,rfl,hy.1,_,rfl,?_⟩
  rw [if_neg (fun z => z.elim hxn hyn)] at k
  rcases worth3 hy hyn with ⟨iy,wy,ey⟩ | ⟨iy,wy,py⟩
  ·rw [wy] at k
   exact br_t iy ⟨_,rfl,_,rfl,y,rfl,hy.1,x,Rd20.signOf y,way,rfl,hx,hxn,k⟩
  ·refine br_f iy ⟨_,rfl,x,rfl,hx.1,_,rfl,?_⟩
   rcases worth3 hx hxn with ⟨ix,wx,ex⟩ | ⟨ix,wx,px⟩
   ·rw [wx,wy,show Rd20.scaled (.inf (Rd20.signOf x)) (.fin (Rd20.signOf y) (Rd20.sizeOf y) (powE y)) = (.inf (Rd20.signOf x),0) from rfl,res_inf,← ex] at k
    exact br_t ix ⟨_,rfl,x,rfl,k⟩
   ·have e1 : Rd20.scaled (.fin (Rd20.signOf x) (Rd20.sizeOf x) (powE x)) (.fin (Rd20.signOf y) (Rd20.sizeOf y) (powE y)) = (.fin (Rd20.signOf x) (Rd20.sizeOf x) (powE x + Rd20.cut (.fin (Rd20.signOf y) (Rd20.sizeOf y) (powE y))),0) := rfl
    rw [wx,wy,e1,res_fin,← scale_far px (steps_cut (size_big hy))] at k
    have hb := steps_bound (Rd20.signOf y) (Rd20.sizeOf y) (powE y)
    have a1 := px.e0
    have a2 := px.e1
    have hm := px.m
    refine br_f ix ⟨_,rfl,x,rfl,hx.1,fun p1 H1 s1 n1 o1 => ?_⟩
    obtain ⟨d1,hp1⟩ := o1
    refine ⟨_,rfl,p1,C,d1,_,_,rfl,hp1,T.cl,T.nS,fE_s _ _ _,_,rfl,p1,C,d1,_,_,rfl,hp1,T.cl,T.nM,fE_m _ _ _,_,rfl,p1,C,d1,_,_,rfl,hp1,T.cl,T.nP,fE_p _ _ _,_,rfl,y,rfl,hy,fin_of hy hyn iy,fun H2 s2 => ⟨_,_,rfl,rfl,?_⟩⟩
    dsimp only
    generalize stepsE (Rd20.signOf y) (Rd20.sizeOf y) (powE y) = st at *
    show ∀ (x dx : Addr),_ → _ → _ → _
    refine new_of (n := 3) (mk := mkE) (by rfl) fun p3 H3 s3 n3 o3 => ?_
    refine ⟨2,rfl,by decide,fun p4 H4 s4 n4 o4 => ?_⟩
    refine ⟨_,rfl,p3,p4,Rd20.signOf x,Rd20.sizeOf x,powE x + st,64,way,rfl,o3.same s4,⟨o4,by decide,by decide⟩,⟨⟨64,by decide,hm⟩,by omega,by omega⟩,k.part (((s1.trans s2).trans s3).trans s4)⟩
theorem ok_exp_result (F : Src K mg "exponent_result" s_exponent_result ["x"]) (c_NONE : Con1 mg "NONE" (.int NONEn)) (c_INFINITY : Con1 mg "INFINITY" (.int INFn)) (c_BY_ZERO : Con1 mg "BY_ZERO" (.int 4)) (f_is_infinite : Fn P w K mg base "is_infinite" 2 ["number"] (spNat fun x => .bl (infE x))) (f_is_zero : Fn P w K mg base "is_zero" 3 ["number"] (spNat fun x => .bl (decide (x % 2 ^ 79 = 0)))) (f_plain : Fn P w K mg base "plain" 3 ["number"] (spPlain CS))
  (f_infinite : Fn P w K mg base "infinite" 2 ["sign"] spInfinite) (f_exact_of : Fn P w K mg base "exact_of" 3 ["number"] (spExactOf C)) (f_lead_of : Fn P w K mg base "lead_of" 1 ["value"] (spLead C)) (f_number_of_whole : Fn P w K mg base "number_of_whole" 6 ["n"] spWhole) (k_Result : Cla P w K mg base "Result" CS 1 ["self","number","flags"] (spInit CS 2 mkS)) :
  Fn P w K mg base "exponent_result" 7 ["x"] (spExpR CS) := by
 refine F.fn sc_exponent_result (fun vs H Q E h => ?_) (fun f cdv A outer s H vs Q E hr h => ?_)
 ·obtain ⟨x,rfl,_⟩ := h
  rfl
 ·obtain ⟨x,rfl,hx,k⟩ := h
  refine ⟨_,(pss_cons (ps_if (pt_cmpR op_eq (pv 0) (pe_c1 c_NONE rfl) (nomark _)) (pss_one (ps_ret (pf f_plain hr (pa_cons (pe_c1 c_NONE rfl) pa_nil)))) pss_nil)
    (pss_cons (ps_if (pt_val (pf f_is_infinite hr (pa_cons (pv 0) pa_nil))) (pss_one (ps_ret (pf f_plain hr (pa_cons (pe_c1 c_INFINITY rfl) pa_nil)))) pss_nil)
    (pss_cons (ps_if (pt_val (pf f_is_zero hr (pa_cons (pv 0) pa_nil))) (pss_one (ps_ret (pn k_Result hr (pa_cons (pf f_infinite hr (pa_cons pe_int pa_nil)) (pa_cons (pe_c1 c_BY_ZERO rfl) pa_nil))))) pss_nil)
    (pss_one (ps_ret (pf f_plain hr (pa_cons (pf f_number_of_whole hr (pa_cons (pf f_lead_of hr (pa_cons (pf f_exact_of hr (pa_cons (pv 0) pa_nil)) pa_nil)) pa_nil)) pa_nil))))))),?_⟩
  unfold expE at k
  refine ⟨_,rfl,rfl,_,rfl,?_⟩
  by_cases hxn : x = NONEn
  ·rw [(worth_nan hx).mpr hxn] at k
   exact br_t (dV_t (by rw [hxn])) ⟨NONEn,rfl,k⟩
  refine br_f (dV_f (by omega)) ⟨_,rfl,x,rfl,hx.1,_,rfl,?_⟩
  rcases worth3 hx hxn with ⟨ix,wx,ex⟩ | ⟨ix,wx,px⟩
  ·rw [wx] at k
   exact br_t ix ⟨INFn,rfl,k⟩
  ·rw [wx] at k
   dsimp only at k
   refine br_f ix ⟨_,rfl,x,rfl,hx.1,_,rfl,?_⟩
   by_cases zx : Rd20.sizeOf x = 0
   ·rw [if_pos zx] at k
    refine br_t (decide_eq_true ((zero_iff hx).mpr zx)) ⟨true,rfl,?_⟩
    show ∀ (x dx : Addr),_ → _ → _ → _
    refine new_of (n := 2) (mk := mkS) (by rfl) ?_
    exact fun p H' s1 n1 o1 => k p H' s1 n1 o1
   ·rw [if_neg zx] at k
    refine br_f (decide_eq_false fun z => zx ((zero_iff hx).mp z)) ⟨_,rfl,x,rfl,hx.1,fun p1 H1 s1 n1 o1 => ?_⟩
    refine ⟨p1,_,_,_,rfl,o1,?_⟩
    rw [lead_top zx]
    have hl := px.log
    have a1 := px.e0
    have a2 := px.e1
    have hN : (Rd20.top (Rd20.sizeOf x) (powE x)).natAbs < 2 ^ 64 := by unfold Rd20.top; omega
    refine ⟨_,rfl,hN,fun H2 s2 => ?_⟩
    rw [whole_eq hN]
    exact ⟨_,rfl,k.part (s1.trans s2)⟩
theorem ok_without_exponent (F : Src K mg "without_exponent" s_without_exponent ["x"]) (T : CE K C) (c_NONE : Con1 mg "NONE" (.int NONEn)) (f_is_infinite : Fn P w K mg base "is_infinite" 2 ["number"] (spNat fun x => .bl (infE x))) (f_is_zero : Fn P w K mg base "is_zero" 3 ["number"] (spNat fun x => .bl (decide (x % 2 ^ 79 = 0))))
  (f_exact_of : Fn P w K mg base "exact_of" 3 ["number"] (spExactOf C)) (f_lead_of : Fn P w K mg base "lead_of" 1 ["value"] (spLead C)) (f_number_of : Fn P w K mg base "number_of" 5 ["value"] (spNumber C)) (k_Exact : Cla P w K mg base "Exact" C 1 ["self","sign","size","power"] (spInit C 3 mkE)) :
  Fn P w K mg base "without_exponent" 6 ["x"] spWExp := by
 refine F.fn sc_without_exponent (fun vs H Q E h => ?_) (fun f cdv A outer s H vs Q E hr h => ?_)
 ·obtain ⟨x,rfl,_⟩ := h
  rfl
 ·obtain ⟨x,rfl,hx,k⟩ := h
  refine ⟨_,(pss_cons (ps_if (PW.pt (pw_or (pt_cmpR op_eq (pv 0) (pe_c1 c_NONE rfl) (nomark _)) (pw_or (pt_val (pf f_is_infinite hr (pa_cons (pv 0) pa_nil))) (pw_or1 (pt_val (pf f_is_zero hr (pa_cons (pv 0) pa_nil))))))) (pss_one (ps_ret (pv 0))) pss_nil)
    (pss_cons (ps_set (i := 1) sc_without_exponent.nd rfl (Or.inl rfl) (pf f_exact_of hr (pa_cons (pv 0) pa_nil)))
    (pss_one (ps_ret (pf f_number_of hr (pa_cons (pn k_Exact hr (pa_cons (pe_fld (pv 1) rfl) (pa_cons (pe_fld (pv 1) rfl) (pa_cons (pe_op op_sub (pe_fld (pv 1) rfl) (pf f_lead_of hr (pa_cons (pv 1) pa_nil))) pa_nil)))) pa_nil)))))),?_⟩
  unfold wexpE at k
  refine ⟨_,rfl,rfl,_,rfl,?_⟩
  by_cases hxn : x = NONEn
  ·rw [(worth_nan hx).mpr hxn] at k
   exact br_t (dV_t (by rw [hxn])) (br_t rfl ⟨_,rfl,k H (Same.refl H)⟩)
  refine br_f (dV_f (by omega)) ⟨_,rfl,x,rfl,hx.1,_,rfl,?_⟩
  rcases worth3 hx hxn with ⟨ix,wx,ex⟩ | ⟨ix,wx,px⟩
  ·rw [wx] at k
   exact br_t ix (br_t rfl ⟨_,rfl,k H (Same.refl H)⟩)
  ·rw [wx] at k
   dsimp only at k
   refine br_f ix ⟨_,rfl,x,rfl,hx.1,_,rfl,?_⟩
   by_cases zx : Rd20.sizeOf x = 0
   ·rw [if_pos zx] at k
    exact br_t (decide_eq_true ((zero_iff hx).mpr zx)) ⟨_,rfl,k H (Same.refl H)⟩
   ·rw [if_neg zx] at k
    refine br_f (decide_eq_false fun z => zx ((zero_iff hx).mp z)) ⟨_,rfl,x,rfl,hx.1,fun p1 H1 s1 n1 o1 => ?_⟩
    obtain ⟨d1,hp1⟩ := o1
    have hl := px.log
    have hm := px.m
    refine ⟨_,rfl,p1,C,d1,_,_,rfl,hp1,T.cl,T.nS,fE_s _ _ _,_,rfl,p1,C,d1,_,_,rfl,hp1,T.cl,T.nM,fE_m _ _ _,_,rfl,p1,C,d1,_,_,rfl,hp1,T.cl,T.nP,fE_p _ _ _,_,rfl,p1,_,_,_,rfl,⟨d1,hp1⟩,_,_,rfl,rfl,?_⟩
    have e1 : powE x - (powE x + bl (Rd20.sizeOf x : Int) - 1) = -(Nat.log2 (Rd20.sizeOf x) : Int) := by
     rw [bl_log _ zx]; omega
    dsimp only
    rw [e1]
    show ∀ (x dx : Addr),_ → _ → _ → _
    refine new_of (n := 3) (mk := mkE) (by rfl) fun p3 H3 s3 n3 o3 => ?_
    have hP : FPre (Rd20.sizeOf x) (-(Nat.log2 (Rd20.sizeOf x) : Int)) := ⟨hm,by omega,by omega⟩
    rw [exact_f hP] at k
    exact ⟨p3,_,_,_,rfl,o3,⟨⟨64,by decide,hm⟩,by omega,by omega,by decide,by decide,by decide,by decide,by decide,by decide⟩,k H3 (s1.trans s3)⟩
theorem ok_rest_result (F : Src K mg "rest_result" s_rest_result ["kind","x","y"]) (TD : CD1 K CD) (c_NONE : Con1 mg "NONE" (.int NONEn)) (c_TOWARDS_ZERO : Con1 mg "TOWARDS_ZERO" (.int 3)) (c_NEAREST : Con1 mg "NEAREST" (.int 0)) (f_is_infinite : Fn P w K mg base "is_infinite" 2 ["number"] (spNat fun x => .bl (infE x))) (f_is_zero : Fn P w K mg base "is_zero" 3 ["number"] (spNat fun x => .bl (decide (x % 2 ^ 79 = 0)))) (f_nothing : Fn P w K mg base "nothing" 3 [] (spNone0 CS)) (f_plain : Fn P w K mg base "plain" 3 ["number"] (spPlain CS))
  (f_exact_of : Fn P w K mg base "exact_of" 3 ["number"] (spExactOf C)) (f_divided : Fn P w K mg base "divided" 4 ["one","other","way"] (spDivided C CD)) (f_number_of : Fn P w K mg base "number_of" 5 ["value"] (spNumber C)) (k_Rest : Cla P w K mg base "Rest" CT 1 ["self","result","low_bits"] (spInit CT 2 mkT)) :
  Fn P w K mg base "rest_result" 6 ["kind","x","y"] (spRestR CS CT) := by
 refine F.fn sc_rest_result (fun vs H Q E h => ?_) (fun f cdv A outer s H vs Q E hr h => ?_)
 ·obtain ⟨kind,x,y,rfl,_⟩ := h
  rfl
 ·obtain ⟨kind,x,y,rfl,hk,hx,hy,k⟩ := h
  refine ⟨_,(pss_cons (ps_if (PW.pt (pw_or (pt_cmpR op_eq (pv 1) (pe_c1 c_NONE rfl) (nomark _)) (pw_or1 (pt_cmpR op_eq (pv 2) (pe_c1 c_NONE rfl) (nomark _))))) (pss_one (ps_ret (pn k_Rest hr (pa_cons (pf f_plain hr (pa_cons (pe_c1 c_NONE rfl) pa_nil)) (pa_cons pe_int pa_nil))))) pss_nil)
    (pss_cons (ps_if (PW.pt (pw_or (pt_val (pf f_is_infinite hr (pa_cons (pv 1) pa_nil))) (pw_or1 (pt_val (pf f_is_zero hr (pa_cons (pv 2) pa_nil)))))) (pss_one (ps_ret (pn k_Rest hr (pa_cons (pf0 f_nothing hr) (pa_cons pe_int pa_nil))))) pss_nil)
    (pss_cons (ps_if (pt_val (pf f_is_infinite hr (pa_cons (pv 2) pa_nil))) (pss_one (ps_ret (pn k_Rest hr (pa_cons (pf f_plain hr (pa_cons (pv 1) pa_nil)) (pa_cons pe_int pa_nil))))) pss_nil)
    (pss_cons (ps_set (i := 3) sc_rest_result.nd rfl (Or.inl rfl) (pf f_divided hr (pa_cons (pf f_exact_of hr (pa_cons (pv 1) pa_nil)) (pa_cons (pf f_exact_of hr (pa_cons (pv 2) pa_nil)) (pa_cons (pe_ifExp (pt_cmpR op_eq (pv 0) pe_int (nomark _)) (pe_c1 c_TOWARDS_ZERO rfl) (pe_c1 c_NEAREST rfl)) pa_nil)))))
    (pss_one (ps_ret (pn k_Rest hr (pa_cons (pf f_plain hr (pa_cons (pf f_number_of hr (pa_cons (pe_fld (pv 3) rfl) pa_nil)) pa_nil)) (pa_cons (pe_op op_mod (pe_fld (pv 3) rfl) pe_int) pa_nil))))))))),?_⟩
  have simple : ∀ (rr : Nat × Nat),restE kind x y = (rr,0) → ∀ p1 H1,Same H H1 → ResAt CS H1 p1 rr → ∀ (t dt : Addr),H1 t = none → H1 dt = none → dt ≠ t → spInit CT 2 mkT [.ref t,.ref p1,.int 0] (upd (upd H1 dt (.own t)) t (.ins CT dt [])) (fun v H2 => v = .non ∧ Q (.ref t) H2) E0 := fun rr er p1 H1 s1 o1 => by
   rw [er] at k
   refine new_of (n := 2) (mk := mkT) (by rfl) fun t H2 s2 n2 o2 => ?_
   exact k t p1 H2 (s1.trans s2) (o1.same s2) o2
  refine ⟨_,rfl,rfl,_,rfl,?_⟩
  by_cases hxn : x = NONEn
  ·have er : restE kind x y = ((NONEn,0),0) := by unfold restE; rw [if_pos (.inl hxn)]
   exact br_t (dV_t (by rw [hxn])) (br_t rfl ⟨NONEn,rfl,fun p1 H1 s1 n1 o1 => simple _ er p1 H1 s1 o1⟩)
  refine br_f (dV_f (by omega)) ⟨_,rfl,rfl,_,rfl,?_⟩
  by_cases hyn : y = NONEn
  ·have er : restE kind x y = ((NONEn,0),0) := by unfold restE; rw [if_pos (.inr hyn)]
   exact br_t (dV_t (by rw [hyn])) ⟨NONEn,rfl,fun p1 H1 s1 n1 o1 => simple _ er p1 H1 s1 o1⟩
  refine br_f (dV_f (by omega)) ⟨_,rfl,x,rfl,hx.1,_,rfl,?_⟩
  rcases worth3 hx hxn with ⟨ix,wx,ex⟩ | ⟨ix,wx,px⟩
  ·have er : restE kind x y = ((NONEn,1),0) := by unfold restE; rw [if_neg (fun z => z.elim hxn hyn),wx]
   exact br_t ix (br_t rfl ⟨rfl,fun p1 H1 s1 n1 o1 => simple _ er p1 H1 s1 o1⟩)
  refine br_f ix ⟨_,rfl,y,rfl,hy.1,_,rfl,?_⟩
  rcases worth3 hy hyn with ⟨iy,wy,ey⟩ | ⟨iy,wy,py⟩
  ·have er : restE kind x y = ((x,0),0) := by unfold restE; rw [if_neg (fun z => z.elim hxn hyn),wx,wy]
   have zy : ¬ y % 2 ^ 79 = 0 := fun z => by
    have h1 := (zero_iff hy).mp z
    have h2 := (inf_iff.mp iy).2
    omega
   refine br_f (decide_eq_false zy) ⟨_,rfl,y,rfl,hy.1,_,rfl,?_⟩
   exact br_t iy ⟨_,rfl,x,rfl,fun p1 H1 s1 n1 o1 => simple _ er p1 H1 s1 o1⟩
  by_cases zy : Rd20.sizeOf y = 0
  ·have er : restE kind x y = ((NONEn,1),0) := by unfold restE; rw [if_neg (fun z => z.elim hxn hyn),wx,wy]; dsimp only; rw [if_pos zy]
   exact br_t (decide_eq_true ((zero_iff hy).mpr zy)) ⟨rfl,fun p1 H1 s1 n1 o1 => simple _ er p1 H1 s1 o1⟩
  refine br_f (decide_eq_false fun z => zy ((zero_iff hy).mp z)) ⟨_,rfl,y,rfl,hy.1,_,rfl,?_⟩
  refine br_f iy ?_
  have er : restE kind x y = ((numE (if 0 ≤ leftE (kindW kind) (Rd20.signOf x) (Rd20.signOf y) (Rd20.sizeOf x) (powE x) (Rd20.sizeOf y) (powE y) then Rd20.signOf x else !Rd20.signOf x) (leftE (kindW kind) (Rd20.signOf x) (Rd20.signOf y) (Rd20.sizeOf x) (powE x) (Rd20.sizeOf y) (powE y)).natAbs (min (powE x) (powE y)),0),wholeE (kindW kind) (Rd20.signOf x) (Rd20.signOf y) (Rd20.sizeOf x) (powE x) (Rd20.sizeOf y) (powE y) % 8) := by
   unfold restE
   rw [if_neg (fun z => z.elim hxn hyn),wx,wy]
   dsimp only
   rw [if_neg zy,rest_num hk px py zy,rest_left hk zy]
  rw [er] at k
  clear simple er
  refine ⟨_,rfl,x,rfl,hx.1,fun p1 H1 s1 n1 o1 => ?_⟩
  refine ⟨_,rfl,y,rfl,hy.1,fun p2 H2 s2 n2 o2 => ?_⟩
  refine ⟨_,rfl,rfl,_,rfl,?_⟩
  match kind,hk with
  | 0,_ =>
   refine br_t (dV_t rfl) ?_
   refine ⟨p1,p2,_,_,_,_,_,_,3,rfl,o1.same s2,o2,px,py,zy,fun d r H3 s3 od o3 => ?_⟩
   obtain ⟨dd,hd⟩ := od
   have hP := left_pre (kind := 0) (a := Rd20.signOf x) (b := Rd20.signOf y) px py zy
   have b0 := hP.e0
   have b1 := hP.e1
   refine ⟨_,rfl,d,CD,dd,_,_,rfl,hd,TD.cl,TD.nL,fD_l _ _,r,_,_,_,rfl,o3,⟨⟨64,by decide,hP.m⟩,by omega,by omega,by decide,by decide,by decide,by decide,by decide,by decide⟩,_,rfl,fun p4 H4 s4 n4 o4 => ?_⟩
   refine ⟨_,rfl,d,CD,dd,_,_,rfl,s4 _ _ hd,TD.cl,TD.nW,fD_w _ _,_,_,rfl,rfl,(by show (0 : Int) < 8; decide),?_⟩
   show ∀ (x dx : Addr),_ → _ → _ → _
   refine new_of (n := 2) (mk := mkT) (by rfl) fun p5 H5 s5 n5 o5 => ?_
   refine k p5 p4 H5 (((((s1.trans s2)).trans s3).trans s4).trans s5) (o4.same s5) ?_
   exact o5
  | 1,_ =>
   refine br_f (dV_f (by decide)) ?_
   refine ⟨p1,p2,_,_,_,_,_,_,0,rfl,o1.same s2,o2,px,py,zy,fun d r H3 s3 od o3 => ?_⟩
   obtain ⟨dd,hd⟩ := od
   have hP := left_pre (kind := 1) (a := Rd20.signOf x) (b := Rd20.signOf y) px py zy
   have b0 := hP.e0
   have b1 := hP.e1
   refine ⟨_,rfl,d,CD,dd,_,_,rfl,hd,TD.cl,TD.nL,fD_l _ _,r,_,_,_,rfl,o3,⟨⟨64,by decide,hP.m⟩,by omega,by omega,by decide,by decide,by decide,by decide,by decide,by decide⟩,_,rfl,fun p4 H4 s4 n4 o4 => ?_⟩
   refine ⟨_,rfl,d,CD,dd,_,_,rfl,s4 _ _ hd,TD.cl,TD.nW,fD_w _ _,_,_,rfl,rfl,(by show (0 : Int) < 8; decide),?_⟩
   show ∀ (x dx : Addr),_ → _ → _ → _
   refine new_of (n := 2) (mk := mkT) (by rfl) fun p5 H5 s5 n5 o5 => ?_
   refine k p5 p4 H5 (((((s1.trans s2)).trans s3).trans s4).trans s5) (o4.same s5) ?_
   exact o5
end
end Rr
end
section
namespace Rr
open Rd20 (units more)
theorem at_scale (a : Bool) (m : Nat) {e u : Int} (k : Nat) (h : u ≤ e) : Rd20.at_ a m e (u - (k : Int)) = Rd20.at_ a m e u * ((2 ^ k : Nat) : Int) := by
 have e1 : (e - (u - (k : Int))).toNat = (e - u).toNat + k := by omega
 cases a
 ·rw [at_f,at_f,e1,Nat.pow_add,← Nat.mul_assoc,Int.natCast_mul]
 ·rw [at_t,at_t,e1,Nat.pow_add,← Nat.mul_assoc,Int.natCast_mul (m * 2 ^ (e - u).toNat),Int.neg_mul]
theorem below_at {a b : Bool} {m n : Nat} {e f u : Int} (h1 : u ≤ e) (h2 : u ≤ f) : Rd20.below (.fin a m e) (.fin b n f) = decide (Rd20.at_ a m e u < Rd20.at_ b n f u) := by
 show decide (Rd20.at_ a m e (min e f) < Rd20.at_ b n f (min e f)) = _
 have ek : ∃ k : Nat,u = min e f - (k : Int) := ⟨(min e f - u).toNat,by omega⟩
 obtain ⟨k,rfl⟩ := ek
 rw [at_scale a m k (Int.min_le_left e f),at_scale b n k (Int.min_le_right e f)]
 refine decide_eq_decide.mpr ?_
 have hp : (0 : Int) < ((2 ^ k : Nat) : Int) := by
  have := Nat.two_pow_pos k
  omega
 exact ⟨fun h => Int.mul_lt_mul_of_pos_right h hp,fun h => Int.lt_of_mul_lt_mul_right h (Int.le_of_lt hp)⟩
theorem at_shift (b : Bool) (n : Nat) {f u : Int} (j : Nat) (h : u ≤ f - (j : Int)) : Rd20.at_ b (n * 2 ^ j) (f - (j : Int)) u = Rd20.at_ b n f u := by
 have e1 : j + (f - (j : Int) - u).toNat = (f - u).toNat := by omega
 cases b
 ·rw [at_f,at_f,Nat.mul_assoc,← Nat.pow_add,e1]
 ·rw [at_t,at_t,Nat.mul_assoc,← Nat.pow_add,e1]
def Like (X Y : Rd20.Num) : Prop := X ≠ .nan ∧ Y ≠ .nan ∧ (∀ Z,Rd20.below Z X = Rd20.below Z Y) ∧ ∀ Z,Rd20.below X Z = Rd20.below Y Z
theorem like_at {b c : Bool} {n p : Nat} {f g : Int} (h : ∀ u,u ≤ f → u ≤ g → Rd20.at_ b n f u = Rd20.at_ c p g u) : Like (.fin b n f) (.fin c p g) := by
 refine ⟨(fun z => nomatch z),(fun z => nomatch z),fun Z => ?_,fun Z => ?_⟩
 ·cases Z with
  | nan => rfl
  | inf a => rfl
  | fin a m e =>
   rw [below_at (u := min e (min f g)) (by omega) (by omega),below_at (u := min e (min f g)) (by omega) (by omega),h _ (by omega) (by omega)]
 ·cases Z with
  | nan => rfl
  | inf a => rfl
  | fin a m e =>
   rw [below_at (u := min e (min f g)) (by omega) (by omega),below_at (u := min e (min f g)) (by omega) (by omega),h _ (by omega) (by omega)]
theorem compared_like {X Y Z : Rd20.Num} (h : Like X Y) : Rd20.compared Z X = Rd20.compared Z Y := by
 obtain ⟨h1,h2,h3,h4⟩ := h
 unfold Rd20.compared
 rw [h3 Z,h4 Z]
 by_cases hz : Z = .nan
 ·rw [if_pos (.inl hz),if_pos (.inl hz)]
 ·have a1 : ¬ (Z = .nan ∨ X = .nan) := fun z => z.elim hz h1
  have a2 : ¬ (Z = .nan ∨ Y = .nan) := fun z => z.elim hz h2
  rw [if_neg a1,if_neg a2]
def rankE (x : Nat) : Int := if Rd20.signOf x = true then -((x % 2 ^ 79 : Nat) : Int) else ((x % 2 ^ 79 : Nat) : Int)
def magE (x : Nat) : Nat := Rd20.sizeOf x * 2 ^ (powE x + 16445).toNat
theorem at_mag {x : Nat} : Rd20.at_ (Rd20.signOf x) (Rd20.sizeOf x) (powE x) (-16445) = if Rd20.signOf x = true then -((magE x : Nat) : Int) else ((magE x : Nat) : Int) := by
 have e1 : (powE x - -16445).toNat = (powE x + 16445).toNat := by omega
 unfold magE
 cases Rd20.signOf x
 ·rw [at_f,e1,if_neg Bool.false_ne_true]
 ·rw [at_t,e1,if_pos rfl]
theorem mag_lt {x y : Nat} (hx : Num80 x) (hy : Num80 y) (h : x % 2 ^ 79 < y % 2 ^ 79) : magE x < magE y := by
 rw [lo79 hx.1,lo79 hy.1] at h
 have sx := sizeOf_lt x
 have sy := sizeOf_lt y
 have rx := num_right hx
 have ry := num_right hy
 unfold magE
 have px : (powE x + 16445).toNat = Rd20.expOf x - 1 := by unfold powE; split <;> omega
 have py : (powE y + 16445).toNat = Rd20.expOf y - 1 := by unfold powE; split <;> omega
 rw [px,py]
 generalize Rd20.expOf x = a at *
 generalize Rd20.expOf y = b at *
 generalize Rd20.sizeOf x = m at *
 generalize Rd20.sizeOf y = n at *
 by_cases hab : a = b
 ·subst hab
  exact Nat.mul_lt_mul_of_pos_right (by omega) (Nat.two_pow_pos _)
 ·have hlt : a < b := by omega
  have hn : 2 ^ 63 ≤ n := ry.2 (by omega)
  have h2 : 2 ^ 63 * 2 ^ (b - 1) ≤ n * 2 ^ (b - 1) := Nat.mul_le_mul_right _ hn
  refine Nat.lt_of_lt_of_le ?_ h2
  by_cases ha : a = 0
  ·subst ha
   have := rx.1 rfl
   rw [show 0 - 1 = 0 from rfl,Nat.pow_zero,Nat.mul_one]
   have h3 : 2 ^ 63 * 1 ≤ 2 ^ 63 * 2 ^ (b - 1) := Nat.mul_le_mul_left _ (Nat.two_pow_pos _)
   omega
  ·have h3 : m * 2 ^ (a - 1) < 2 ^ 64 * 2 ^ (a - 1) := Nat.mul_lt_mul_of_pos_right sx (Nat.two_pow_pos _)
   have h4 : 2 ^ 64 * 2 ^ (a - 1) ≤ 2 ^ 63 * 2 ^ (b - 1) := by
    rw [← Nat.pow_add,← Nat.pow_add]
    exact Nat.pow_le_pow_right (by decide) (by omega)
   omega
theorem mag_iff {x y : Nat} (hx : Num80 x) (hy : Num80 y) : magE x < magE y ↔ x % 2 ^ 79 < y % 2 ^ 79 := by
 constructor
 ·intro h
  rcases Nat.lt_trichotomy (x % 2 ^ 79) (y % 2 ^ 79) with h1 | h1 | h1
  ·exact h1
  ·exfalso
   have e1 : Rd20.expOf x = Rd20.expOf y ∧ Rd20.sizeOf x = Rd20.sizeOf y := by
    rw [lo79 hx.1,lo79 hy.1] at h1
    have sx := sizeOf_lt x
    have sy := sizeOf_lt y
    omega
   unfold magE powE at h
   rw [e1.1,e1.2] at h
   exact Nat.lt_irrefl _ h
  ·exact absurd (mag_lt hy hx h1) (by omega)
 ·exact mag_lt hx hy
theorem mag0 {x : Nat} (hx : Num80 x) : magE x = 0 ↔ x % 2 ^ 79 = 0 := by
 rw [zero_iff hx]
 unfold magE
 constructor
 ·intro h
  rcases Nat.mul_eq_zero.mp h with h | h
  ·exact h
  ·exact absurd h (Nat.ne_of_gt (Nat.two_pow_pos _))
 ·intro h
  rw [h,Nat.zero_mul]
theorem inf_lo {x : Nat} (hx : Num80 x) (h : infE x = true) : x % 2 ^ 79 = 32767 * 2 ^ 64 + 2 ^ 63 := by
 obtain ⟨h1,h2⟩ := inf_iff.mp h
 rw [lo79 hx.1,h1,h2]
theorem fin_lo {x : Nat} (hx : Num80 x) (h : ¬ Rd20.expOf x = 32767) : x % 2 ^ 79 < 32767 * 2 ^ 64 := by
 rw [lo79 hx.1]
 have := expOf_lt x
 have := sizeOf_lt x
 omega
theorem below_rank {x y : Nat} (hx : Num80 x) (hxn : x ≠ NONEn) (hy : Num80 y) (hyn : y ≠ NONEn) : Rd20.below (Rd20.worth x) (Rd20.worth y) = decide (rankE x < rankE y) := by
 unfold rankE
 rcases worth3 hx hxn with ⟨ix,wx,ex⟩ | ⟨ix,wx,px⟩
 ·have lx := inf_lo hx ix
  rcases worth3 hy hyn with ⟨iy,wy,ey⟩ | ⟨iy,wy,py⟩
  ·have ly := inf_lo hy iy
   rw [wx,wy,lx,ly]
   cases Rd20.signOf x <;> cases Rd20.signOf y <;> decide
  ·have ly := fin_lo hy (fin_of hy hyn iy)
   rw [wx,wy,lx]
   generalize y % 2 ^ 79 = Y at *
   show Rd20.signOf x = _
   cases Rd20.signOf x <;> cases Rd20.signOf y
   ·exact (decide_eq_false (by simp only [Bool.false_eq_true,if_false]; omega)).symm
   ·exact (decide_eq_false (by simp only [Bool.false_eq_true,if_false,if_true]; omega)).symm
   ·exact (decide_eq_true (by simp only [Bool.false_eq_true,if_false,if_true]; omega)).symm
   ·exact (decide_eq_true (by simp only [if_true]; omega)).symm
 ·have lx := fin_lo hx (fin_of hx hxn ix)
  rcases worth3 hy hyn with ⟨iy,wy,ey⟩ | ⟨iy,wy,py⟩
  ·have ly := inf_lo hy iy
   rw [wx,wy,ly]
   generalize x % 2 ^ 79 = Y at *
   show (!Rd20.signOf y) = _
   cases Rd20.signOf x <;> cases Rd20.signOf y
   ·exact (decide_eq_true (by simp only [Bool.false_eq_true,if_false]; omega)).symm
   ·exact (decide_eq_false (by simp only [Bool.false_eq_true,if_false,if_true]; omega)).symm
   ·exact (decide_eq_true (by simp only [Bool.false_eq_true,if_false,if_true]; omega)).symm
   ·exact (decide_eq_false (by simp only [if_true]; omega)).symm
  ·rw [wx,wy,below_at (u := -16445) px.e0 py.e0,at_mag,at_mag]
   have h1 := mag_iff hx hy
   have h2 := mag_iff hy hx
   have h3 := mag0 hx
   have h4 := mag0 hy
   refine decide_eq_decide.mpr ?_
   generalize x % 2 ^ 79 = X at *
   generalize y % 2 ^ 79 = Y at *
   generalize magE x = M at *
   generalize magE y = N at *
   cases Rd20.signOf x <;> cases Rd20.signOf y <;> simp only [Bool.false_eq_true,if_false,if_true] <;> omega
theorem compared_rank {x y : Nat} (hx : Num80 x) (hy : Num80 y) : Rd20.compared (Rd20.worth x) (Rd20.worth y) = if x = NONEn ∨ y = NONEn then 3 else if rankE x = rankE y then 1 else if rankE x < rankE y then 0 else 2 := by
 unfold Rd20.compared
 by_cases hn : x = NONEn ∨ y = NONEn
 ·rw [if_pos hn,if_pos (hn.elim (fun h => .inl ((worth_nan hx).mpr h)) (fun h => .inr ((worth_nan hy).mpr h)))]
 ·have hxn : x ≠ NONEn := fun z => hn (.inl z)
  have hyn : y ≠ NONEn := fun z => hn (.inr z)
  rw [if_neg hn,if_neg (fun z => z.elim (not_nan hx hxn) (not_nan hy hyn)),below_rank hx hxn hy hyn,below_rank hy hyn hx hxn]
  generalize rankE x = a
  generalize rankE y = b
  by_cases h1 : a < b
  ·rw [if_pos (decide_eq_true h1),if_neg (by omega),if_pos h1]
  ·rw [if_neg (by rw [decide_eq_false h1]; exact Bool.false_ne_true)]
   by_cases h2 : b < a
   ·rw [if_pos (decide_eq_true h2),if_neg (by omega),if_neg h1]
   ·rw [if_neg (by rw [decide_eq_false h2]; exact Bool.false_ne_true),if_pos (by omega)]
theorem whole_like {n : Int} (h : n.natAbs < 2 ^ 64) : Num80 (Rd20.exact (Rd20.ofInt n)) ∧ Rd20.exact (Rd20.ofInt n) ≠ NONEn ∧ Rd20.small (Rd20.exact (Rd20.ofInt n)) = false ∧ Like (Rd20.worth (Rd20.exact (Rd20.ofInt n))) (Rd20.ofInt n) := by
 have h80 := (exact80 (Rd20.ofInt n)).1
 have key : Rd20.small (Rd20.exact (Rd20.ofInt n)) = false ∧ Like (Rd20.worth (Rd20.exact (Rd20.ofInt n))) (Rd20.ofInt n) := by
  rw [← whole_eq h]
  unfold Rd20.ofInt
  generalize hs : decide (n < 0) = sg
  generalize hm : n.natAbs = m at *
  by_cases h0 : m = 0
  ·subst h0
   have e1 : numE sg 0 0 = wsE sg (0 * 2 ^ 64 + 0) := by unfold numE; rw [if_pos rfl]
   rw [e1]
   obtain ⟨p1,p2,p3,p4⟩ := parts (neg := sg) (E := 0) (M := 0) (by decide) (by decide)
   refine ⟨?_,?_⟩
   ·unfold Rd20.small
    rw [p2,p3]
    rfl
   ·have : Rd20.worth (wsE sg (0 * 2 ^ 64 + 0)) = .fin sg 0 (-16445) := by
     unfold Rd20.worth
     rw [p2,p3,p4]
     rfl
    rw [this]
    refine like_at fun u _ _ => ?_
    cases sg
    ·rw [at_f,at_f,Nat.zero_mul,Nat.zero_mul]
    ·rw [at_t,at_t,Nat.zero_mul,Nat.zero_mul]
  ·have hl : Nat.log2 m ≤ 63 := log_le h
   have ht : Rd20.top m 0 = (Nat.log2 m : Int) := by unfold Rd20.top; omega
   have e1 : numE sg m 0 = wsE sg ((Nat.log2 m + 16383) * 2 ^ 64 + m * 2 ^ (63 - Nat.log2 m)) := by
    unfold numE
    rw [if_neg h0,ht,if_neg (by omega)]
    have e2 : max (Nat.log2 m : Int) (-16382) - 63 = Rd20.top m 0 - ((63 : Nat) : Int) := by rw [ht]; omega
    rw [e2,units_lead,if_pos hl]
    congr 3
   have lb := lead_bounds h0
   rw [if_pos hl] at lb
   obtain ⟨p1,p2,p3,p4⟩ := parts (neg := sg) (E := Nat.log2 m + 16383) (M := m * 2 ^ (63 - Nat.log2 m)) (by omega) lb.2
   rw [e1]
   refine ⟨?_,?_⟩
   ·unfold Rd20.small
    rw [p2]
    have : (Nat.log2 m + 16383 == 0) = false := by simp
    rw [this,Bool.false_and]
   ·have : Rd20.worth (wsE sg ((Nat.log2 m + 16383) * 2 ^ 64 + m * 2 ^ (63 - Nat.log2 m))) = .fin sg (m * 2 ^ (63 - Nat.log2 m)) (0 - ((63 - Nat.log2 m : Nat) : Int)) := by
     unfold Rd20.worth
     rw [p2,p3,p4,if_neg (by omega),if_neg (by omega)]
     congr 1
     omega
    rw [this]
    refine like_at fun u h1 _ => ?_
    exact at_shift sg m _ h1
 refine ⟨h80,fun e => key.2.1 ((worth_nan h80).mpr e),key⟩
end Rr
end
section
namespace Rr
open PySem PySem.Spec PyProof.Rows L2
abbrev s_is_small_taken : Stmt := top 148
theorem sc_is_small_taken : FnScope ["taken","flags","number"] ["taken","flags"] (defScope s_is_small_taken) := ⟨rfl,rfl,rfl,by decide +kernel,rfl,by decide +kernel,by decide +kernel⟩
abbrev s_keep_flags : Stmt := top 149
theorem sc_keep_flags : FnScope ["ring","taken","flags"] ["ring","taken","flags"] (defScope s_keep_flags) := ⟨rfl,rfl,rfl,by decide +kernel,rfl,by decide +kernel,by decide +kernel⟩
abbrev s_settle : Stmt := top 150
theorem sc_settle : FnScope ["ring","taken","to","result"] ["ring","taken","to","result"] (defScope s_settle) := ⟨rfl,rfl,rfl,by decide +kernel,rfl,by decide +kernel,by decide +kernel⟩
abbrev s_are_taken : Stmt := top 151
theorem sc_are_taken : FnScope ["ring","i"] ["ring","i"] (defScope s_are_taken) := ⟨rfl,rfl,rfl,by decide +kernel,rfl,by decide +kernel,by decide +kernel⟩
def spTurn (C : Addr) : Sp := fun vs H Q _ => ∃ r l s k,vs = [.ref r,.int k] ∧ RingAt C H r l s ∧ ∀ H' l',RingAt C H' r l' { s with regs := s.regs.drop (k % 8).toNat ++ s.regs.take (k % 8).toNat } → Keep H H' r l l' → Q .non H'
theorem cut_from {xs : List Nat} {j : Nat} (h : xs.length = 8) (hj : j ≤ 8) : cutV (vNs xs) (some (j : Int)) none = vNs (xs.drop j) := by
 unfold cutV vNs
 rw [List.length_map,h,HT.sIx_nat,← List.map_drop,← List.map_take]
 have e1 : min j 8 = j := by omega
 have e2 : (xs.drop j).take (HT.sIx 8 8 none - j) = xs.drop j := List.take_of_length_le (by rw [List.length_drop,h]; exact Nat.le_refl _)
 rw [e1,e2]
theorem cut_to {xs : List Nat} {j : Nat} (h : xs.length = 8) (hj : j ≤ 8) : cutV (vNs xs) none (some (j : Int)) = vNs (xs.take j) := by
 unfold cutV vNs
 rw [List.length_map,h,HT.sIx_nat,← List.map_drop,← List.map_take]
 have e1 : min j 8 = j := by omega
 have e2 : (xs.drop (HT.sIx 8 0 none)).take (j - HT.sIx 8 0 none) = xs.take j := rfl
 rw [e1,e2]
theorem does_turn (s : Rd20.Abs) (k : Int) : Rd20.does s (.turn k) = if Rd20.within k (-7) 7 = false then (s,Rd20.just (-2)) else ({ s with regs := s.regs.drop (k % 8).toNat ++ s.regs.take (k % 8).toNat },Rd20.just 0) := rfl
theorem does_free (s : Rd20.Abs) (i : Int) : Rd20.does s (.free i) = if Rd20.within i 0 7 = false then (s,Rd20.just (-2)) else ({ s with regs := s.regs.set i.toNat none },Rd20.just 0) := rfl
def anyN (ts : List Nat) : Bool := ts.any fun t => decide (t = NONEn)
def stE (ts : List Nat) (f : Nat) : Bool := if (anyN ts || decide (f % 2 = 1)) = true then false else ts.any Rd20.small
def keepE (ts : List Nat) (f : Nat) : Nat := if stE ts f = true then f ||| 2 else f
theorem any_nan : ∀ {ts : List Nat},(∀ x ∈ ts,Num80 x) → (ts.any fun x => Rd20.worth x == .nan) = anyN ts
 | [],_ => rfl
 | x :: r,h => by
  have h1 := any_nan (ts := r) fun y hy => h y (List.mem_cons_of_mem _ hy)
  have h2 := worth_nan (h x List.mem_cons_self)
  unfold anyN at *
  rw [List.any_cons,List.any_cons,h1]
  congr 1
  show decide (Rd20.worth x = .nan) = _
  exact decide_eq_decide.mpr h2
theorem inV_any (n : Nat) : ∀ ts : List Nat,inV (vN n) (vNs ts) = ts.any fun t => decide (t = n)
 | [] => rfl
 | x :: r => by
  have h := inV_any n r
  unfold inV at *
  show ((vN x :: vNs r).any fun y => eqV y (vN n)) = _
  rw [List.any_cons,List.any_cons,h]
  congr 1
  show ((x : Int) == (n : Int)) = decide (x = n)
  by_cases hx : x = n
  ·rw [hx,decide_eq_true rfl]; exact beq_self_eq_true _
  ·rw [decide_eq_false hx]
   exact beq_eq_false_iff_ne.mpr (by omega)
theorem flat_ns : ∀ ts : List Nat,(vNs ts).all flatV = true
 | [] => rfl
 | x :: r => by
  have h := flat_ns r
  show (vN x :: vNs r).all flatV = true
  rw [List.all_cons,h]
  rfl
theorem band1 (f : Nat) : Builtin.bitAnd (f : Int) 1 = ((f % 2 : Nat) : Int) := by
 unfold Builtin.bitAnd
 have h1 : decide ((0 : Int) ≤ (f : Int)) = true := decide_eq_true (by omega)
 have h2 : decide ((0 : Int) ≤ 1) = true := by decide
 rw [h1,h2]
 show (((f : Int).toNat &&& (1 : Int).toNat : Nat) : Int) = _
 rw [Int.toNat_natCast,show (1 : Int).toNat = 1 from rfl,Nat.and_one_is_mod]
def spST (K : PySem.W.Frag) : Sp := fun vs H Q _ => ∃ (a : Addr) (ts : List Nat) (f : Nat),vs = [.ref a,vN f] ∧ H a = some (.lst (vNs ts)) ∧ (∀ x ∈ ts,Num80 x) ∧ ts.length ≤ 1000 ∧ ∀ H',Same H H' → Q (.bl (stE ts f)) H'
def spKeepF (C : Addr) : Sp := fun vs H Q _ => ∃ r l s a ts f,vs = [.ref r,.ref a,vN f] ∧ RingAt C H r l s ∧ H a = some (.lst (vNs ts)) ∧ a ≠ l ∧ (∀ x ∈ ts,Num80 x) ∧ ts.length ≤ 1000 ∧
 ∀ H',RingAt C H' r l { s with flags := s.flags ||| keepE ts f } → Keep H H' r l l → Q .non H'
def spSettle (C CS : Addr) : Sp := fun vs H Q _ => ∃ r l s a ts to b X,vs = [.ref r,.ref a,.int to,.ref b] ∧ RingAt C H r l s ∧ H a = some (.lst (vNs ts)) ∧ a ≠ l ∧ (∀ x ∈ ts,Num80 x) ∧ ts.length ≤ 1000 ∧ 0 ≤ to ∧ to ≤ 7 ∧ ResAt CS H b X ∧
 ∀ H',RingAt C H' r l { s with flags := s.flags ||| keepE ts X.2,regs := s.regs.set to.toNat X.1 } → Keep H H' r l l → Q .non H'
def spAre (C : Addr) : Sp := fun vs H Q _ => ∃ r l s i,vs = [.ref r,.int i] ∧ RingAt C H r l s ∧ 0 ≤ i ∧ i ≤ 7 ∧ Q (.bl (!decide (s.regs.getD 0 0 = EMn) && !decide (s.regs.getD i.toNat 0 = EMn))) H
theorem RingAt.neL {H : Hp} {C r l a : Addr} {s : RS} {xs : List V} (R : RingAt C H r l s) (h : H a = some (.lst xs)) : a ≠ r := fun z => by
 obtain ⟨dx,e⟩ := R.ob
 rw [z,e] at h
 cases h
theorem RingAt.neS {H : Hp} {C CS r l b : Addr} {s : RS} {x : Nat × Nat} (R : RingAt C H r l s) (h : ResAt CS H b x) : b ≠ r ∧ b ≠ l := by
 obtain ⟨dx,e⟩ := R.ob
 obtain ⟨dy,h⟩ := h
 refine ⟨fun z => ?_,fun z => ?_⟩
 ·rw [z,e] at h; cases h
 ·rw [z,R.ls] at h; cases h
section
variable {P : Program} {w : World} {K : PySem.W.Frag} {mg : Str → Option Value} {base : Heap} {C CS : Addr}
theorem ok_turn (F : SrcM K C "turn" "Ring.turn" s_Ring_turn ["self","steps"]) (T : CG K C) (c_REGISTERS : Con1 mg "REGISTERS" (.int 8)) : Mtd P w K mg base C "turn" 1 ["self","steps"] (spTurn C) := by
 refine F.mt sc_Ring_turn (fun vs H Q E h => ?_) (fun f cdv A outer s H vs Q E hr h => ?_)
 ·obtain ⟨r,l,st,g,rfl,_⟩ := h
  rfl
 ·obtain ⟨r,l,st,i,rfl,R,k⟩ := h
  obtain ⟨dx,hr'⟩ := R.ob
  refine ⟨_,(pss_cons (ps_set (i := 2) sc_Ring_turn.nd rfl (Or.inl rfl) (pe_op op_mod (pv 1) (pe_c1 c_REGISTERS rfl)))
    (pss_one (ps_fld (pv 0) (pe_op op_cat (pe_slice sl_list (pe_fld (pv 0) rfl) (po_some (pv 2)) po_none) (pe_slice sl_list (pe_fld (pv 0) rfl) po_none (po_some (pv 2)))) rfl))),?_⟩
  refine ⟨_,rfl,_,_,rfl,rfl,(by show (0 : Int) < 8; decide),?_⟩
  have ej : i % 8 = (((i % 8).toNat : Nat) : Int) := by omega
  have hj : (i % 8).toNat ≤ 8 := by omega
  dsimp only
  rw [ej]
  generalize (i % 8).toNat = j at *
  refine ⟨_,rfl,r,C,dx,_,_,rfl,hr',T.cl,T.nR,fG_r _ _ _ _,_,rfl,_,rfl,l,_,rfl,SqL.of R.ls,fun l1 n1 => ?_⟩
  rw [cut_from R.n8 hj]
  have hrl1 : r ≠ l1 := ne_of_none hr' n1
  have hll1 : l ≠ l1 := ne_of_none R.ls n1
  refine ⟨_,rfl,r,C,dx,_,_,rfl,(by rw [upd_ne hrl1]; exact hr'),T.cl,T.nR,fG_r _ _ _ _,_,rfl,_,rfl,l,_,rfl,SqL.of (by rw [upd_ne hll1]; exact R.ls),fun l2 n2 => ?_⟩
  rw [cut_to R.n8 hj]
  have hn21 : l2 ≠ l1 := fun e => by rw [e,upd_same] at n2; cases n2
  have n2' : H l2 = none := by rw [upd_ne hn21] at n2; exact n2
  have hl7 : (vNs (st.regs.drop j)).length + (vNs (st.regs.take j)).length = 8 := by rw [List.length_map,List.length_map,List.length_drop,List.length_take,R.n8]; omega
  refine ⟨l1,l2,_,_,rfl,rfl,(by rw [upd_ne (Ne.symm hn21),upd_same]),upd_same,(by rw [hl7]; decide),fun l3 n3 => ?_⟩
  have hn32 : l3 ≠ l2 := fun e => by rw [e,upd_same] at n3; cases n3
  have hn31 : l3 ≠ l1 := fun e => by rw [e,upd_ne (Ne.symm hn21),upd_same] at n3; cases n3
  have n3' : H l3 = none := by rw [upd_ne hn32,upd_ne hn31] at n3; exact n3
  have hr2 : r ≠ l2 := ne_of_none hr' n2'
  have hr3 : r ≠ l3 := ne_of_none hr' n3'
  refine ⟨_,rfl,r,C,dx,_,rfl,(by rw [upd_ne hr3,upd_ne hr2,upd_ne hrl1]; exact hr'),T.cl,T.nR,few4,?_⟩
  refine k _ l3 ⟨⟨dx,upd_same⟩,?_,?_⟩ ⟨fun b o e hb _ => ?_,.inr n3',by rw [upd_same]; exact sne,fun b hb => dom1 b (dom1 b (dom1 b (dom1 b hb)))⟩
  ·rw [upd_ne (Ne.symm hr3),upd_same]
   show some (HO.lst (vNs (st.regs.drop j) ++ vNs (st.regs.take j))) = some (HO.lst (vNs (st.regs.drop j ++ st.regs.take j)))
   unfold vNs
   rw [List.map_append]
  ·show (st.regs.drop j ++ st.regs.take j).length = 8
   rw [List.length_append,List.length_drop,List.length_take,R.n8]
   omega
  ·rw [upd_ne hb,upd_ne (ne_of_none e n3'),upd_ne (ne_of_none e n2'),upd_ne (ne_of_none e n1)]
   exact e
theorem ok_call_turn (F : Src K mg "call_turn" s_call_turn ["ring","given"]) (T : CG K C) (f_is_within : Fn P w K mg base "is_within" 1 ["n","low","high"] spWithin) (m_Ring_turn : Mtd P w K mg base C "turn" 1 ["self","steps"] (spTurn C)) (c_BAD_ARGUMENT : Con1 mg "BAD_ARGUMENT" (.int (-2))) (c_DONE : Con1 mg "DONE" (.int 0)) :
  Fn P w K mg base "call_turn" 2 ["ring","given"] (spCall C (c1 .turn)) := by
 have cl_Ring := T.cl
 refine F.fn sc_call_turn (fun vs H Q E h => ?_) (fun f cdv A outer s H vs Q E hr h => ?_)
 ·obtain ⟨r,g,l,s,zs,q,rfl,_⟩ := h
  rfl
 ·obtain ⟨r,g,l,st,zs,q,rfl,R,V0,hg,hgl,hq,k⟩ := h
  obtain ⟨dx,hr'⟩ := R.ob
  obtain ⟨a,rfl,rfl⟩ := hq
  refine ⟨_,(pss_cons (ps_set (i := 2) sc_call_turn.nd rfl (Or.inl rfl) (pe_ix ix_list (pv 1) pe_int (fun _ _ => rfl)))
    (pss_cons (ps_if (pt_not (pt_val (pf f_is_within hr (pa_cons (pv 2) (pa_cons (pe_un un_neg pe_int) (pa_cons pe_int pa_nil)))))) (pss_one (ps_ret (pe_lst (pa_cons (pe_c1 c_BAD_ARGUMENT rfl) pa_nil)))) pss_nil)
    (pss_cons (ps_expr (pe_mt (pv 0) cl_Ring m_Ring_turn (hr.mono (by decide)) (pa_cons (pv 2) pa_nil)))
    (pss_one (ps_ret (pe_lst (pa_cons (pe_c1 c_DONE rfl) pa_nil))))))),?_⟩
  rw [does_turn] at k
  refine ⟨_,rfl,g,_,0,_,rfl,rfl,SqL.of hg,atI_nat (j := 0) rfl,?_⟩
  refine ⟨_,rfl,_,rfl,a,-7,7,rfl,_,rfl,?_⟩
  refine br2 (fun h => ?_) (fun h => ?_)
  ·have h1 : Rd20.within a (-7) 7 = false := by simpa using h
   rw [if_pos h1] at k
   exact ⟨by show 1 ≤ 16777216; decide,k.fin R V0 (Keep.refl R) rfl rfl⟩
  ·have h1 : Rd20.within a (-7) 7 = true := by simpa using h
   rw [if_neg (by rw [h1]; exact fun z => nomatch z)] at k
   refine ⟨_,rfl,r,dx,_,rfl,hr',rfl,_,rfl,r,l,st,a,rfl,R,fun H1 l1 R1 K1 => ?_⟩
   exact ⟨by show 1 ≤ 16777216; decide,k.fin R1 (V0.turn (by omega)) K1 abs_turn rfl⟩
theorem ok_call_free (F : Src K mg "call_free" s_call_free ["ring","given"]) (T : CG K C) (f_is_place : Fn P w K mg base "is_place" 2 ["i"] spPlace) (c_BAD_ARGUMENT : Con1 mg "BAD_ARGUMENT" (.int (-2))) (c_EMPTY : Con1 mg "EMPTY" (.int EMn)) (c_DONE : Con1 mg "DONE" (.int 0)) :
  Fn P w K mg base "call_free" 3 ["ring","given"] (spCall C (c1 .free)) := by
 refine F.fn sc_call_free (fun vs H Q E h => ?_) (fun f cdv A outer s H vs Q E hr h => ?_)
 ·obtain ⟨r,g,l,s,zs,q,rfl,_⟩ := h
  rfl
 ·obtain ⟨r,g,l,st,zs,q,rfl,R,V0,hg,hgl,hq,k⟩ := h
  obtain ⟨dx,hr'⟩ := R.ob
  obtain ⟨a,rfl,rfl⟩ := hq
  refine ⟨_,(pss_cons (ps_set (i := 2) sc_call_free.nd rfl (Or.inl rfl) (pe_ix ix_list (pv 1) pe_int (fun _ _ => rfl)))
    (pss_cons (ps_if (pt_not (pt_val (pf f_is_place hr (pa_cons (pv 2) pa_nil)))) (pss_one (ps_ret (pe_lst (pa_cons (pe_c1 c_BAD_ARGUMENT rfl) pa_nil)))) pss_nil)
    (pss_cons (ps_asg (pe_c1 c_EMPTY rfl) (pg_sub (pe_fld (pv 0) rfl) (pv 2) set_list))
    (pss_one (ps_ret (pe_lst (pa_cons (pe_c1 c_DONE rfl) pa_nil))))))),?_⟩
  rw [does_free] at k
  refine ⟨_,rfl,g,_,0,_,rfl,rfl,SqL.of hg,atI_nat (j := 0) rfl,?_⟩
  refine ⟨_,rfl,a,rfl,_,rfl,?_⟩
  refine br2 (fun h => ?_) (fun h => ?_)
  ·have h1 : Rd20.within a 0 7 = false := by simpa using h
   rw [if_pos h1] at k
   exact ⟨by show 1 ≤ 16777216; decide,k.fin R V0 (Keep.refl R) rfl rfl⟩
  ·have h1 : Rd20.within a 0 7 = true := by simpa using h
   rw [if_neg (by rw [h1]; exact fun z => nomatch z)] at k
   have w1 := within_iff.mp h1
   have hl8 : (vNs st.regs).length = 8 := by rw [List.length_map]; exact R.n8
   have hrl := R.nrl
   refine ⟨_,rfl,r,C,dx,_,_,rfl,hr',T.cl,T.nR,fG_r _ _ _ _,_,rfl,l,_,a,a.toNat,rfl,rfl,R.ls,(by rw [hl8]; exact ixN_of w1.1 (by omega)),?_⟩
   have e1 : (vNs st.regs).set a.toNat (vN EMn) = vNs (st.regs.set a.toNat EMn) := by unfold vNs; rw [List.map_set]
   have R1 : RingAt C (upd H l (.lst ((vNs st.regs).set a.toNat (vN EMn)))) r l { st with regs := st.regs.set a.toNat EMn } := ⟨⟨dx,by rw [upd_ne hrl]; exact hr'⟩,by rw [upd_same,e1],by show (st.regs.set a.toNat EMn).length = 8; rw [List.length_set]; exact R.n8⟩
   have K1 : Keep H (upd H l (.lst ((vNs st.regs).set a.toNat (vN EMn)))) r l l := ⟨fun b o e hb hl => by rw [upd_ne hl]; exact e,.inl rfl,by rw [upd_ne hrl,hr']; exact sne,fun b hb => dom1 b hb⟩
   exact ⟨by show 1 ≤ 16777216; decide,k.fin R1 V0.free K1 abs_free rfl⟩
theorem ok_small_taken (F : Src K mg "is_small_taken" s_is_small_taken ["taken","flags"]) (f_is_small : Fn P w K mg base "is_small" 2 ["number"] (spNat fun x => .bl (Rd20.small x))) (n_any : mg "any" = none) (c_NONE : Con1 mg "NONE" (.int NONEn)) (c_NOTHING_CAME : Con1 mg "NOTHING_CAME" (.int 1)) : Fn P w K mg base "is_small_taken" 3 ["taken","flags"] (spST K) := by
 refine F.fn sc_is_small_taken (fun vs H Q E h => ?_) (fun f cdv A outer s H vs Q E hr h => ?_)
 ·obtain ⟨a,ts,f,rfl,_⟩ := h
  rfl
 ·obtain ⟨a,ts,f,rfl,ha,ht,hl,k⟩ := h
  refine ⟨_,(pss_cons (ps_if (PW.pt (pw_or (pt_cmpR op_in_seq (pe_c1 c_NONE rfl) (pv 0) (by with_unfolding_all rfl)) (pw_or1 (pt_cmpR op_gt (pe_op op_and (pv 1) (pe_c1 c_NOTHING_CAME rfl)) pe_int (nomark _))))) (pss_one (ps_ret pe_bl)) pss_nil)
    (pss_one (ps_ret (pe_callB (cr_any rfl) (by rfl) n_any b_any (pa_cons (pe_lc (own := [("number",2)]) rfl sc_is_small_taken.nd (pi_list (pv 0)) (show BlkOk ["taken","flags","number"] (defScope s_is_small_taken) _ [("number",2)] from ⟨rfl,by decide +kernel,by decide +kernel,by decide +kernel,by decide +kernel⟩) (fun _ _ _ _ _ => pg_name (i := 2) sc_is_small_taken.nd rfl (Or.inl rfl)) (fun _ _ _ _ _ => pts_nil) (fun _ _ _ _ _ => (pf f_is_small hr (pa_cons (pv 2) pa_nil)))) pa_nil))))),?_⟩
  unfold stE at k
  refine ⟨_,rfl,a,_,rfl,.inl (SqL.of ha),rfl,flat_ns ts,_,rfl,?_⟩
  have e1 : inV (V.int (NONEn : Int)) (vNs ts) = anyN ts := inV_any NONEn ts
  cases hn : anyN ts with
  | true =>
   rw [hn,Bool.true_or,if_pos rfl] at k
   refine br_t (by rw [e1,hn]; rfl) (br_t rfl ?_)
   exact k H (Same.refl H)
  | false =>
   rw [hn,Bool.false_or] at k
   refine br_f (by rw [e1,hn]; rfl) ⟨_,rfl,_,_,rfl,rfl,_,_,rfl,rfl,_,rfl,?_⟩
   dsimp only
   rw [band1]
   by_cases hf : f % 2 = 1
   ·rw [decide_eq_true hf,if_pos rfl] at k
    refine br_t (decide_eq_true (by omega)) ?_
    exact k H (Same.refl H)
   ·rw [decide_eq_false hf,if_neg Bool.false_ne_true] at k
    refine br_f (decide_eq_false (by omega)) ?_
    refine ⟨_,rfl,a,rfl,⟨_,SqL.of ha⟩,fun D hD => ?_⟩
    refine lc_list (K := K) (a := a) (xs := vNs ts) (fun i H' => H' D = some (.lst (((ts.take i).map Rd20.small).map V.bl)) ∧ Same H H') ⟨upd_same,same_new hD⟩ (fun i H' _ p => SqL.of (p.2 _ _ ha)) ?_ ?_
    ·rintro i x H' hx ⟨h1,h2⟩
     obtain ⟨z,hz,rfl⟩ : ∃ z,ts[i]? = some z ∧ x = vN z := by
      rw [List.getElem?_map] at hx
      cases e : ts[i]? with
      | none => rw [e] at hx; cases hx
      | some z => rw [e] at hx; exact ⟨z,rfl,(Option.some.inj hx).symm⟩
     refine ⟨rfl,?_⟩
     simp only [tYes,if_true]
     have hz80 : Num80 z := ht z (List.mem_of_getElem? hz)
     refine ⟨_,rfl,z,rfl,hz80.1,_,h1,?_,?_,?_⟩
     ·rw [List.length_map,List.length_map,List.length_take]
      exact Nat.lt_of_le_of_lt (Nat.min_le_right _ _) (by show ts.length < 16777216; omega)
     ·rw [upd_same,take_snoc' hz,List.map_append,List.map_append]
      rfl
     ·intro b o e
      rw [upd_ne (ne_of_none e hD)]
      exact h2 b o e
    ·rintro H' ⟨h1,h2⟩
     rw [List.length_map,List.take_length] at h1
     refine ⟨D,_,rfl,SqL.of h1,?_⟩
     have e2 : (ts.map Rd20.small).any id = ts.any Rd20.small := by rw [List.any_map]; rfl
     rw [e2]
     exact k H' h2
theorem ok_keep_flags (F : Src K mg "keep_flags" s_keep_flags ["ring","taken","flags"]) (T : CG K C) (f_is_small_taken : Fn P w K mg base "is_small_taken" 3 ["taken","flags"] (spST K)) (m_Ring_set_flags : Mtd P w K mg base C "set_flags" 1 ["self","flags"] (spSetFlags C)) (c_SMALL_TAKEN : Con1 mg "SMALL_TAKEN" (.int 2)) :
  Fn P w K mg base "keep_flags" 4 ["ring","taken","flags"] (spKeepF C) := by
 have cl_Ring := T.cl
 refine F.fn sc_keep_flags (fun vs H Q E h => ?_) (fun f cdv A outer s H vs Q E hr h => ?_)
 ·obtain ⟨r,l,s,a,ts,f,rfl,_⟩ := h
  rfl
 ·obtain ⟨r,l,st,a,ts,f,rfl,R,ha,hal,ht,hl,k⟩ := h
  obtain ⟨dx,hr'⟩ := R.ob
  refine ⟨_,(pss_cons (ps_expr (pe_mt (pv 0) cl_Ring m_Ring_set_flags (hr.mono (by decide)) (pa_cons (pv 2) pa_nil)))
    (pss_one (ps_if (pt_val (pf f_is_small_taken hr (pa_cons (pv 1) (pa_cons (pv 2) pa_nil)))) (pss_one (ps_expr (pe_mt (pv 0) cl_Ring m_Ring_set_flags (hr.mono (by decide)) (pa_cons (pe_c1 c_SMALL_TAKEN rfl) pa_nil)))) pss_nil))),?_⟩
  unfold keepE at k
  refine ⟨_,rfl,r,dx,_,rfl,hr',rfl,_,rfl,r,l,st,f,rfl,R,fun H1 R1 K1 => ?_⟩
  have ha1 := K1.keep a _ ha (R.neL ha) hal
  refine ⟨_,rfl,_,rfl,a,ts,f,rfl,ha1,ht,hl,fun H2 S2 => ⟨_,rfl,?_⟩⟩
  have R2 := R1.same S2
  have K2 := K1.trans (Keep.of_same R1 S2)
  obtain ⟨d2,hr2⟩ := R2.ob
  cases hs : stE ts f with
  | true =>
   rw [hs,if_pos rfl] at k
   refine br_t rfl ⟨_,rfl,r,d2,_,rfl,hr2,rfl,r,l,_,2,rfl,R2,fun H3 R3 K3 => ?_⟩
   refine k H3 ?_ (K2.trans K3)
   rw [← Nat.or_assoc]
   exact R3
  | false =>
   rw [hs,if_neg Bool.false_ne_true] at k
   exact br_f rfl (k H2 R2 K2)
theorem ok_settle (F : Src K mg "settle" s_settle ["ring","taken","to","result"]) (T : CG K C) (TS : CS1 K CS) (f_keep_flags : Fn P w K mg base "keep_flags" 4 ["ring","taken","flags"] (spKeepF C)) : Fn P w K mg base "settle" 5 ["ring","taken","to","result"] (spSettle C CS) := by
 refine F.fn sc_settle (fun vs H Q E h => ?_) (fun f cdv A outer s H vs Q E hr h => ?_)
 ·obtain ⟨r,l,s,a,ts,to,b,X,rfl,_⟩ := h
  rfl
 ·obtain ⟨r,l,st,a,ts,to,b,X,rfl,R,ha,hal,ht,hl,t0,t1,hb,k⟩ := h
  obtain ⟨hbr,hbl⟩ := R.neS hb
  obtain ⟨db,hb⟩ := hb
  refine ⟨_,(pss_cons (ps_expr (pf f_keep_flags hr (pa_cons (pv 0) (pa_cons (pv 1) (pa_cons (pe_fld (pv 3) rfl) pa_nil)))))
    (pss_one (ps_asg (pe_fld (pv 3) rfl) (pg_sub (pe_fld (pv 0) rfl) (pv 2) set_list)))),?_⟩
  refine ⟨_,rfl,_,rfl,_,rfl,b,CS,db,_,_,rfl,hb,TS.cl,TS.nF,fS_f _ _,r,l,st,a,ts,X.2,rfl,R,ha,hal,ht,hl,fun H1 R1 K1 => ?_⟩
  have hb1 := K1.keep b _ hb hbr hbl
  obtain ⟨d1,hr1⟩ := R1.ob
  have hrl := R1.nrl
  have hl8 : (vNs st.regs).length = 8 := by rw [List.length_map]; exact R1.n8
  refine ⟨_,rfl,b,CS,db,_,_,rfl,hb1,TS.cl,TS.nN,fS_n _ _,_,rfl,r,C,d1,_,_,rfl,hr1,T.cl,T.nR,fG_r _ _ _ _,_,rfl,l,_,to,to.toNat,rfl,rfl,R1.ls,(by rw [hl8]; exact ixN_of t0 (by omega)),?_⟩
  have e1 : (vNs st.regs).set to.toNat (vN X.1) = vNs (st.regs.set to.toNat X.1) := by unfold vNs; rw [List.map_set]
  refine k _ ⟨⟨d1,by rw [upd_ne hrl]; exact hr1⟩,by rw [upd_same,← e1],by show (st.regs.set to.toNat X.1).length = 8; rw [List.length_set]; exact R1.n8⟩ (K1.trans ⟨fun c o e hc hcl => by rw [upd_ne hcl]; exact e,.inl rfl,by rw [upd_ne hrl,hr1]; exact sne,fun c hc => dom1 c hc⟩)
theorem ok_are (F : Src K mg "are_taken" s_are_taken ["ring","i"]) (T : CG K C) (m_Ring_is_empty : Mtd P w K mg base C "is_empty" 1 ["self","i"] (spIsEmpty C)) : Fn P w K mg base "are_taken" 2 ["ring","i"] (spAre C) := by
 have cl_Ring := T.cl
 refine F.fn sc_are_taken (fun vs H Q E h => ?_) (fun f cdv A outer s H vs Q E hr h => ?_)
 ·obtain ⟨r,l,s,i,rfl,_⟩ := h
  rfl
 ·obtain ⟨r,l,st,i,rfl,R,h0,h1,k⟩ := h
  obtain ⟨dx,hr'⟩ := R.ob
  refine ⟨_,(pss_one (ps_ret (pe_and (pe_not (pe_mt (pv 0) cl_Ring m_Ring_is_empty (hr.mono (by decide)) (pa_cons pe_int pa_nil))) (pe_one (pe_not (pe_mt (pv 0) cl_Ring m_Ring_is_empty (hr.mono (by decide)) (pa_cons (pv 1) pa_nil))))))),?_⟩
  refine ⟨_,rfl,r,dx,_,rfl,hr',rfl,r,l,st,0,rfl,R,by decide,by decide,_,rfl,_,rfl,?_⟩
  have e0 : (0 : Int).toNat = 0 := rfl
  rw [e0]
  cases hd : decide (st.regs.getD 0 0 = EMn) with
  | true =>
   rw [hd] at k
   exact br_f rfl k
  | false =>
   rw [hd] at k
   exact br_t rfl ⟨_,rfl,r,dx,_,rfl,hr',rfl,_,rfl,r,l,st,i,rfl,R,h0,h1,_,rfl,k⟩
end
abbrev s_call_do : Stmt := top 152
theorem sc_call_do : FnScope ["ring","given","op","i","to","x","y"] ["ring","given"] (defScope s_call_do) := ⟨rfl,rfl,rfl,by decide +kernel,rfl,by decide +kernel,by decide +kernel⟩
abbrev s_call_root : Stmt := top 153
theorem sc_call_root : FnScope ["ring","given","x"] ["ring","given"] (defScope s_call_root) := ⟨rfl,rfl,rfl,by decide +kernel,rfl,by decide +kernel,by decide +kernel⟩
abbrev s_call_near : Stmt := top 154
theorem sc_call_near : FnScope ["ring","given","x"] ["ring","given"] (defScope s_call_near) := ⟨rfl,rfl,rfl,by decide +kernel,rfl,by decide +kernel,by decide +kernel⟩
abbrev s_call_scale : Stmt := top 155
theorem sc_call_scale : FnScope ["ring","given","x","y"] ["ring","given"] (defScope s_call_scale) := ⟨rfl,rfl,rfl,by decide +kernel,rfl,by decide +kernel,by decide +kernel⟩
abbrev s_call_split : Stmt := top 156
theorem sc_call_split : FnScope ["ring","given","x"] ["ring","given"] (defScope s_call_split) := ⟨rfl,rfl,rfl,by decide +kernel,rfl,by decide +kernel,by decide +kernel⟩
abbrev s_call_rest : Stmt := top 157
theorem sc_call_rest : FnScope ["ring","given","kind","x","y","rest"] ["ring","given"] (defScope s_call_rest) := ⟨rfl,rfl,rfl,by decide +kernel,rfl,by decide +kernel,by decide +kernel⟩
theorem Valid.settle {s : RS} (v : Valid s) {i x : Nat} (f : Nat) (hx : Num80 x) : Valid { s with flags := f,regs := s.regs.set i x } := ⟨(Valid.set v hx hx.ne).n8,v.way,v.len,(Valid.set v hx hx.ne).reg⟩
theorem flagsOf_keep {ts : List Nat} {f : Nat} (h : ∀ x ∈ ts,Num80 x) (hn : anyN ts = false) : Rd20.flagsOf ts f = keepE ts f := by
 unfold Rd20.flagsOf keepE stE
 rw [any_nan h,hn,if_neg Bool.false_ne_true,Bool.false_or]
 generalize ts.any Rd20.small = b
 rcases Nat.mod_two_eq_zero_or_one f with hf | hf <;> cases b <;> simp [hf]
theorem keep_nan {ts : List Nat} {f : Nat} (hn : anyN ts = true) : keepE ts f = f := by
 unfold keepE stE
 rw [hn,Bool.true_or,if_pos rfl,if_neg Bool.false_ne_true]
theorem keep_odd {ts : List Nat} {f : Nat} (hn : f % 2 = 1) : keepE ts f = f := by
 unfold keepE stE
 rw [decide_eq_true hn,Bool.or_true,if_pos rfl,if_neg Bool.false_ne_true]
theorem abs_settle {s : RS} {F : Nat} {i : Int} {X : Nat} (hX : X ≠ EMn) : absE { s with flags := s.flags ||| F,regs := s.regs.set i.toNat X } = Rd20.flag (Rd20.set_ (absE s) i X) F := by
 unfold Rd20.flag
 rw [← abs_set hX]
 rfl
theorem comes_settle {s : RS} {ts : List Nat} {i : Int} {bits : Nat} {r : Rd20.Res} {X : Nat × Nat} (h : ∀ x ∈ ts,Num80 x) (hX : X = if anyN ts = true then (NONEn,0) else resE bits s.way r) (hne : X.1 ≠ EMn) :
  absE { s with flags := s.flags ||| keepE ts X.2,regs := s.regs.set i.toNat X.1 } = Rd20.comes (absE s) ts i bits r := by
 rw [abs_settle hne]
 cases hn : anyN ts with
 | true =>
  rw [hn,if_pos rfl] at hX
  rw [comes_nan (by rw [any_nan h,hn]),keep_nan hn,hX,NONE_eq]
  exact flag0 _
 | false =>
  rw [hn,if_neg Bool.false_ne_true] at hX
  rw [← flagsOf_keep h hn,hX]
  unfold Rd20.comes
  rw [any_nan h,hn,if_neg Bool.false_ne_true]
  rfl
theorem any1 {x : Nat} : anyN [x] = decide (x = NONEn) := by unfold anyN; rw [List.any_cons,List.any_nil,Bool.or_false]
theorem any2 {x y : Nat} : anyN [x,y] = decide (x = NONEn ∨ y = NONEn) := by
 unfold anyN
 rw [List.any_cons,List.any_cons,List.any_nil,Bool.or_false]
 by_cases h1 : x = NONEn
 ·rw [decide_eq_true h1,decide_eq_true (show x = NONEn ∨ y = NONEn from .inl h1),Bool.true_or]
 ·by_cases h2 : y = NONEn
  ·rw [decide_eq_true h2,decide_eq_true (show x = NONEn ∨ y = NONEn from .inr h2),Bool.or_true]
  ·rw [decide_eq_false h1,decide_eq_false h2,decide_eq_false (show ¬ (x = NONEn ∨ y = NONEn) from fun z => z.elim h1 h2)]; rfl
theorem all1 {x : Nat} (hx : Num80 x) : ∀ z ∈ [x],Num80 z := fun z hz => by rw [List.mem_singleton.mp hz]; exact hx
theorem all2 {x y : Nat} (hx : Num80 x) (hy : Num80 y) : ∀ z ∈ [x,y],Num80 z := fun z hz => by
 rcases List.mem_cons.mp hz with h | h
 ·rw [h]; exact hx
 ·rw [List.mem_singleton.mp h]; exact hy
theorem num_NONE : Num80 NONEn := by rw [← NONE_eq]; exact num80_NONE.1
theorem num_res {bits way : Nat} (r : Rd20.Res) (h0 : 1 ≤ bits) (h1 : bits ≤ 64) : Num80 (resE bits way r).1 := (made_num80 r.1 h0 h1).1
theorem places_ok {n : Nat} (h : n ≤ 2) : 1 ≤ placesE n ∧ placesE n ≤ 64 := by
 match n,h with
 | 0,_ => decide
 | 1,_ => decide
 | 2,_ => decide
theorem set_own {s : RS} (v : Valid s) {x : Nat} (h : s.regs.getD 0 0 = x) : s.regs.set 0 x = s.regs := by
 have h8 := v.n8
 match hr : s.regs,h8 with
 | a :: t,_ =>
  rw [hr] at h
  show x :: t = a :: t
  rw [← h]
  rfl
def cDo (zs : List Int) (q : Rd20.Call) : Prop := ∃ o i t,zs = [o,i,t] ∧ q = .op o i t
theorem does_op (s : Rd20.Abs) (o i to : Int) : Rd20.does s (.op o i to) = if (Rd20.within o 0 5 && (Rd20.within i 0 7 && (to == 0 || to == i))) = false then (s,Rd20.just (-2)) else Rd20.of2 s i fun x y => (Rd20.comes s [x,y] to (Rd20.bitsNow s) (Rd20.opOf o.toNat s.way (Rd20.worth x) (Rd20.worth y)),Rd20.just 0) := rfl
theorem does_root (s : Rd20.Abs) : Rd20.does s .root = Rd20.of1 s fun x => (Rd20.comes s [x] 0 (Rd20.bitsNow s) (Rd20.root (Rd20.worth x)),Rd20.just 0) := rfl
theorem does_near (s : Rd20.Abs) : Rd20.does s .near = Rd20.of1 s fun x => match Rd20.worth x with
  | .fin neg m e => (Rd20.flag (Rd20.set_ s 0 (Rd20.exact (.fin neg (Rd20.units s.way neg m e 0).1 0))) (Rd20.flagsOf [x] (if (Rd20.units s.way neg m e 0).2 = true then 32 else 0)),Rd20.just 0)
  | _ => (s,Rd20.just 0) := rfl
theorem does_scale (s : Rd20.Abs) : Rd20.does s .scale = Rd20.of2 s 1 fun x y => (Rd20.comes s [x,y] 0 64 (Rd20.scaled (Rd20.worth x) (Rd20.worth y)),Rd20.just 0) := rfl
theorem does_split (s : Rd20.Abs) : Rd20.does s .split = Rd20.of1 s fun x => if Rd20.full s = true then (s,Rd20.just (-5)) else match Rd20.worth x with
  | .nan => (Rd20.push s Rd20.NONE,Rd20.just 0)
  | .inf _ => (Rd20.push (Rd20.set_ s 0 (Rd20.INF false)) x,Rd20.just 0)
  | .fin neg m e => if m = 0 then (Rd20.flag (Rd20.push (Rd20.set_ s 0 (Rd20.INF true)) x) 4,Rd20.just 0) else
   (Rd20.flag (Rd20.push (Rd20.set_ s 0 (Rd20.exact (Rd20.ofInt (Rd20.top m e)))) (Rd20.exact (.fin neg m (-(Nat.log2 m : Int))))) (Rd20.flagsOf [x] 0),Rd20.just 0) := rfl
theorem does_rest (s : Rd20.Abs) (k : Int) : Rd20.does s (.rest k) = if Rd20.within k 0 1 = false then (s,Rd20.just (-2)) else Rd20.of2 s 1 fun x y => match Rd20.worth x,Rd20.worth y with
  | .nan,_ => (s,Rd20.just 0)
  | _,.nan => (Rd20.set_ s 0 Rd20.NONE,Rd20.just 0)
  | .inf _,_ => (Rd20.flag (Rd20.set_ s 0 Rd20.NONE) 1,Rd20.just 0)
  | .fin _ _ _,.inf _ => (Rd20.flag s (Rd20.flagsOf [x,y] 0),Rd20.just 0)
  | .fin a m e,.fin b n f => if n = 0 then (Rd20.flag (Rd20.set_ s 0 Rd20.NONE) 1,Rd20.just 0) else
   (Rd20.flag (Rd20.set_ s 0 (Rd20.exact (if Rd20.isZero (Rd20.rest k.toNat (.fin a m e) (.fin b n f)).1 = true then .fin a 0 0 else (Rd20.rest k.toNat (.fin a m e) (.fin b n f)).1))) (Rd20.flagsOf [x,y] 0),Rd20.just (((Rd20.rest k.toNat (.fin a m e) (.fin b n f)).2 % 8 : Nat) : Int)) := rfl
theorem small_inf {x : Nat} (h : infE x = true) : Rd20.small x = false := by
 unfold Rd20.small
 rw [(inf_iff.mp h).1]
 rfl
theorem small_zero {x : Nat} (h : Rd20.sizeOf x = 0) : Rd20.small x = false := by
 unfold Rd20.small
 rw [h]
 exact Bool.and_false _
theorem keep_plain {x f : Nat} (h : Rd20.small x = false) : keepE [x] f = f := by
 have e : stE [x] f = false := by
  unfold stE
  rw [List.any_cons,List.any_nil,Bool.or_false,h]
  exact ite_self _
 unfold keepE
 rw [e,if_neg Bool.false_ne_true]
section
variable {P : Program} {w : World} {K : PySem.W.Frag} {mg : Str → Option Value} {base : Heap} {C CF CS CT : Addr}
theorem ok_call_root (F : Src K mg "call_root" s_call_root ["ring","given"]) (T : CG K C) (m_Ring_is_empty : Mtd P w K mg base C "is_empty" 1 ["self","i"] (spIsEmpty C)) (f_settle : Fn P w K mg base "settle" 5 ["ring","taken","to","result"] (spSettle C CS)) (f_number_form : Fn P w K mg base "number_form" 3 ["length"] (spNForm CF)) (c_IS_EMPTY : Con1 mg "IS_EMPTY" (.int (-4))) (c_DONE : Con1 mg "DONE" (.int 0)) (f_root_result : Fn P w K mg base "root_result" 9 ["x","form","way"] (spRootR CF CS)) : Fn P w K mg base "call_root" 10 ["ring","given"] (spCall C fun zs q => q = .root) := by
 have cl_Ring := T.cl
 refine F.fn sc_call_root (fun vs H Q E h => ?_) (fun f cdv A outer s H vs Q E hr h => ?_)
 ·obtain ⟨r,g,l,s,zs,q,rfl,_⟩ := h
  rfl
 ·obtain ⟨r,g,l,st,zs,q,rfl,R,V0,hg,hgl,rfl,k⟩ := h
  obtain ⟨dx,hr'⟩ := R.ob
  refine ⟨_,(pss_cons (ps_if (pt_val (pe_mt (pv 0) cl_Ring m_Ring_is_empty (hr.mono (by decide)) (pa_cons pe_int pa_nil))) (pss_one (ps_ret (pe_lst (pa_cons (pe_c1 c_IS_EMPTY rfl) pa_nil)))) pss_nil)
    (pss_cons (ps_set (i := 2) sc_call_root.nd rfl (Or.inl rfl) (pe_ix ix_list (pe_fld (pv 0) rfl) pe_int (fun _ _ => rfl)))
    (pss_cons (ps_expr (pf f_settle hr (pa_cons (pv 0) (pa_cons (pe_lst (pa_cons (pv 2) pa_nil)) (pa_cons pe_int (pa_cons (pf f_root_result hr (pa_cons (pv 2) (pa_cons (pf f_number_form hr (pa_cons (pe_fld (pv 0) rfl) pa_nil)) (pa_cons (pe_fld (pv 0) rfl) pa_nil)))) pa_nil))))))
    (pss_one (ps_ret (pe_lst (pa_cons (pe_c1 c_DONE rfl) pa_nil))))))),?_⟩
  rw [does_root] at k
  unfold Rd20.of1 at k
  rw [show Rd20.reg (absE st) 0 = optE (st.regs.getD 0 0) from reg_abs V0.n8 (by decide) (by decide)] at k
  refine ⟨_,rfl,r,dx,_,rfl,hr',rfl,r,l,st,0,rfl,R,by decide,by decide,_,rfl,?_⟩
  by_cases h2 : st.regs.getD 0 0 = EMn
  ·rw [optE_none h2] at k
   exact br_t (decide_eq_true h2) ⟨by show 1 ≤ 16777216; decide,k.fin R V0 (Keep.refl R) rfl rfl⟩
  refine br_f (decide_eq_false h2) ?_
  rw [optE_some h2] at k
  dsimp only at k
  have hx := V0.at_ (i := 0) (by decide) h2
  refine ⟨_,rfl,r,C,dx,_,_,rfl,hr',T.cl,T.nR,fG_r _ _ _ _,l,_,0,_,rfl,rfl,SqL.of R.ls,len8 R.n8 (by decide) (by decide),?_⟩
  refine ⟨_,rfl,_,rfl,(by show 1 ≤ 16777216; decide),fun p2 n2 => ?_⟩
  have S2 : Same H (upd H p2 (.lst (vNs [st.regs.getD 0 0]))) := same_new n2
  have hp2 : upd H p2 (.lst (vNs [st.regs.getD 0 0])) p2 = some (.lst (vNs [st.regs.getD 0 0])) := upd_same
  have hp2l : p2 ≠ l := Ne.symm (ne_of_none R.ls n2)
  have R2 := R.same S2
  obtain ⟨d2,hr2⟩ := R2.ob
  refine ⟨_,rfl,_,rfl,r,C,d2,_,_,rfl,hr2,T.cl,T.nL,fG_l _ _ _ _,st.len,rfl,V0.len,fun p3 H3 s3 n3 o3 => ?_⟩
  have R3 := R2.same s3
  obtain ⟨d3,hr3⟩ := R3.ob
  have hb := places_ok V0.len
  refine ⟨_,rfl,r,C,d3,_,_,rfl,hr3,T.cl,T.nW,fG_w _ _ _ _,st.regs.getD 0 0,p3,placesE st.len,st.way,rfl,hx,⟨o3,hb.1,hb.2⟩,fun p4 H4 s4 n4 o4 => ?_⟩
  have R4 := R3.same s4
  have S4 := (S2.trans s3).trans s4
  have hX : Num80 (resE (placesE st.len) st.way (Rd20.root (Rd20.worth (st.regs.getD 0 0)))).1 := num_res _ hb.1 hb.2
  refine ⟨r,l,st,p2,[st.regs.getD 0 0],0,p4,_,rfl,R4,s4 _ _ (s3 _ _ hp2),hp2l,all1 hx,(by show 1 ≤ 1000; decide),by decide,by decide,o4,fun H5 R5 K5 => ?_⟩
  refine ⟨by show 1 ≤ 16777216; decide,k.fin R5 (V0.settle _ hX) ((Keep.of_same R S4).trans K5) ?_ rfl⟩
  refine comes_settle (all1 hx) ?_ hX.ne
  rw [any1]
  by_cases hn : st.regs.getD 0 0 = NONEn
  ·rw [decide_eq_true hn,if_pos rfl,(worth_nan hx).mpr hn,show Rd20.root .nan = (.nan,0) from rfl,res_fin,← NONE_eq]
   rfl
  ·rw [decide_eq_false hn,if_neg Bool.false_ne_true]
   rfl
theorem ok_call_near (F : Src K mg "call_near" s_call_near ["ring","given"]) (T : CG K C) (m_Ring_is_empty : Mtd P w K mg base C "is_empty" 1 ["self","i"] (spIsEmpty C)) (f_settle : Fn P w K mg base "settle" 5 ["ring","taken","to","result"] (spSettle C CS)) (c_IS_EMPTY : Con1 mg "IS_EMPTY" (.int (-4))) (c_DONE : Con1 mg "DONE" (.int 0)) (f_near_result : Fn P w K mg base "near_result" 6 ["x","way"] (spNear CS)) : Fn P w K mg base "call_near" 7 ["ring","given"] (spCall C fun zs q => q = .near) := by
 have cl_Ring := T.cl
 refine F.fn sc_call_near (fun vs H Q E h => ?_) (fun f cdv A outer s H vs Q E hr h => ?_)
 ·obtain ⟨r,g,l,s,zs,q,rfl,_⟩ := h
  rfl
 ·obtain ⟨r,g,l,st,zs,q,rfl,R,V0,hg,hgl,rfl,k⟩ := h
  obtain ⟨dx,hr'⟩ := R.ob
  refine ⟨_,(pss_cons (ps_if (pt_val (pe_mt (pv 0) cl_Ring m_Ring_is_empty (hr.mono (by decide)) (pa_cons pe_int pa_nil))) (pss_one (ps_ret (pe_lst (pa_cons (pe_c1 c_IS_EMPTY rfl) pa_nil)))) pss_nil)
    (pss_cons (ps_set (i := 2) sc_call_near.nd rfl (Or.inl rfl) (pe_ix ix_list (pe_fld (pv 0) rfl) pe_int (fun _ _ => rfl)))
    (pss_cons (ps_expr (pf f_settle hr (pa_cons (pv 0) (pa_cons (pe_lst (pa_cons (pv 2) pa_nil)) (pa_cons pe_int (pa_cons (pf f_near_result hr (pa_cons (pv 2) (pa_cons (pe_fld (pv 0) rfl) pa_nil))) pa_nil))))))
    (pss_one (ps_ret (pe_lst (pa_cons (pe_c1 c_DONE rfl) pa_nil))))))),?_⟩
  rw [does_near] at k
  unfold Rd20.of1 at k
  rw [show Rd20.reg (absE st) 0 = optE (st.regs.getD 0 0) from reg_abs V0.n8 (by decide) (by decide)] at k
  refine ⟨_,rfl,r,dx,_,rfl,hr',rfl,r,l,st,0,rfl,R,by decide,by decide,_,rfl,?_⟩
  by_cases h2 : st.regs.getD 0 0 = EMn
  ·rw [optE_none h2] at k
   exact br_t (decide_eq_true h2) ⟨by show 1 ≤ 16777216; decide,k.fin R V0 (Keep.refl R) rfl rfl⟩
  refine br_f (decide_eq_false h2) ?_
  rw [optE_some h2] at k
  dsimp only at k
  have hx := V0.at_ (i := 0) (by decide) h2
  refine ⟨_,rfl,r,C,dx,_,_,rfl,hr',T.cl,T.nR,fG_r _ _ _ _,l,_,0,_,rfl,rfl,SqL.of R.ls,len8 R.n8 (by decide) (by decide),?_⟩
  refine ⟨_,rfl,_,rfl,(by show 1 ≤ 16777216; decide),fun p2 n2 => ?_⟩
  have S2 : Same H (upd H p2 (.lst (vNs [st.regs.getD 0 0]))) := same_new n2
  have hp2 : upd H p2 (.lst (vNs [st.regs.getD 0 0])) p2 = some (.lst (vNs [st.regs.getD 0 0])) := upd_same
  have hp2l : p2 ≠ l := Ne.symm (ne_of_none R.ls n2)
  have R2 := R.same S2
  obtain ⟨d2,hr2⟩ := R2.ob
  refine ⟨_,rfl,_,rfl,r,C,d2,_,_,rfl,hr2,T.cl,T.nW,fG_w _ _ _ _,st.regs.getD 0 0,st.way,rfl,hx,fun p4 H4 s4 n4 o4 => ?_⟩
  have R4 := R2.same s4
  have S4 := S2.trans s4
  refine ⟨r,l,st,p2,[st.regs.getD 0 0],0,p4,_,rfl,R4,s4 _ _ hp2,hp2l,all1 hx,(by show 1 ≤ 1000; decide),by decide,by decide,o4,fun H5 R5 K5 => ?_⟩
  have own := set_own V0 rfl
  refine ⟨by show 1 ≤ 16777216; decide,?_⟩
  by_cases hn : st.regs.getD 0 0 = NONEn
  ·have ew := (worth_nan hx).mpr hn
   rw [ew] at k
   have e1 : nearE st.way (st.regs.getD 0 0) = (st.regs.getD 0 0,0) := by unfold nearE; rw [ew]
   rw [e1,keep_nan (by rw [any1]; exact decide_eq_true hn),Nat.or_zero] at R5
   dsimp only at R5
   rw [show (0 : Int).toNat = 0 from rfl,own] at R5
   exact k.fin R5 V0 ((Keep.of_same R S4).trans K5) rfl rfl
  ·rcases worth3 hx hn with ⟨ix,wx,ex⟩ | ⟨ix,wx,px⟩
   ·rw [wx] at k
    have e1 : nearE st.way (st.regs.getD 0 0) = (st.regs.getD 0 0,0) := by unfold nearE; rw [wx]
    rw [e1,keep_plain (small_inf ix),Nat.or_zero] at R5
    dsimp only at R5
    rw [show (0 : Int).toNat = 0 from rfl,own] at R5
    exact k.fin R5 V0 ((Keep.of_same R S4).trans K5) rfl rfl
   ·rw [wx] at k
    dsimp only at k
    have e1 : nearE st.way (st.regs.getD 0 0) = (Rd20.exact (.fin (Rd20.signOf (st.regs.getD 0 0)) (Rd20.units st.way (Rd20.signOf (st.regs.getD 0 0)) (Rd20.sizeOf (st.regs.getD 0 0)) (powE (st.regs.getD 0 0)) 0).1 0),if (Rd20.units st.way (Rd20.signOf (st.regs.getD 0 0)) (Rd20.sizeOf (st.regs.getD 0 0)) (powE (st.regs.getD 0 0)) 0).2 = true then 32 else 0) := by unfold nearE; rw [wx]
    rw [e1] at R5
    dsimp only at R5
    have hX := exact80 (.fin (Rd20.signOf (st.regs.getD 0 0)) (Rd20.units st.way (Rd20.signOf (st.regs.getD 0 0)) (Rd20.sizeOf (st.regs.getD 0 0)) (powE (st.regs.getD 0 0)) 0).1 0)
    refine k.fin R5 (V0.settle _ hX.1) ((Keep.of_same R S4).trans K5) ?_ rfl
    rw [abs_settle hX.2,← flagsOf_keep (all1 hx) (by rw [any1]; exact decide_eq_false hn)]
    rfl
theorem ok_call_scale (F : Src K mg "call_scale" s_call_scale ["ring","given"]) (T : CG K C) (f_are_taken : Fn P w K mg base "are_taken" 2 ["ring","i"] (spAre C)) (f_settle : Fn P w K mg base "settle" 5 ["ring","taken","to","result"] (spSettle C CS)) (c_IS_EMPTY : Con1 mg "IS_EMPTY" (.int (-4))) (c_DONE : Con1 mg "DONE" (.int 0)) (f_scale_result : Fn P w K mg base "scale_result" 9 ["x","y","way"] (spScale CS)) : Fn P w K mg base "call_scale" 10 ["ring","given"] (spCall C fun zs q => q = .scale) := by
 have cl_Ring := T.cl
 refine F.fn sc_call_scale (fun vs H Q E h => ?_) (fun f cdv A outer s H vs Q E hr h => ?_)
 ·obtain ⟨r,g,l,s,zs,q,rfl,_⟩ := h
  rfl
 ·obtain ⟨r,g,l,st,zs,q,rfl,R,V0,hg,hgl,rfl,k⟩ := h
  obtain ⟨dx,hr'⟩ := R.ob
  refine ⟨_,(pss_cons (ps_if (pt_not (pt_val (pf f_are_taken hr (pa_cons (pv 0) (pa_cons pe_int pa_nil))))) (pss_one (ps_ret (pe_lst (pa_cons (pe_c1 c_IS_EMPTY rfl) pa_nil)))) pss_nil)
    (pss_cons (ps_set (i := 2) sc_call_scale.nd rfl (Or.inl rfl) (pe_ix ix_list (pe_fld (pv 0) rfl) pe_int (fun _ _ => rfl)))
    (pss_cons (ps_set (i := 3) sc_call_scale.nd rfl (Or.inl rfl) (pe_ix ix_list (pe_fld (pv 0) rfl) pe_int (fun _ _ => rfl)))
    (pss_cons (ps_expr (pf f_settle hr (pa_cons (pv 0) (pa_cons (pe_lst (pa_cons (pv 2) (pa_cons (pv 3) pa_nil))) (pa_cons pe_int (pa_cons (pf f_scale_result hr (pa_cons (pv 2) (pa_cons (pv 3) (pa_cons (pe_fld (pv 0) rfl) pa_nil)))) pa_nil))))))
    (pss_one (ps_ret (pe_lst (pa_cons (pe_c1 c_DONE rfl) pa_nil)))))))),?_⟩
  rw [does_scale] at k
  unfold Rd20.of2 at k
  rw [show Rd20.reg (absE st) 1 = optE (st.regs.getD 1 0) from reg_abs V0.n8 (by decide) (by decide),show Rd20.reg (absE st) 0 = optE (st.regs.getD 0 0) from reg_abs V0.n8 (by decide) (by decide)] at k
  refine ⟨_,rfl,r,l,st,1,rfl,R,by decide,by decide,_,rfl,?_⟩
  rw [show (1 : Int).toNat = 1 from rfl]
  by_cases h2 : st.regs.getD 0 0 = EMn
  ·rw [optE_none h2] at k
   exact br_t (by rw [decide_eq_true h2]; rfl) ⟨by show 1 ≤ 16777216; decide,k.fin R V0 (Keep.refl R) rfl rfl⟩
  by_cases h3 : st.regs.getD 1 0 = EMn
  ·rw [optE_some h2,optE_none h3] at k
   exact br_t (by rw [decide_eq_false h2,decide_eq_true h3]; rfl) ⟨by show 1 ≤ 16777216; decide,k.fin R V0 (Keep.refl R) rfl rfl⟩
  refine br_f (by rw [decide_eq_false h2,decide_eq_false h3]; rfl) ?_
  rw [optE_some h2,optE_some h3] at k
  dsimp only at k
  have hx := V0.at_ (i := 0) (by decide) h2
  have hy := V0.at_ (i := 1) (by decide) h3
  refine ⟨_,rfl,r,C,dx,_,_,rfl,hr',T.cl,T.nR,fG_r _ _ _ _,l,_,0,_,rfl,rfl,SqL.of R.ls,len8 R.n8 (by decide) (by decide),?_⟩
  refine ⟨_,rfl,r,C,dx,_,_,rfl,hr',T.cl,T.nR,fG_r _ _ _ _,l,_,1,_,rfl,rfl,SqL.of R.ls,len8 R.n8 (by decide) (by decide),?_⟩
  refine ⟨_,rfl,_,rfl,_,rfl,(by show 2 ≤ 16777216; decide),fun p2 n2 => ?_⟩
  have S2 : Same H (upd H p2 (.lst (vNs [st.regs.getD 0 0,st.regs.getD 1 0]))) := same_new n2
  have hp2 : upd H p2 (.lst (vNs [st.regs.getD 0 0,st.regs.getD 1 0])) p2 = some (.lst (vNs [st.regs.getD 0 0,st.regs.getD 1 0])) := upd_same
  have hp2l : p2 ≠ l := Ne.symm (ne_of_none R.ls n2)
  have R2 := R.same S2
  obtain ⟨d2,hr2⟩ := R2.ob
  refine ⟨_,rfl,_,rfl,_,rfl,r,C,d2,_,_,rfl,hr2,T.cl,T.nW,fG_w _ _ _ _,st.regs.getD 0 0,st.regs.getD 1 0,st.way,rfl,hx,hy,fun p4 H4 s4 n4 o4 => ?_⟩
  have R4 := R2.same s4
  have S4 := S2.trans s4
  have hX : Num80 (scaleE st.way (st.regs.getD 0 0) (st.regs.getD 1 0)).1 := by
   unfold scaleE
   split
   ·exact num_NONE
   ·exact num_res _ (by decide) (by decide)
  refine ⟨r,l,st,p2,[st.regs.getD 0 0,st.regs.getD 1 0],0,p4,_,rfl,R4,s4 _ _ hp2,hp2l,all2 hx hy,(by show 2 ≤ 1000; decide),by decide,by decide,o4,fun H5 R5 K5 => ?_⟩
  refine ⟨by show 1 ≤ 16777216; decide,k.fin R5 (V0.settle _ hX) ((Keep.of_same R S4).trans K5) ?_ rfl⟩
  refine comes_settle (all2 hx hy) ?_ hX.ne
  rw [any2]
  unfold scaleE
  by_cases hn : st.regs.getD 0 0 = NONEn ∨ st.regs.getD 1 0 = NONEn
  ·rw [decide_eq_true hn,if_pos hn,if_pos rfl]
  ·rw [decide_eq_false hn,if_neg hn,if_neg Bool.false_ne_true]
theorem ok_call_split (F : Src K mg "call_split" s_call_split ["ring","given"]) (T : CG K C) (m_Ring_is_empty : Mtd P w K mg base C "is_empty" 1 ["self","i"] (spIsEmpty C)) (f_settle : Fn P w K mg base "settle" 5 ["ring","taken","to","result"] (spSettle C CS)) (c_IS_EMPTY : Con1 mg "IS_EMPTY" (.int (-4))) (c_DONE : Con1 mg "DONE" (.int 0)) (c_IS_FULL : Con1 mg "IS_FULL" (.int (-5))) (m_Ring_is_full : Mtd P w K mg base C "is_full" 1 ["self"] (spIsFull C)) (m_Ring_push : Mtd P w K mg base C "push" 1 ["self","number"] (spPush C)) (f_exponent_result : Fn P w K mg base "exponent_result" 7 ["x"] (spExpR CS)) (f_without_exponent : Fn P w K mg base "without_exponent" 6 ["x"] spWExp) : Fn P w K mg base "call_split" 8 ["ring","given"] (spCall C fun zs q => q = .split) := by
 have cl_Ring := T.cl
 refine F.fn sc_call_split (fun vs H Q E h => ?_) (fun f cdv A outer s H vs Q E hr h => ?_)
 ·obtain ⟨r,g,l,s,zs,q,rfl,_⟩ := h
  rfl
 ·obtain ⟨r,g,l,st,zs,q,rfl,R,V0,hg,hgl,rfl,k⟩ := h
  obtain ⟨dx,hr'⟩ := R.ob
  refine ⟨_,(pss_cons (ps_if (pt_val (pe_mt (pv 0) cl_Ring m_Ring_is_empty (hr.mono (by decide)) (pa_cons pe_int pa_nil))) (pss_one (ps_ret (pe_lst (pa_cons (pe_c1 c_IS_EMPTY rfl) pa_nil)))) pss_nil)
    (pss_cons (ps_if (pt_val (pe_mt0 (pv 0) cl_Ring m_Ring_is_full (hr.mono (by decide)))) (pss_one (ps_ret (pe_lst (pa_cons (pe_c1 c_IS_FULL rfl) pa_nil)))) pss_nil)
    (pss_cons (ps_set (i := 2) sc_call_split.nd rfl (Or.inl rfl) (pe_ix ix_list (pe_fld (pv 0) rfl) pe_int (fun _ _ => rfl)))
    (pss_cons (ps_expr (pf f_settle hr (pa_cons (pv 0) (pa_cons (pe_lst (pa_cons (pv 2) pa_nil)) (pa_cons pe_int (pa_cons (pf f_exponent_result hr (pa_cons (pv 2) pa_nil)) pa_nil))))))
    (pss_cons (ps_expr (pe_mt (pv 0) cl_Ring m_Ring_push (hr.mono (by decide)) (pa_cons (pf f_without_exponent hr (pa_cons (pv 2) pa_nil)) pa_nil)))
    (pss_one (ps_ret (pe_lst (pa_cons (pe_c1 c_DONE rfl) pa_nil))))))))),?_⟩
  rw [does_split] at k
  unfold Rd20.of1 Rd20.full at k
  rw [show Rd20.reg (absE st) 7 = optE (st.regs.getD 7 0) from reg_abs V0.n8 (by decide) (by decide)] at k
  rw [show Rd20.reg (absE st) 0 = optE (st.regs.getD 0 0) from reg_abs V0.n8 (by decide) (by decide)] at k
  refine ⟨_,rfl,r,dx,_,rfl,hr',rfl,r,l,st,0,rfl,R,by decide,by decide,_,rfl,?_⟩
  by_cases h2 : st.regs.getD 0 0 = EMn
  ·rw [optE_none h2] at k
   exact br_t (decide_eq_true h2) ⟨by show 1 ≤ 16777216; decide,k.fin R V0 (Keep.refl R) rfl rfl⟩
  refine br_f (decide_eq_false h2) ?_
  rw [optE_some h2] at k
  dsimp only at k
  have hx := V0.at_ (i := 0) (by decide) h2
  refine ⟨_,rfl,r,dx,_,rfl,hr',rfl,r,l,st,rfl,R,_,rfl,?_⟩
  by_cases h7 : st.regs.getD 7 0 = EMn
  case neg =>
   rw [optE_some h7,Option.isSome_some,if_pos rfl] at k
   exact br_t (by rw [decide_eq_false h7]; rfl) ⟨by show 1 ≤ 16777216; decide,k.fin R V0 (Keep.refl R) rfl rfl⟩
  refine br_f (by rw [decide_eq_true h7]; rfl) ?_
  rw [optE_none h7,Option.isSome_none,if_neg Bool.false_ne_true] at k
  refine ⟨_,rfl,r,C,dx,_,_,rfl,hr',T.cl,T.nR,fG_r _ _ _ _,l,_,0,_,rfl,rfl,SqL.of R.ls,len8 R.n8 (by decide) (by decide),?_⟩
  refine ⟨_,rfl,_,rfl,(by show 1 ≤ 16777216; decide),fun p2 n2 => ?_⟩
  have S2 : Same H (upd H p2 (.lst (vNs [st.regs.getD 0 0]))) := same_new n2
  have hp2 : upd H p2 (.lst (vNs [st.regs.getD 0 0])) p2 = some (.lst (vNs [st.regs.getD 0 0])) := upd_same
  have hp2l : p2 ≠ l := Ne.symm (ne_of_none R.ls n2)
  have R2 := R.same S2
  refine ⟨_,rfl,st.regs.getD 0 0,rfl,hx,fun p4 H4 s4 n4 o4 => ?_⟩
  have R4 := R2.same s4
  have S4 := S2.trans s4
  refine ⟨r,l,st,p2,[st.regs.getD 0 0],0,p4,_,rfl,R4,s4 _ _ hp2,hp2l,all1 hx,(by show 1 ≤ 1000; decide),by decide,by decide,o4,fun H5 R5 K5 => ?_⟩
  obtain ⟨d5,hr5⟩ := R5.ob
  have K05 := (Keep.of_same R S4).trans K5
  refine ⟨_,rfl,r,d5,_,rfl,hr5,rfl,_,rfl,st.regs.getD 0 0,rfl,hx,fun H6 S6 => ?_⟩
  have R6 := R5.same S6
  have K06 := K05.trans (Keep.of_same R5 S6)
  refine ⟨r,l,_,_,rfl,R6,fun H7 l7 R7 K7 => ?_⟩
  refine ⟨by show 1 ≤ 16777216; decide,?_⟩
  have K07 := K06.trans K7
  have fin : ∀ (X F W : Nat) (res : Rd20.Abs × Rd20.Ans),Num80 X → Num80 W → expE (st.regs.getD 0 0) = (X,F) → wexpE (st.regs.getD 0 0) = W → Rd20.flag (Rd20.push (Rd20.set_ (absE st) 0 X) W) (keepE [st.regs.getD 0 0] F) = res.1 → res.2 = Rd20.just 0 → Done C H r l res Q → ∀ p,H7 p = none → Q (.ref p) (upd H7 p (.lst [.int 0])) := fun X F W res hX hW e1 e2 e3 e4 k1 => by
   rw [e1,e2] at R7
   dsimp only at R7
   refine k1.fin R7 ((V0.settle _ hX).push hW hW.ne) K07 ?_ (by rw [e4]; rfl)
   refine (abs_push (s := { st with flags := st.flags ||| keepE [st.regs.getD 0 0] F,regs := st.regs.set (0 : Int).toNat X }) hW.ne).trans ?_
   rw [abs_settle hX.ne]
   exact e3
  by_cases hn : st.regs.getD 0 0 = NONEn
  ·have ew := (worth_nan hx).mpr hn
   rw [ew] at k
   refine fin NONEn 0 NONEn _ num_NONE num_NONE (by unfold expE; rw [ew]) (by unfold wexpE; rw [ew]; exact hn) ?_ rfl k
   rw [keep_nan (by rw [any1]; exact decide_eq_true hn),flag0,← abs_set num_NONE.ne]
   have own := set_own V0 hn
   rw [show (0 : Int).toNat = 0 from rfl,own]
   show Rd20.push (absE st) NONEn = Rd20.push (absE st) Rd20.NONE
   rw [NONE_eq]
  ·rcases worth3 hx hn with ⟨ix,wx,ex⟩ | ⟨ix,wx,px⟩
   ·rw [wx] at k
    have eI : INFn = Rd20.INF false := by decide +kernel
    refine fin INFn 0 (st.regs.getD 0 0) _ (by rw [eI]; exact (num80_inf false).1) hx (by unfold expE; rw [wx]) (by unfold wexpE; rw [wx]) ?_ rfl k
    rw [keep_plain (small_inf ix),flag0,eI]
   ·rw [wx] at k
    dsimp only at k
    by_cases h0 : Rd20.sizeOf (st.regs.getD 0 0) = 0
    ·rw [if_pos h0] at k
     refine fin (Rd20.INF true) 4 (st.regs.getD 0 0) _ (num80_inf true).1 hx (by unfold expE; rw [wx]; dsimp only; rw [if_pos h0]) (by unfold wexpE; rw [wx]; dsimp only; rw [if_pos h0]) ?_ rfl k
     rw [keep_plain (small_zero h0)]
    ·rw [if_neg h0] at k
     refine fin _ 0 _ _ (exact80 _).1 (exact80 _).1 (by unfold expE; rw [wx]; dsimp only; rw [if_neg h0]) (by unfold wexpE; rw [wx]; dsimp only; rw [if_neg h0]) ?_ rfl k
     rw [← flagsOf_keep (all1 hx) (by rw [any1]; exact decide_eq_false hn)]
theorem ok_call_rest (F : Src K mg "call_rest" s_call_rest ["ring","given"]) (T : CG K C) (TT : CT1 K CT) (f_are_taken : Fn P w K mg base "are_taken" 2 ["ring","i"] (spAre C)) (f_settle : Fn P w K mg base "settle" 5 ["ring","taken","to","result"] (spSettle C CS)) (f_is_within : Fn P w K mg base "is_within" 1 ["n","low","high"] spWithin) (c_IS_EMPTY : Con1 mg "IS_EMPTY" (.int (-4))) (c_BAD_ARGUMENT : Con1 mg "BAD_ARGUMENT" (.int (-2))) (f_rest_result : Fn P w K mg base "rest_result" 6 ["kind","x","y"] (spRestR CS CT)) : Fn P w K mg base "call_rest" 7 ["ring","given"] (spCall C (c1 .rest)) := by
 have cl_Ring := T.cl
 refine F.fn sc_call_rest (fun vs H Q E h => ?_) (fun f cdv A outer s H vs Q E hr h => ?_)
 ·obtain ⟨r,g,l,s,zs,q,rfl,_⟩ := h
  rfl
 ·obtain ⟨r,g,l,st,zs,q,rfl,R,V0,hg,hgl,hq,k⟩ := h
  obtain ⟨dx,hr'⟩ := R.ob
  obtain ⟨a,rfl,rfl⟩ := hq
  refine ⟨_,(pss_cons (ps_set (i := 2) sc_call_rest.nd rfl (Or.inl rfl) (pe_ix ix_list (pv 1) pe_int (fun _ _ => rfl)))
    (pss_cons (ps_if (pt_not (pt_val (pf f_is_within hr (pa_cons (pv 2) (pa_cons pe_int (pa_cons pe_int pa_nil)))))) (pss_one (ps_ret (pe_lst (pa_cons (pe_c1 c_BAD_ARGUMENT rfl) pa_nil)))) pss_nil)
    (pss_cons (ps_if (pt_not (pt_val (pf f_are_taken hr (pa_cons (pv 0) (pa_cons pe_int pa_nil))))) (pss_one (ps_ret (pe_lst (pa_cons (pe_c1 c_IS_EMPTY rfl) pa_nil)))) pss_nil)
    (pss_cons (ps_set (i := 3) sc_call_rest.nd rfl (Or.inl rfl) (pe_ix ix_list (pe_fld (pv 0) rfl) pe_int (fun _ _ => rfl)))
    (pss_cons (ps_set (i := 4) sc_call_rest.nd rfl (Or.inl rfl) (pe_ix ix_list (pe_fld (pv 0) rfl) pe_int (fun _ _ => rfl)))
    (pss_cons (ps_set (i := 5) sc_call_rest.nd rfl (Or.inl rfl) (pf f_rest_result hr (pa_cons (pv 2) (pa_cons (pv 3) (pa_cons (pv 4) pa_nil)))))
    (pss_cons (ps_expr (pf f_settle hr (pa_cons (pv 0) (pa_cons (pe_lst (pa_cons (pv 3) (pa_cons (pv 4) pa_nil))) (pa_cons pe_int (pa_cons (pe_fld (pv 5) rfl) pa_nil))))))
    (pss_one (ps_ret (pe_lst (pa_cons (pe_fld (pv 5) rfl) pa_nil))))))))))),?_⟩
  rw [does_rest] at k
  refine ⟨_,rfl,g,_,0,_,rfl,rfl,SqL.of hg,atI_nat (j := 0) rfl,?_⟩
  refine ⟨_,rfl,a,0,1,rfl,_,rfl,?_⟩
  cases hw : Rd20.within a 0 1 with
  | false =>
   rw [if_pos hw] at k
   exact br_t rfl ⟨by show 1 ≤ 16777216; decide,k.fin R V0 (Keep.refl R) rfl rfl⟩
  | true =>
   rw [if_neg (by rw [hw]; exact fun z => nomatch z)] at k
   have w1 := within_iff.mp hw
   obtain ⟨kd,rfl⟩ : ∃ kd : Nat,a = (kd : Int) := ⟨a.toNat,by omega⟩
   have hkd : kd ≤ 1 := by omega
   rw [Int.toNat_natCast] at k
   refine br_f rfl ?_
   unfold Rd20.of2 at k
   rw [show Rd20.reg (absE st) 1 = optE (st.regs.getD 1 0) from reg_abs V0.n8 (by decide) (by decide),show Rd20.reg (absE st) 0 = optE (st.regs.getD 0 0) from reg_abs V0.n8 (by decide) (by decide)] at k
   refine ⟨_,rfl,r,l,st,1,rfl,R,by decide,by decide,_,rfl,?_⟩
   rw [show (1 : Int).toNat = 1 from rfl]
   by_cases h2 : st.regs.getD 0 0 = EMn
   ·rw [optE_none h2] at k
    exact br_t (by rw [decide_eq_true h2]; rfl) ⟨by show 1 ≤ 16777216; decide,k.fin R V0 (Keep.refl R) rfl rfl⟩
   by_cases h3 : st.regs.getD 1 0 = EMn
   ·rw [optE_some h2,optE_none h3] at k
    exact br_t (by rw [decide_eq_false h2,decide_eq_true h3]; rfl) ⟨by show 1 ≤ 16777216; decide,k.fin R V0 (Keep.refl R) rfl rfl⟩
   refine br_f (by rw [decide_eq_false h2,decide_eq_false h3]; rfl) ?_
   rw [optE_some h2,optE_some h3] at k
   dsimp only at k
   have hx := V0.at_ (i := 0) (by decide) h2
   have hy := V0.at_ (i := 1) (by decide) h3
   refine ⟨_,rfl,r,C,dx,_,_,rfl,hr',T.cl,T.nR,fG_r _ _ _ _,l,_,0,_,rfl,rfl,SqL.of R.ls,len8 R.n8 (by decide) (by decide),?_⟩
   refine ⟨_,rfl,r,C,dx,_,_,rfl,hr',T.cl,T.nR,fG_r _ _ _ _,l,_,1,_,rfl,rfl,SqL.of R.ls,len8 R.n8 (by decide) (by decide),?_⟩
   refine ⟨_,rfl,_,rfl,_,rfl,kd,st.regs.getD 0 0,st.regs.getD 1 0,rfl,hkd,hx,hy,fun t p1 H1 s1 o1 ot => ?_⟩
   obtain ⟨dt,ht⟩ := ot
   have R1 := R.same s1
   refine ⟨_,rfl,_,rfl,_,rfl,(by show 2 ≤ 16777216; decide),fun p2 n2 => ?_⟩
   have S2 : Same H1 (upd H1 p2 (.lst (vNs [st.regs.getD 0 0,st.regs.getD 1 0]))) := same_new n2
   have hp2 : upd H1 p2 (.lst (vNs [st.regs.getD 0 0,st.regs.getD 1 0])) p2 = some (.lst (vNs [st.regs.getD 0 0,st.regs.getD 1 0])) := upd_same
   have hp2l : p2 ≠ l := Ne.symm (ne_of_none R1.ls n2)
   have R2 := R1.same S2
   have S02 := s1.trans S2
   have ht2 := S2 _ _ ht
   refine ⟨_,rfl,t,CT,dt,_,_,rfl,ht2,TT.cl,TT.nR,fT_r _ _,?_⟩
   refine ⟨r,l,st,p2,[st.regs.getD 0 0,st.regs.getD 1 0],0,p1,_,rfl,R2,hp2,hp2l,all2 hx hy,(by show 2 ≤ 1000; decide),by decide,by decide,o1.same S2,fun H5 R5 K5 => ?_⟩
   have ht5 : H5 t = some (.ins CT dt (fT (.ref p1) (vN (restE kd (st.regs.getD 0 0) (st.regs.getD 1 0)).2))) := by
    refine K5.keep t _ ht2 (fun z => ?_) (fun z => ?_)
    ·obtain ⟨d2,hr2⟩ := R2.ob
     rw [z,hr2] at ht2; cases ht2
    ·rw [z,R2.ls] at ht2; cases ht2
   refine ⟨_,rfl,t,CT,dt,_,_,rfl,ht5,TT.cl,TT.nL,fT_l _ _,by show 1 ≤ 16777216; decide,?_⟩
   have K05 := (Keep.of_same R S02).trans K5
   have own := set_own V0 rfl
   have fin : ∀ (X F lo : Nat) (res : Rd20.Abs × Rd20.Ans),Num80 X → restE kd (st.regs.getD 0 0) (st.regs.getD 1 0) = ((X,F),lo) → Rd20.flag (Rd20.set_ (absE st) 0 X) (keepE [st.regs.getD 0 0,st.regs.getD 1 0] F) = res.1 → res.2 = Rd20.just (lo : Int) → Done C H r l res Q → ∀ p,H5 p = none → Q (.ref p) (upd H5 p (.lst [vN (restE kd (st.regs.getD 0 0) (st.regs.getD 1 0)).2])) := fun X F lo res hX e1 e3 e4 k1 => by
    rw [e1] at R5 ⊢
    dsimp only at R5 ⊢
    refine k1.fin R5 (V0.settle _ hX) K05 ?_ (by rw [e4]; rfl)
    rw [abs_settle hX.ne]
    exact e3
   have own2 : ∀ x,st.regs.getD 0 0 = x → Num80 x → Rd20.set_ (absE st) 0 x = absE st := fun x e h80 => by
    rw [← abs_set h80.ne]
    have := set_own V0 e
    rw [show (0 : Int).toNat = 0 from rfl,this]
   by_cases hn : st.regs.getD 0 0 = NONEn
   ·have ew := (worth_nan hx).mpr hn
    rw [ew] at k
    refine fin NONEn 0 0 _ num_NONE (by unfold restE; rw [if_pos (.inl hn)]) ?_ rfl k
    rw [keep_nan (by rw [any2]; exact decide_eq_true (.inl hn)),flag0]
    exact own2 _ hn num_NONE
   by_cases hm : st.regs.getD 1 0 = NONEn
   ·have ew := (worth_nan hy).mpr hm
    have er : restE kd (st.regs.getD 0 0) (st.regs.getD 1 0) = ((NONEn,0),0) := by unfold restE; rw [if_pos (.inr hm)]
    have e3 : Rd20.flag (Rd20.set_ (absE st) 0 NONEn) (keepE [st.regs.getD 0 0,st.regs.getD 1 0] 0) = Rd20.set_ (absE st) 0 Rd20.NONE := by
     rw [keep_nan (by rw [any2]; exact decide_eq_true (.inr hm)),flag0,NONE_eq]
    rcases worth3 hx hn with ⟨ix,wx,ex⟩ | ⟨ix,wx,px⟩
    ·rw [wx,ew] at k
     exact fin NONEn 0 0 _ num_NONE er e3 rfl k
    ·rw [wx,ew] at k
     exact fin NONEn 0 0 _ num_NONE er e3 rfl k
   have hno : ¬ (st.regs.getD 0 0 = NONEn ∨ st.regs.getD 1 0 = NONEn) := fun z => z.elim hn hm
   have e31 : Rd20.flag (Rd20.set_ (absE st) 0 NONEn) (keepE [st.regs.getD 0 0,st.regs.getD 1 0] 1) = Rd20.flag (Rd20.set_ (absE st) 0 Rd20.NONE) 1 := by
    rw [keep_odd (by decide),NONE_eq]
   have ek : keepE [st.regs.getD 0 0,st.regs.getD 1 0] 0 = Rd20.flagsOf [st.regs.getD 0 0,st.regs.getD 1 0] 0 := (flagsOf_keep (all2 hx hy) (by rw [any2]; exact decide_eq_false hno)).symm
   rcases worth3 hx hn with ⟨ix,wx,ex⟩ | ⟨ix,wx,px⟩
   ·have er : restE kd (st.regs.getD 0 0) (st.regs.getD 1 0) = ((NONEn,1),0) := by unfold restE; rw [if_neg hno,wx]
    rcases worth3 hy hm with ⟨iy,wy,ey⟩ | ⟨iy,wy,py⟩
    ·rw [wx,wy] at k
     exact fin NONEn 1 0 _ num_NONE er e31 rfl k
    ·rw [wx,wy] at k
     exact fin NONEn 1 0 _ num_NONE er e31 rfl k
   ·rcases worth3 hy hm with ⟨iy,wy,ey⟩ | ⟨iy,wy,py⟩
    ·rw [wx,wy] at k
     refine fin (st.regs.getD 0 0) 0 0 _ hx (by unfold restE; rw [if_neg hno,wx,wy]) ?_ rfl k
     rw [own2 _ rfl hx,ek]
    ·rw [wx,wy] at k
     dsimp only at k
     by_cases h0 : Rd20.sizeOf (st.regs.getD 1 0) = 0
     ·rw [if_pos h0] at k
      exact fin NONEn 1 0 _ num_NONE (by unfold restE; rw [if_neg hno,wx,wy]; dsimp only; rw [if_pos h0]) e31 rfl k
     ·rw [if_neg h0] at k
      refine fin _ 0 _ _ (exact80 _).1 (by unfold restE; rw [if_neg hno,wx,wy]; dsimp only; rw [if_neg h0]) ?_ rfl k
      rw [ek]
theorem ok_call_do (F : Src K mg "call_do" s_call_do ["ring","given"]) (T : CG K C) (f_are_taken : Fn P w K mg base "are_taken" 2 ["ring","i"] (spAre C)) (f_settle : Fn P w K mg base "settle" 5 ["ring","taken","to","result"] (spSettle C CS)) (f_is_within : Fn P w K mg base "is_within" 1 ["n","low","high"] spWithin) (f_number_form : Fn P w K mg base "number_form" 3 ["length"] (spNForm CF)) (f_is_place : Fn P w K mg base "is_place" 2 ["i"] spPlace) (c_IS_EMPTY : Con1 mg "IS_EMPTY" (.int (-4))) (c_BAD_ARGUMENT : Con1 mg "BAD_ARGUMENT" (.int (-2))) (c_DONE : Con1 mg "DONE" (.int 0)) (f_do_result : Fn P w K mg base "do_result" 10 ["op","x","y","form","way"] (spDo CF CS)) : Fn P w K mg base "call_do" 11 ["ring","given"] (spCall C cDo) := by
 have cl_Ring := T.cl
 refine F.fn sc_call_do (fun vs H Q E h => ?_) (fun f cdv A outer s H vs Q E hr h => ?_)
 ·obtain ⟨r,g,l,s,zs,q,rfl,_⟩ := h
  rfl
 ·obtain ⟨r,g,l,st,zs,q,rfl,R,V0,hg,hgl,hq,k⟩ := h
  obtain ⟨dx,hr'⟩ := R.ob
  obtain ⟨o,i,to,rfl,rfl⟩ := hq
  refine ⟨_,(pss_cons (ps_set (i := 2) sc_call_do.nd rfl (Or.inl rfl) (pe_ix ix_list (pv 1) pe_int (fun _ _ => rfl)))
    (pss_cons (ps_set (i := 3) sc_call_do.nd rfl (Or.inl rfl) (pe_ix ix_list (pv 1) pe_int (fun _ _ => rfl)))
    (pss_cons (ps_set (i := 4) sc_call_do.nd rfl (Or.inl rfl) (pe_ix ix_list (pv 1) pe_int (fun _ _ => rfl)))
    (pss_cons (ps_if (PW.pt (pw_or (pt_not (pt_val (pf f_is_within hr (pa_cons (pv 2) (pa_cons pe_int (pa_cons pe_int pa_nil)))))) (pw_or (pt_not (pt_val (pf f_is_place hr (pa_cons (pv 3) pa_nil)))) (pw_or1 (pt_cmpR op_notIn_seq (pv 4) (pe_tup (pa_cons pe_int (pa_cons (pv 3) pa_nil))) (by with_unfolding_all rfl)))))) (pss_one (ps_ret (pe_lst (pa_cons (pe_c1 c_BAD_ARGUMENT rfl) pa_nil)))) pss_nil)
    (pss_cons (ps_if (pt_not (pt_val (pf f_are_taken hr (pa_cons (pv 0) (pa_cons (pv 3) pa_nil))))) (pss_one (ps_ret (pe_lst (pa_cons (pe_c1 c_IS_EMPTY rfl) pa_nil)))) pss_nil)
    (pss_cons (ps_set (i := 5) sc_call_do.nd rfl (Or.inl rfl) (pe_ix ix_list (pe_fld (pv 0) rfl) pe_int (fun _ _ => rfl)))
    (pss_cons (ps_set (i := 6) sc_call_do.nd rfl (Or.inl rfl) (pe_ix ix_list (pe_fld (pv 0) rfl) (pv 3) (fun _ _ => rfl)))
    (pss_cons (ps_expr (pf f_settle hr (pa_cons (pv 0) (pa_cons (pe_lst (pa_cons (pv 5) (pa_cons (pv 6) pa_nil))) (pa_cons (pv 4) (pa_cons (pf f_do_result hr (pa_cons (pv 2) (pa_cons (pv 5) (pa_cons (pv 6) (pa_cons (pf f_number_form hr (pa_cons (pe_fld (pv 0) rfl) pa_nil)) (pa_cons (pe_fld (pv 0) rfl) pa_nil)))))) pa_nil))))))
    (pss_one (ps_ret (pe_lst (pa_cons (pe_c1 c_DONE rfl) pa_nil)))))))))))),?_⟩
  rw [does_op] at k
  refine ⟨_,rfl,g,_,0,_,rfl,rfl,SqL.of hg,atI_nat (j := 0) rfl,?_⟩
  refine ⟨_,rfl,g,_,1,_,rfl,rfl,SqL.of hg,atI_nat (j := 1) rfl,?_⟩
  refine ⟨_,rfl,g,_,2,_,rfl,rfl,SqL.of hg,atI_nat (j := 2) rfl,?_⟩
  refine ⟨_,rfl,o,0,5,rfl,_,rfl,?_⟩
  cases hw : Rd20.within o 0 5 with
  | false =>
   rw [hw,Bool.false_and,if_pos rfl] at k
   exact br_t rfl (br_t rfl ⟨by show 1 ≤ 16777216; decide,k.fin R V0 (Keep.refl R) rfl rfl⟩)
  | true =>
  rw [hw,Bool.true_and] at k
  refine br_f rfl ⟨_,rfl,i,rfl,_,rfl,?_⟩
  cases hi : Rd20.within i 0 7 with
  | false =>
   rw [hi,Bool.false_and,if_pos rfl] at k
   exact br_t rfl (br_t rfl ⟨by show 1 ≤ 16777216; decide,k.fin R V0 (Keep.refl R) rfl rfl⟩)
  | true =>
  rw [hi,Bool.true_and] at k
  refine br_f rfl ⟨_,rfl,_,rfl,(by show 2 ≤ 16777216; decide),fun t nt => ?_⟩
  have S1 : Same H (upd H t (.tup [.int 0,.int i])) := same_new nt
  have R1 := R.same S1
  have K1 := Keep.of_same R S1
  obtain ⟨d1,hr1⟩ := R1.ob
  refine ⟨t,_,rfl,.inr (SqT.of upd_same),rfl,rfl,_,rfl,?_⟩
  have ein : inV (V.int to) [V.int 0,V.int i] = (to == 0 || to == i) := by
   show ((0 : Int) == to || (i == to || false)) = _
   rw [Bool.or_false]
   have e1 : ((0 : Int) == to) = (to == 0) := by rw [Bool.eq_iff_iff,beq_iff_eq,beq_iff_eq]; exact eq_comm
   have e2 : (i == to) = (to == i) := by rw [Bool.eq_iff_iff,beq_iff_eq,beq_iff_eq]; exact eq_comm
   rw [e1,e2]
  cases hin : (to == 0 || to == i) with
  | false =>
   rw [hin,if_pos rfl] at k
   refine br_t (by rw [if_pos rfl,ein,hin]; rfl) ?_
   exact ⟨by show 1 ≤ 16777216; decide,k.fin R1 V0 K1 rfl rfl⟩
  | true =>
  rw [hin,if_neg (fun z => nomatch z)] at k
  refine br_f (by rw [if_pos rfl,ein,hin]; rfl) ?_
  have w1 := within_iff.mp hw
  have w2 := within_iff.mp hi
  have hto : 0 ≤ to ∧ to ≤ 7 := by
   rw [Bool.or_eq_true,beq_iff_eq,beq_iff_eq] at hin
   omega
  obtain ⟨op,rfl⟩ : ∃ op : Nat,o = (op : Int) := ⟨o.toNat,by omega⟩
  have hop : op ≤ 5 := by omega
  rw [Int.toNat_natCast] at k
  unfold Rd20.of2 at k
  rw [reg_abs V0.n8 w2.1 w2.2,show Rd20.reg (absE st) 0 = optE (st.regs.getD 0 0) from reg_abs V0.n8 (by decide) (by decide)] at k
  refine ⟨_,rfl,_,rfl,r,l,st,i,rfl,R1,w2.1,w2.2,_,rfl,?_⟩
  by_cases h2 : st.regs.getD 0 0 = EMn
  ·rw [optE_none h2] at k
   exact br_t (by rw [decide_eq_true h2]; rfl) ⟨by show 1 ≤ 16777216; decide,k.fin R1 V0 K1 rfl rfl⟩
  by_cases h3 : st.regs.getD i.toNat 0 = EMn
  ·rw [optE_some h2,optE_none h3] at k
   exact br_t (by rw [decide_eq_false h2,decide_eq_true h3]; rfl) ⟨by show 1 ≤ 16777216; decide,k.fin R1 V0 K1 rfl rfl⟩
  refine br_f (by rw [decide_eq_false h2,decide_eq_false h3]; rfl) ?_
  rw [optE_some h2,optE_some h3] at k
  have hx := V0.at_ (i := 0) (by decide) h2
  have hy := V0.at_ (i := i.toNat) (by omega) h3
  refine ⟨_,rfl,r,C,d1,_,_,rfl,hr1,T.cl,T.nR,fG_r _ _ _ _,l,_,0,_,rfl,rfl,SqL.of R1.ls,len8 R1.n8 (by decide) (by decide),?_⟩
  refine ⟨_,rfl,r,C,d1,_,_,rfl,hr1,T.cl,T.nR,fG_r _ _ _ _,_,rfl,l,_,i,_,rfl,rfl,SqL.of R1.ls,len8 R1.n8 w2.1 w2.2,?_⟩
  generalize hX0 : st.regs.getD i.toNat 0 = y at *
  refine ⟨_,rfl,_,rfl,_,rfl,(by show 2 ≤ 16777216; decide),fun p2 n2 => ?_⟩
  have S2 : Same (upd H t (.tup [.int 0,.int i])) (upd (upd H t (.tup [.int 0,.int i])) p2 (.lst (vNs [st.regs.getD 0 0,y]))) := same_new n2
  have hp2 : upd (upd H t (.tup [.int 0,.int i])) p2 (.lst (vNs [st.regs.getD 0 0,y])) p2 = some (.lst (vNs [st.regs.getD 0 0,y])) := upd_same
  have hp2l : p2 ≠ l := Ne.symm (ne_of_none R1.ls n2)
  have R2 := R1.same S2
  obtain ⟨d2,hr2⟩ := R2.ob
  refine ⟨_,rfl,_,rfl,_,rfl,_,rfl,_,rfl,r,C,d2,_,_,rfl,hr2,T.cl,T.nL,fG_l _ _ _ _,st.len,rfl,V0.len,fun p3 H3 s3 n3 o3 => ?_⟩
  have R3 := R2.same s3
  obtain ⟨d3,hr3⟩ := R3.ob
  have hb := places_ok V0.len
  refine ⟨_,rfl,r,C,d3,_,_,rfl,hr3,T.cl,T.nW,fG_w _ _ _ _,op,st.regs.getD 0 0,y,p3,placesE st.len,st.way,rfl,hop,hx,hy,⟨o3,hb.1,hb.2⟩,fun p4 H4 s4 n4 o4 => ?_⟩
  have R4 := R3.same s4
  have S4 := ((S1.trans S2).trans s3).trans s4
  have hX : Num80 (doE op (placesE st.len) st.way (st.regs.getD 0 0) y).1 := by
   unfold doE
   split
   ·exact num_NONE
   ·exact num_res _ hb.1 hb.2
  refine ⟨r,l,st,p2,[st.regs.getD 0 0,y],to,p4,_,rfl,R4,s4 _ _ (s3 _ _ hp2),hp2l,all2 hx hy,(by show 2 ≤ 1000; decide),hto.1,hto.2,o4,fun H5 R5 K5 => ?_⟩
  refine ⟨by show 1 ≤ 16777216; decide,k.fin R5 (V0.settle _ hX) ((Keep.of_same R S4).trans K5) ?_ rfl⟩
  refine comes_settle (all2 hx hy) ?_ hX.ne
  rw [any2]
  unfold doE
  by_cases hn : st.regs.getD 0 0 = NONEn ∨ y = NONEn
  ·rw [decide_eq_true hn,if_pos hn,if_pos rfl]
  ·rw [decide_eq_false hn,if_neg hn,if_neg Bool.false_ne_true]
   rfl
end
end Rr
end
section
namespace Rr
open PyRd20 (shape bound)
theorem step0 {f : Nat} {p : Int} {r : List Int} {raw : List (List (List Int))} (hs : shape p = some (0,0)) (h : PyFlat.calls shape (f + 1) (p :: r) = some raw) : ∃ raw',raw = [[p]] :: raw' ∧ PyFlat.calls shape f r = some raw' := by
 unfold PyFlat.calls PyFlat.call at h
 dsimp only at h
 rw [hs] at h
 dsimp only [PyFlat.rows] at h
 rw [if_neg (Nat.not_lt_zero _)] at h
 dsimp only at h
 rw [List.drop_zero,List.take_zero] at h
 cases e : PyFlat.calls shape f r with
 | none => rw [e] at h; cases h
 | some cs => rw [e] at h; cases h; exact ⟨cs,rfl,rfl⟩
theorem stepN {f n : Nat} {p : Int} {r : List Int} {raw : List (List (List Int))} (hs : shape p = some (n,0)) (h : PyFlat.calls shape (f + 1) (p :: r) = some raw) : n ≤ r.length ∧ ∃ raw',raw = [p :: r.take n] :: raw' ∧ PyFlat.calls shape f (r.drop n) = some raw' := by
 unfold PyFlat.calls PyFlat.call at h
 dsimp only at h
 rw [hs] at h
 dsimp only [PyFlat.rows] at h
 by_cases hn : r.length < n
 ·rw [if_pos hn] at h; cases h
 ·rw [if_neg hn] at h
  dsimp only at h
  refine ⟨Nat.not_lt.mp hn,?_⟩
  cases e : PyFlat.calls shape f (r.drop n) with
  | none => rw [e] at h; cases h
  | some cs => rw [e] at h; cases h; exact ⟨cs,rfl,rfl⟩
theorem step1 {f : Nat} {p : Int} {r : List Int} {raw : List (List (List Int))} (hs : shape p = some (1,0)) (h : PyFlat.calls shape (f + 1) (p :: r) = some raw) : ∃ a t raw',r = [a] ++ t ∧ raw = [[p,a]] :: raw' ∧ PyFlat.calls shape f t = some raw' := by
 obtain ⟨hn,raw',h1,h2⟩ := stepN hs h
 match r,hn with
 | a :: t,_ => exact ⟨a,t,raw',rfl,h1,h2⟩
theorem step2 {f : Nat} {p : Int} {r : List Int} {raw : List (List (List Int))} (hs : shape p = some (2,0)) (h : PyFlat.calls shape (f + 1) (p :: r) = some raw) : ∃ a b t raw',r = [a,b] ++ t ∧ raw = [[p,a,b]] :: raw' ∧ PyFlat.calls shape f t = some raw' := by
 obtain ⟨hn,raw',h1,h2⟩ := stepN hs h
 match r,hn with
 | a :: b :: t,_ => exact ⟨a,b,t,raw',rfl,h1,h2⟩
 | [a],hn => exact absurd hn (by show ¬ 2 ≤ 1; decide)
theorem step3 {f : Nat} {p : Int} {r : List Int} {raw : List (List (List Int))} (hs : shape p = some (3,0)) (h : PyFlat.calls shape (f + 1) (p :: r) = some raw) : ∃ a b c t raw',r = [a,b,c] ++ t ∧ raw = [[p,a,b,c]] :: raw' ∧ PyFlat.calls shape f t = some raw' := by
 obtain ⟨hn,raw',h1,h2⟩ := stepN hs h
 match r,hn with
 | a :: b :: c :: t,_ => exact ⟨a,b,c,t,raw',rfl,h1,h2⟩
 | [a],hn => exact absurd hn (by show ¬ 3 ≤ 1; decide)
 | [a,b],hn => exact absurd hn (by show ¬ 3 ≤ 2; decide)
theorem stepR {f : Nat} {p : Int} {r : List Int} {raw : List (List (List Int))} (hs : shape p = some (0,1)) (h : PyFlat.calls shape (f + 1) (p :: r) = some raw) :
  ∃ n t raw',r = n :: t ∧ 0 ≤ n ∧ n.toNat ≤ t.length ∧ raw = [[p],t.take n.toNat] :: raw' ∧ PyFlat.calls shape f (t.drop n.toNat) = some raw' := by
 unfold PyFlat.calls PyFlat.call at h
 dsimp only at h
 rw [hs] at h
 dsimp only [PyFlat.rows] at h
 rw [if_neg (Nat.not_lt_zero _)] at h
 rw [List.drop_zero,List.take_zero] at h
 match r with
 | [] => cases h
 | n :: t =>
  unfold PyFlat.row at h
  dsimp only at h
  by_cases hn : 0 ≤ n ∧ n.toNat ≤ t.length
  ·rw [if_pos hn] at h
   dsimp only at h
   cases e : PyFlat.calls shape f (t.drop n.toNat) with
   | none => rw [e] at h; cases h
   | some cs => rw [e] at h; cases h; exact ⟨n,t,cs,rfl,hn.1,hn.2,rfl,e⟩
  ·rw [if_neg hn] at h; cases h
abbrev W32 (z : Int) : Prop := -2147483648 ≤ z ∧ z ≤ 2147483647
theorem w32 {z : Int} (h : Rd20Neutral.whole32 z = true) : W32 z := by
 unfold Rd20Neutral.whole32 at h
 rw [Bool.and_eq_true,decide_eq_true_iff,decide_eq_true_iff] at h
 have e : (2 : Int) ^ 31 = 2147483648 := by decide
 rw [e] at h
 exact ⟨h.1,by omega⟩
inductive Sh : Int → List Int → Rd20.Call → Prop
 | begin_ : Sh 0 [] .begin_
 | control (a b : Int) : W32 a → W32 b → Sh 1 [a,b] (.control a b)
 | flags (a : Int) : W32 a → Sh 2 [a] (.flags a)
 | told : Sh 3 [] .told
 | load (bs : List Nat) : bs.length = 10 → (∀ b ∈ bs,b < 256) → Sh 4 (10 :: bs.map fun b : Nat => (b : Int)) (.load bs)
 | whole (a : Int) : -(2 ^ 63) ≤ a → a < 2 ^ 63 → Sh 5 [a] (.whole a)
 | double (b : Nat) : b < 2 ^ 64 → Sh 6 [(b : Int)] (.double b)
 | copy (a : Int) : W32 a → Sh 7 [a] (.copy a)
 | store : Sh 8 [] .store
 | int (a : Int) : W32 a → Sh 9 [a] (.int a)
 | bits : Sh 10 [] .bits
 | swap (a : Int) : W32 a → Sh 11 [a] (.swap a)
 | turn (a : Int) : W32 a → Sh 12 [a] (.turn a)
 | free (a : Int) : W32 a → Sh 13 [a] (.free a)
 | op (a b c : Int) : W32 a → W32 b → W32 c → Sh 14 [a,b,c] (.op a b c)
 | root : Sh 15 [] .root
 | near : Sh 16 [] .near
 | scale : Sh 17 [] .scale
 | split : Sh 18 [] .split
 | rest (a : Int) : W32 a → Sh 19 [a] (.rest a)
 | sign (a : Int) : W32 a → Sh 20 [a] (.sign a)
 | compare (a b : Int) : W32 a → W32 b → Sh 21 [a,b] (.compare a b)
 | against (a : Int) : W32 a → Sh 22 [a] (.against a)
 | kind : Sh 23 [] .kind
def ansI (a : Rd20.Ans) : List Int := a.value :: a.out.map fun (b : Nat) => (b : Int)
structure Head (f : Nat) (p : Int) (r : List Int) (raw : List (List (List Int))) (g t : List Int) (q : Rd20.Call) (raw' : List (List (List Int))) : Prop where
 r : r = g ++ t
 sh : Sh p g q
 rest : PyFlat.calls shape f t = some raw'
 step : ∀ s cs,PyFlat.told (PyFlat.played Rd20Neutral.step s ((raw.map PyRd20.whole) ++ cs)) = ((ansI (Rd20.does s q).2).length : Int) :: (ansI (Rd20.does s q).2 ++ PyFlat.told (PyFlat.played Rd20Neutral.step (Rd20.does s q).1 (raw'.map PyRd20.whole ++ cs)))
 ask : ∀ c ∈ raw',Rd20Neutral.asked1 (PyRd20.whole c) = true
theorem mkstep {c : List (List Int)} {raw' : List (List (List Int))} {q : Rd20.Call} (hc : Rd20Neutral.callOf (PyRd20.whole c) = some q) (s : Rd20.Abs) (cs : List (List (List Int))) :
  PyFlat.told (PyFlat.played Rd20Neutral.step s (((c :: raw').map PyRd20.whole) ++ cs)) = ((ansI (Rd20.does s q).2).length : Int) :: (ansI (Rd20.does s q).2 ++ PyFlat.told (PyFlat.played Rd20Neutral.step (Rd20.does s q).1 (raw'.map PyRd20.whole ++ cs))) := by
 have hs : Rd20Neutral.step s (PyRd20.whole c) = ((Rd20.does s q).1,ansI (Rd20.does s q).2) := by
  unfold Rd20Neutral.step
  rw [hc]
  rfl
 have hp : PyFlat.played Rd20Neutral.step s (PyRd20.whole c :: (raw'.map PyRd20.whole ++ cs)) = (Rd20Neutral.step s (PyRd20.whole c)).2 :: PyFlat.played Rd20Neutral.step (Rd20Neutral.step s (PyRd20.whole c)).1 (raw'.map PyRd20.whole ++ cs) := rfl
 rw [List.map_cons,List.cons_append,hp,hs]
 unfold PyFlat.told
 rw [List.flatMap_cons]
 rfl
theorem nats {r : List Int} (h : r.all (fun z => Rd20Neutral.natural z 8) = true) : ∃ bs : List Nat,r = bs.map (fun b : Nat => (b : Int)) ∧ (∀ b ∈ bs,b < 256) ∧ bs = Rd20Neutral.natsOf r := by
 refine ⟨Rd20Neutral.natsOf r,?_,?_,rfl⟩
 ·unfold Rd20Neutral.natsOf
  rw [List.map_map]
  have : ∀ x ∈ r,((fun b : Nat => (b : Int)) ∘ Int.toNat) x = x := fun x hx => by
   have h1 := List.all_eq_true.mp h x hx
   unfold Rd20Neutral.natural at h1
   rw [Bool.and_eq_true,decide_eq_true_iff] at h1
   exact Int.toNat_of_nonneg h1.1
  exact (List.map_congr_left this).trans (List.map_id _) |>.symm
 ·intro b hb
  unfold Rd20Neutral.natsOf at hb
  obtain ⟨x,hx,rfl⟩ := List.mem_map.mp hb
  have h1 := List.all_eq_true.mp h x hx
  unfold Rd20Neutral.natural at h1
  rw [Bool.and_eq_true,decide_eq_true_iff,decide_eq_true_iff] at h1
  have := h1.2
  omega
theorem decode1 {f : Nat} {p : Int} {r : List Int} {raw : List (List (List Int))} (h : PyFlat.calls shape (f + 1) (p :: r) = some raw) (ha : ∀ c ∈ raw,Rd20Neutral.asked1 (PyRd20.whole c) = true) : ∃ g t q raw',Head f p r raw g t q raw' := by
 by_cases h0 : p = 0
 ·subst h0
  obtain ⟨raw',rfl,h2⟩ := step0 rfl h
  exact ⟨[],r,.begin_,raw',rfl,.begin_,h2,mkstep rfl,fun c hc => ha c (List.mem_cons_of_mem _ hc)⟩
 by_cases h1 : p = 1
 ·subst h1
  obtain ⟨a,b,t,raw',rfl,rfl,h2⟩ := step2 rfl h
  have h3 : (Rd20Neutral.whole32 a && Rd20Neutral.whole32 b) = true := ha _ (List.mem_cons_self)
  rw [Bool.and_eq_true] at h3
  exact ⟨[a,b],t,.control a b,raw',rfl,.control a b (w32 h3.1) (w32 h3.2),h2,mkstep rfl,fun c hc => ha c (List.mem_cons_of_mem _ hc)⟩
 by_cases h2 : p = 2
 ·subst h2
  obtain ⟨a,t,raw',rfl,rfl,h2⟩ := step1 rfl h
  have h3 : Rd20Neutral.whole32 a = true := ha _ (List.mem_cons_self)
  exact ⟨[a],t,.flags a,raw',rfl,.flags a (w32 h3),h2,mkstep rfl,fun c hc => ha c (List.mem_cons_of_mem _ hc)⟩
 by_cases h3 : p = 3
 ·subst h3
  obtain ⟨raw',rfl,h2⟩ := step0 rfl h
  exact ⟨[],r,.told,raw',rfl,.told,h2,mkstep rfl,fun c hc => ha c (List.mem_cons_of_mem _ hc)⟩
 by_cases h4 : p = 4
 ·subst h4
  obtain ⟨n,t,raw',rfl,hn0,hn1,rfl,h2⟩ := stepR rfl h
  have h3 : Rd20Neutral.asked1 [[4],t.take n.toNat] = true := ha _ (List.mem_cons_self)
  have h4 : ((t.take n.toNat).all (fun z => Rd20Neutral.natural z 8) && decide ((t.take n.toNat).length = 10)) = true := h3
  rw [Bool.and_eq_true,decide_eq_true_iff] at h4
  obtain ⟨bs,e1,e2,e3⟩ := nats h4.1
  have hl : n = 10 := by
   have := h4.2
   rw [List.length_take] at this
   omega
  have hbl : bs.length = 10 := by have := h4.2; rw [e1,List.length_map] at this; exact this
  refine ⟨n :: t.take n.toNat,t.drop n.toNat,.load bs,raw',?_,?_,h2,?_,fun c hc => ha c (List.mem_cons_of_mem _ hc)⟩
  ·rw [List.cons_append,List.take_append_drop]
  ·rw [e1,hl]; exact .load bs hbl e2
  ·rw [e3]; exact mkstep rfl
 by_cases h5 : p = 5
 ·subst h5
  obtain ⟨a,t,raw',rfl,rfl,h2⟩ := step1 rfl h
  have h3 : (decide (-(2 ^ 63) ≤ a) && decide (a < 2 ^ 63)) = true := ha _ (List.mem_cons_self)
  rw [Bool.and_eq_true,decide_eq_true_iff,decide_eq_true_iff] at h3
  exact ⟨[a],t,.whole a,raw',rfl,.whole a h3.1 h3.2,h2,mkstep rfl,fun c hc => ha c (List.mem_cons_of_mem _ hc)⟩
 by_cases h6 : p = 6
 ·subst h6
  obtain ⟨a,t,raw',rfl,rfl,h2⟩ := step1 rfl h
  have h3 : Rd20Neutral.natural a 64 = true := ha _ (List.mem_cons_self)
  unfold Rd20Neutral.natural at h3
  rw [Bool.and_eq_true,decide_eq_true_iff,decide_eq_true_iff] at h3
  have ea : ((a.toNat : Nat) : Int) = a := Int.toNat_of_nonneg h3.1
  have hb : a.toNat < 2 ^ 64 := by have := h3.2; omega
  have sh := Sh.double a.toNat hb
  rw [ea] at sh
  exact ⟨[a],t,.double a.toNat,raw',rfl,sh,h2,mkstep rfl,fun c hc => ha c (List.mem_cons_of_mem _ hc)⟩
 by_cases h7 : p = 7
 ·subst h7
  obtain ⟨a,t,raw',rfl,rfl,h2⟩ := step1 rfl h
  have h3 : Rd20Neutral.whole32 a = true := ha _ (List.mem_cons_self)
  exact ⟨[a],t,.copy a,raw',rfl,.copy a (w32 h3),h2,mkstep rfl,fun c hc => ha c (List.mem_cons_of_mem _ hc)⟩
 by_cases h8 : p = 8
 ·subst h8
  obtain ⟨raw',rfl,h2⟩ := step0 rfl h
  exact ⟨[],r,.store,raw',rfl,.store,h2,mkstep rfl,fun c hc => ha c (List.mem_cons_of_mem _ hc)⟩
 by_cases h9 : p = 9
 ·subst h9
  obtain ⟨a,t,raw',rfl,rfl,h2⟩ := step1 rfl h
  have h3 : Rd20Neutral.whole32 a = true := ha _ (List.mem_cons_self)
  exact ⟨[a],t,.int a,raw',rfl,.int a (w32 h3),h2,mkstep rfl,fun c hc => ha c (List.mem_cons_of_mem _ hc)⟩
 by_cases h10 : p = 10
 ·subst h10
  obtain ⟨raw',rfl,h2⟩ := step0 rfl h
  exact ⟨[],r,.bits,raw',rfl,.bits,h2,mkstep rfl,fun c hc => ha c (List.mem_cons_of_mem _ hc)⟩
 by_cases h11 : p = 11
 ·subst h11
  obtain ⟨a,t,raw',rfl,rfl,h2⟩ := step1 rfl h
  have h3 : Rd20Neutral.whole32 a = true := ha _ (List.mem_cons_self)
  exact ⟨[a],t,.swap a,raw',rfl,.swap a (w32 h3),h2,mkstep rfl,fun c hc => ha c (List.mem_cons_of_mem _ hc)⟩
 by_cases h12 : p = 12
 ·subst h12
  obtain ⟨a,t,raw',rfl,rfl,h2⟩ := step1 rfl h
  have h3 : Rd20Neutral.whole32 a = true := ha _ (List.mem_cons_self)
  exact ⟨[a],t,.turn a,raw',rfl,.turn a (w32 h3),h2,mkstep rfl,fun c hc => ha c (List.mem_cons_of_mem _ hc)⟩
 by_cases h13 : p = 13
 ·subst h13
  obtain ⟨a,t,raw',rfl,rfl,h2⟩ := step1 rfl h
  have h3 : Rd20Neutral.whole32 a = true := ha _ (List.mem_cons_self)
  exact ⟨[a],t,.free a,raw',rfl,.free a (w32 h3),h2,mkstep rfl,fun c hc => ha c (List.mem_cons_of_mem _ hc)⟩
 by_cases h14 : p = 14
 ·subst h14
  obtain ⟨a,b,c,t,raw',rfl,rfl,h2⟩ := step3 rfl h
  have h3 : (Rd20Neutral.whole32 a && (Rd20Neutral.whole32 b && Rd20Neutral.whole32 c)) = true := ha _ (List.mem_cons_self)
  rw [Bool.and_eq_true,Bool.and_eq_true] at h3
  exact ⟨[a,b,c],t,.op a b c,raw',rfl,.op a b c (w32 h3.1) (w32 h3.2.1) (w32 h3.2.2),h2,mkstep rfl,fun c hc => ha c (List.mem_cons_of_mem _ hc)⟩
 by_cases h15 : p = 15
 ·subst h15
  obtain ⟨raw',rfl,h2⟩ := step0 rfl h
  exact ⟨[],r,.root,raw',rfl,.root,h2,mkstep rfl,fun c hc => ha c (List.mem_cons_of_mem _ hc)⟩
 by_cases h16 : p = 16
 ·subst h16
  obtain ⟨raw',rfl,h2⟩ := step0 rfl h
  exact ⟨[],r,.near,raw',rfl,.near,h2,mkstep rfl,fun c hc => ha c (List.mem_cons_of_mem _ hc)⟩
 by_cases h17 : p = 17
 ·subst h17
  obtain ⟨raw',rfl,h2⟩ := step0 rfl h
  exact ⟨[],r,.scale,raw',rfl,.scale,h2,mkstep rfl,fun c hc => ha c (List.mem_cons_of_mem _ hc)⟩
 by_cases h18 : p = 18
 ·subst h18
  obtain ⟨raw',rfl,h2⟩ := step0 rfl h
  exact ⟨[],r,.split,raw',rfl,.split,h2,mkstep rfl,fun c hc => ha c (List.mem_cons_of_mem _ hc)⟩
 by_cases h19 : p = 19
 ·subst h19
  obtain ⟨a,t,raw',rfl,rfl,h2⟩ := step1 rfl h
  have h3 : Rd20Neutral.whole32 a = true := ha _ (List.mem_cons_self)
  exact ⟨[a],t,.rest a,raw',rfl,.rest a (w32 h3),h2,mkstep rfl,fun c hc => ha c (List.mem_cons_of_mem _ hc)⟩
 by_cases h20 : p = 20
 ·subst h20
  obtain ⟨a,t,raw',rfl,rfl,h2⟩ := step1 rfl h
  have h3 : Rd20Neutral.whole32 a = true := ha _ (List.mem_cons_self)
  exact ⟨[a],t,.sign a,raw',rfl,.sign a (w32 h3),h2,mkstep rfl,fun c hc => ha c (List.mem_cons_of_mem _ hc)⟩
 by_cases h21 : p = 21
 ·subst h21
  obtain ⟨a,b,t,raw',rfl,rfl,h2⟩ := step2 rfl h
  have h3 : (Rd20Neutral.whole32 a && Rd20Neutral.whole32 b) = true := ha _ (List.mem_cons_self)
  rw [Bool.and_eq_true] at h3
  exact ⟨[a,b],t,.compare a b,raw',rfl,.compare a b (w32 h3.1) (w32 h3.2),h2,mkstep rfl,fun c hc => ha c (List.mem_cons_of_mem _ hc)⟩
 by_cases h22 : p = 22
 ·subst h22
  obtain ⟨a,t,raw',rfl,rfl,h2⟩ := step1 rfl h
  have h3 : Rd20Neutral.whole32 a = true := ha _ (List.mem_cons_self)
  exact ⟨[a],t,.against a,raw',rfl,.against a (w32 h3),h2,mkstep rfl,fun c hc => ha c (List.mem_cons_of_mem _ hc)⟩
 by_cases h23 : p = 23
 ·subst h23
  obtain ⟨raw',rfl,h2⟩ := step0 rfl h
  exact ⟨[],r,.kind,raw',rfl,.kind,h2,mkstep rfl,fun c hc => ha c (List.mem_cons_of_mem _ hc)⟩
 have hs : shape p = none := by
  unfold shape
  rw [if_neg h0,if_neg h1,if_neg h2,if_neg h3,if_neg h4,if_neg h5,if_neg h6,if_neg h7,if_neg h8,if_neg h9,if_neg h10,if_neg h11,if_neg h12,if_neg h13,if_neg h14,if_neg h15,if_neg h16,if_neg h17,if_neg h18,if_neg h19,if_neg h20,if_neg h21,if_neg h22,if_neg h23]
 unfold PyFlat.calls PyFlat.call at h
 dsimp only at h
 rw [hs] at h
 cases h
end Rr
end
section
namespace Rr
open PySem PySem.Spec PyProof.Rows L2
abbrev s_call_sign : Stmt := top 158
theorem sc_call_sign : FnScope ["ring","given","how","x"] ["ring","given"] (defScope s_call_sign) := ⟨rfl,rfl,rfl,by decide +kernel,rfl,by decide +kernel,by decide +kernel⟩
abbrev s_rank_of : Stmt := top 159
theorem sc_rank_of : FnScope ["number","rank"] ["number"] (defScope s_rank_of) := ⟨rfl,rfl,rfl,by decide +kernel,rfl,by decide +kernel,by decide +kernel⟩
abbrev s_order_of : Stmt := top 160
theorem sc_order_of : FnScope ["x","y"] ["x","y"] (defScope s_order_of) := ⟨rfl,rfl,rfl,by decide +kernel,rfl,by decide +kernel,by decide +kernel⟩
abbrev s_compared : Stmt := top 161
theorem sc_compared : FnScope ["ring","x","y","strict","order"] ["ring","x","y","strict"] (defScope s_compared) := ⟨rfl,rfl,rfl,by decide +kernel,rfl,by decide +kernel,by decide +kernel⟩
abbrev s_call_compare : Stmt := top 162
theorem sc_call_compare : FnScope ["ring","given","strict","i"] ["ring","given"] (defScope s_call_compare) := ⟨rfl,rfl,rfl,by decide +kernel,rfl,by decide +kernel,by decide +kernel⟩
abbrev s_call_against : Stmt := top 163
theorem sc_call_against : FnScope ["ring","given","n"] ["ring","given"] (defScope s_call_against) := ⟨rfl,rfl,rfl,by decide +kernel,rfl,by decide +kernel,by decide +kernel⟩
abbrev s_kind_without_sign : Stmt := top 164
theorem sc_kind_without_sign : FnScope ["number"] ["number"] (defScope s_kind_without_sign) := ⟨rfl,rfl,rfl,by decide +kernel,rfl,by decide +kernel,by decide +kernel⟩
abbrev s_call_kind : Stmt := top 165
theorem sc_call_kind : FnScope ["ring","given","x"] ["ring","given"] (defScope s_call_kind) := ⟨rfl,rfl,rfl,by decide +kernel,rfl,by decide +kernel,by decide +kernel⟩
theorem does_sign (s : Rd20.Abs) (h : Int) : Rd20.does s (.sign h) = if Rd20.within h 0 1 = false then (s,Rd20.just (-2)) else Rd20.of1 s fun x => if Rd20.worth x = .nan then (s,Rd20.just 0) else
  (Rd20.set_ s 0 (if h = 0 then x % 2 ^ 79 else if Rd20.signOf x = true then x - 2 ^ 79 else x + 2 ^ 79),Rd20.just 0) := rfl
theorem does_compare (s : Rd20.Abs) (st i : Int) : Rd20.does s (.compare st i) = if (Rd20.within st 0 1 && Rd20.within i 0 7) = false then (s,Rd20.just (-2)) else Rd20.of2 s i fun x y => Rd20.compareAns s (st == 1) [x,y] (Rd20.compared (Rd20.worth x) (Rd20.worth y)) := rfl
theorem does_against (s : Rd20.Abs) (n : Int) : Rd20.does s (.against n) = Rd20.of1 s fun x => Rd20.compareAns s true [x] (Rd20.compared (Rd20.worth x) (Rd20.ofInt n)) := rfl
theorem does_kind (s : Rd20.Abs) : Rd20.does s .kind = match Rd20.reg s 0 with
  | none => (s,Rd20.just 16)
  | some x => (s,Rd20.just (Rd20.kindOf x)) := rfl
theorem opp_eq {x : Nat} (h : x < 2 ^ 80) : oppE x = if Rd20.signOf x = true then x - 2 ^ 79 else x + 2 ^ 79 := by
 unfold oppE wsE Rd20.signOf
 by_cases h1 : 2 ^ 79 ≤ x
 ·rw [decide_eq_true h1,if_pos rfl]
  show (if false = true then _ else _) + _ = _
  rw [if_neg Bool.false_ne_true]; omega
 ·rw [decide_eq_false h1,if_neg Bool.false_ne_true]
  show (if true = true then _ else _) + _ = _
  rw [if_pos rfl]; omega
theorem abs_num {x : Nat} (h : Num80 x) (hn : x ≠ NONEn) : Num80 (x % 2 ^ 79) := by
 have e := ws79 h.1
 cases hs : Rd20.signOf x with
 | true =>
  have : oppE x = x % 2 ^ 79 := by
   unfold oppE wsE
   rw [hs]
   show (if false = true then _ else _) + _ = _
   rw [if_neg Bool.false_ne_true,Nat.zero_add]
  rw [← this]
  exact (opp_ok h hn).1
 | false =>
  rw [hs] at e
  unfold wsE at e
  rw [if_neg Bool.false_ne_true,Nat.zero_add] at e
  rw [e]
  exact h
def spOrder : Sp := fun vs H Q _ => ∃ x y,vs = [vN x,vN y] ∧ Num80 x ∧ Num80 y ∧ Q (.int (Rd20.compared (Rd20.worth x) (Rd20.worth y))) H
def cmpF (v strict : Int) : Nat := if v = 3 ∧ strict = 1 then 1 else 0
def spCompared (C : Addr) : Sp := fun vs H Q _ => ∃ r l s x y strict,vs = [.ref r,vN x,vN y,.int strict] ∧ RingAt C H r l s ∧ Valid s ∧ Num80 x ∧ Num80 y ∧
 Done C H r l (Rd20.flag (absE s) (keepE [x,y] (cmpF (Rd20.compared (Rd20.worth x) (Rd20.worth y)) strict)),Rd20.just (Rd20.compared (Rd20.worth x) (Rd20.worth y))) Q
theorem cmp_nan {x y : Nat} (hx : Num80 x) (hy : Num80 y) : Rd20.compared (Rd20.worth x) (Rd20.worth y) = 3 ↔ (x = NONEn ∨ y = NONEn) := by
 rw [compared_rank hx hy]
 constructor
 ·intro h
  by_cases hn : x = NONEn ∨ y = NONEn
  ·exact hn
  ·rw [if_neg hn] at h
   split at h
   ·cases h
   ·split at h <;> cases h
 ·intro h
  rw [if_pos h]
theorem cmp_ans {s : Rd20.Abs} {x y : Nat} (strict : Int) (hx : Num80 x) (hy : Num80 y) : Rd20.compareAns s (strict == 1) [x,y] (Rd20.compared (Rd20.worth x) (Rd20.worth y)) = (Rd20.flag s (keepE [x,y] (cmpF (Rd20.compared (Rd20.worth x) (Rd20.worth y)) strict)),Rd20.just (Rd20.compared (Rd20.worth x) (Rd20.worth y))) := by
 have hc := cmp_nan hx hy
 unfold Rd20.compareAns cmpF
 generalize Rd20.compared (Rd20.worth x) (Rd20.worth y) = v at *
 by_cases hv : v = 3
 ·rw [if_pos hv,keep_nan (by rw [any2]; exact decide_eq_true (hc.mp hv))]
  by_cases hs : strict = 1
  ·rw [if_pos (beq_iff_eq.mpr hs),if_pos ⟨hv,hs⟩]
  ·rw [if_neg (fun z => hs (beq_iff_eq.mp z)),if_neg (fun z => hs z.2),flag0]
 ·rw [if_neg hv,if_neg (fun z => hv z.1),flagsOf_keep (all2 hx hy) (by rw [any2]; exact decide_eq_false (fun z => hv (hc.mpr z)))]
theorem keep_drop {x y f : Nat} (h1 : y ≠ NONEn) (h2 : Rd20.small y = false) : keepE [x,y] f = keepE [x] f := by
 have e1 : anyN [x,y] = anyN [x] := by
  unfold anyN
  rw [List.any_cons,List.any_cons,List.any_cons,List.any_nil,decide_eq_false h1,Bool.false_or]
 have e2 : [x,y].any Rd20.small = [x].any Rd20.small := by
  rw [List.any_cons,List.any_cons,List.any_cons,List.any_nil,h2,Bool.false_or]
 unfold keepE stE
 rw [e1,e2]
theorem against_ans {s : Rd20.Abs} {x : Nat} {n : Int} (hx : Num80 x) (hn : n.natAbs < 2 ^ 64) : Rd20.compareAns s true [x] (Rd20.compared (Rd20.worth x) (Rd20.ofInt n)) = (Rd20.flag s (keepE [x,Rd20.exact (Rd20.ofInt n)] (cmpF (Rd20.compared (Rd20.worth x) (Rd20.worth (Rd20.exact (Rd20.ofInt n)))) 1)),Rd20.just (Rd20.compared (Rd20.worth x) (Rd20.worth (Rd20.exact (Rd20.ofInt n))))) := by
 obtain ⟨y1,y2,y3,y4⟩ := whole_like hn
 rw [← cmp_ans 1 hx y1,← compared_like y4]
 have hc := cmp_nan hx y1
 unfold Rd20.compareAns
 generalize Rd20.compared (Rd20.worth x) (Rd20.worth (Rd20.exact (Rd20.ofInt n))) = v at *
 by_cases hv : v = 3
 ·rw [if_pos hv,if_pos hv]
  rfl
 ·rw [if_neg hv,if_neg hv]
  have hn2 : ¬ (x = NONEn ∨ Rd20.exact (Rd20.ofInt n) = NONEn) := fun z => hv (hc.mpr z)
  rw [flagsOf_keep (all2 hx y1) (by rw [any2]; exact decide_eq_false hn2),flagsOf_keep (all1 hx) (by rw [any1]; exact decide_eq_false fun z => hn2 (.inl z)),keep_drop y2 y3]
def kind0 (x : Nat) : Nat := if infE x = true then 1 else if x % 2 ^ 79 = 0 then 2 else if Rd20.small x = true then 3 else 4
theorem kind_eq {x : Nat} (hx : Num80 x) (hn : x ≠ NONEn) : (kind0 x : Int) + 8 * ob (Rd20.signOf x) = Rd20.kindOf x := by
 unfold kind0 Rd20.kindOf
 rcases worth3 hx hn with ⟨ix,wx,ex⟩ | ⟨ix,wx,px⟩
 ·rw [wx,if_pos ix]
  cases Rd20.signOf x <;> rfl
 ·rw [wx,ix,if_neg Bool.false_ne_true]
  dsimp only
  by_cases h0 : Rd20.sizeOf x = 0
  ·rw [if_pos h0,if_pos ((zero_iff hx).mpr h0)]
   cases Rd20.signOf x <;> rfl
  ·rw [if_neg h0,if_neg (fun z => h0 ((zero_iff hx).mp z))]
   cases Rd20.small x <;> cases Rd20.signOf x <;> rfl
section
variable {P : Program} {w : World} {K : PySem.W.Frag} {mg : Str → Option Value} {base : Heap} {C CF CS CT : Addr}
theorem ok_call_sign (F : Src K mg "call_sign" s_call_sign ["ring","given"]) (T : CG K C) (m_Ring_is_empty : Mtd P w K mg base C "is_empty" 1 ["self","i"] (spIsEmpty C)) (f_is_within : Fn P w K mg base "is_within" 1 ["n","low","high"] spWithin) (c_IS_EMPTY : Con1 mg "IS_EMPTY" (.int (-4))) (c_BAD_ARGUMENT : Con1 mg "BAD_ARGUMENT" (.int (-2))) (c_DONE : Con1 mg "DONE" (.int 0)) (c_NONE : Con1 mg "NONE" (.int NONEn)) (f_without_sign : Fn P w K mg base "without_sign" 2 ["number"] (spNat fun x => .int (x % 2 ^ 79 : Nat))) (f_opposite : Fn P w K mg base "opposite" 3 ["number"] (spNat fun x => .int (oppE x))) : Fn P w K mg base "call_sign" 4 ["ring","given"] (spCall C (c1 .sign)) := by
 have cl_Ring := T.cl
 refine F.fn sc_call_sign (fun vs H Q E h => ?_) (fun f cdv A outer s H vs Q E hr h => ?_)
 ·obtain ⟨r,g,l,s,zs,q,rfl,_⟩ := h
  rfl
 ·obtain ⟨r,g,l,st,zs,q,rfl,R,V0,hg,hgl,hq,k⟩ := h
  obtain ⟨dx,hr'⟩ := R.ob
  obtain ⟨a,rfl,rfl⟩ := hq
  refine ⟨_,(pss_cons (ps_set (i := 2) sc_call_sign.nd rfl (Or.inl rfl) (pe_ix ix_list (pv 1) pe_int (fun _ _ => rfl)))
    (pss_cons (ps_if (pt_not (pt_val (pf f_is_within hr (pa_cons (pv 2) (pa_cons pe_int (pa_cons pe_int pa_nil)))))) (pss_one (ps_ret (pe_lst (pa_cons (pe_c1 c_BAD_ARGUMENT rfl) pa_nil)))) pss_nil)
    (pss_cons (ps_if (pt_val (pe_mt (pv 0) cl_Ring m_Ring_is_empty (hr.mono (by decide)) (pa_cons pe_int pa_nil))) (pss_one (ps_ret (pe_lst (pa_cons (pe_c1 c_IS_EMPTY rfl) pa_nil)))) pss_nil)
    (pss_cons (ps_set (i := 3) sc_call_sign.nd rfl (Or.inl rfl) (pe_ix ix_list (pe_fld (pv 0) rfl) pe_int (fun _ _ => rfl)))
    (pss_cons (ps_if (pt_cmpR op_ne (pv 3) (pe_c1 c_NONE rfl) (nomark _)) (pss_one (ps_asg (pe_ifExp (pt_cmpR op_eq (pv 2) pe_int (nomark _)) (pf f_without_sign hr (pa_cons (pv 3) pa_nil)) (pf f_opposite hr (pa_cons (pv 3) pa_nil))) (pg_sub (pe_fld (pv 0) rfl) pe_int set_list))) pss_nil)
    (pss_one (ps_ret (pe_lst (pa_cons (pe_c1 c_DONE rfl) pa_nil))))))))),?_⟩
  rw [does_sign] at k
  refine ⟨_,rfl,g,_,0,_,rfl,rfl,SqL.of hg,atI_nat (j := 0) rfl,?_⟩
  refine ⟨_,rfl,a,0,1,rfl,_,rfl,?_⟩
  cases hw : Rd20.within a 0 1 with
  | false =>
   rw [if_pos hw] at k
   exact br_t rfl ⟨by show 1 ≤ 16777216; decide,k.fin R V0 (Keep.refl R) rfl rfl⟩
  | true =>
  rw [if_neg (by rw [hw]; exact fun z => nomatch z)] at k
  have w1 := within_iff.mp hw
  refine br_f rfl ?_
  unfold Rd20.of1 at k
  rw [show Rd20.reg (absE st) 0 = optE (st.regs.getD 0 0) from reg_abs V0.n8 (by decide) (by decide)] at k
  refine ⟨_,rfl,r,dx,_,rfl,hr',rfl,r,l,st,0,rfl,R,by decide,by decide,_,rfl,?_⟩
  by_cases h2 : st.regs.getD 0 0 = EMn
  ·rw [optE_none h2] at k
   exact br_t (decide_eq_true h2) ⟨by show 1 ≤ 16777216; decide,k.fin R V0 (Keep.refl R) rfl rfl⟩
  refine br_f (decide_eq_false h2) ?_
  rw [optE_some h2] at k
  dsimp only at k
  have hx := V0.at_ (i := 0) (by decide) h2
  refine ⟨_,rfl,r,C,dx,_,_,rfl,hr',T.cl,T.nR,fG_r _ _ _ _,l,_,0,_,rfl,rfl,SqL.of R.ls,len8 R.n8 (by decide) (by decide),?_⟩
  have hl8 : (vNs st.regs).length = 8 := by rw [List.length_map]; exact R.n8
  have hrl := R.nrl
  refine ⟨_,rfl,rfl,_,rfl,?_⟩
  by_cases hn : st.regs.getD 0 0 = NONEn
  ·rw [if_pos ((worth_nan hx).mpr hn)] at k
   refine br_f ?_ ⟨by show 1 ≤ 16777216; decide,k.fin R V0 (Keep.refl R) rfl rfl⟩
   show (!decide (V.int ((st.regs.getD 0 0 : Nat) : Int) = V.int (NONEn : Int))) = false
   rw [dV_t (by rw [hn])]
   rfl
  ·rw [if_neg (not_nan hx hn)] at k
   refine br_t ?_ ?_
   ·show (!decide (V.int ((st.regs.getD 0 0 : Nat) : Int) = V.int (NONEn : Int))) = true
    rw [dV_f (by omega)]
    rfl
   refine ⟨_,rfl,rfl,_,rfl,?_⟩
   by_cases h0 : a = 0
   ·rw [if_pos h0] at k
    refine br_t (dV_t h0) ⟨_,rfl,st.regs.getD 0 0,rfl,hx.1,?_⟩
    refine ⟨_,rfl,r,C,dx,_,_,rfl,hr',T.cl,T.nR,fG_r _ _ _ _,l,_,0,0,rfl,rfl,R.ls,(by rw [hl8]; rfl),?_⟩
    have e1 : (vNs st.regs).set 0 (vN (st.regs.getD 0 0 % 2 ^ 79)) = vNs (st.regs.set 0 (st.regs.getD 0 0 % 2 ^ 79)) := by unfold vNs; rw [List.map_set]
    have hX : Num80 (st.regs.getD 0 0 % 2 ^ 79) := abs_num hx hn
    have R1 : RingAt C (upd H l (.lst ((vNs st.regs).set 0 (vN (st.regs.getD 0 0 % 2 ^ 79))))) r l { st with regs := st.regs.set (0 : Int).toNat (st.regs.getD 0 0 % 2 ^ 79) } := ⟨⟨dx,by rw [upd_ne hrl]; exact hr'⟩,by rw [upd_same,e1]; rfl,by show (st.regs.set 0 (st.regs.getD 0 0 % 2 ^ 79)).length = 8; rw [List.length_set]; exact R.n8⟩
    have K1 : Keep H (upd H l (.lst ((vNs st.regs).set 0 (vN (st.regs.getD 0 0 % 2 ^ 79))))) r l l := ⟨fun b o e hb hl => by rw [upd_ne hl]; exact e,.inl rfl,by rw [upd_ne hrl,hr']; exact sne,fun b hb => dom1 b hb⟩
    refine ⟨by show 1 ≤ 16777216; decide,k.fin R1 (V0.set hX hX.ne) K1 ?_ rfl⟩
    rw [abs_set hX.ne]
   ·rw [if_neg h0,← opp_eq hx.1] at k
    refine br_f (dV_f h0) ⟨_,rfl,st.regs.getD 0 0,rfl,hx.1,?_⟩
    refine ⟨_,rfl,r,C,dx,_,_,rfl,hr',T.cl,T.nR,fG_r _ _ _ _,l,_,0,0,rfl,rfl,R.ls,(by rw [hl8]; rfl),?_⟩
    have e1 : (vNs st.regs).set 0 (vN (oppE (st.regs.getD 0 0))) = vNs (st.regs.set 0 (oppE (st.regs.getD 0 0))) := by unfold vNs; rw [List.map_set]
    have hX : Num80 (oppE (st.regs.getD 0 0)) := (opp_ok hx hn).1
    have R1 : RingAt C (upd H l (.lst ((vNs st.regs).set 0 (vN (oppE (st.regs.getD 0 0)))))) r l { st with regs := st.regs.set (0 : Int).toNat (oppE (st.regs.getD 0 0)) } := ⟨⟨dx,by rw [upd_ne hrl]; exact hr'⟩,by rw [upd_same,e1]; rfl,by show (st.regs.set 0 (oppE (st.regs.getD 0 0))).length = 8; rw [List.length_set]; exact R.n8⟩
    have K1 : Keep H (upd H l (.lst ((vNs st.regs).set 0 (vN (oppE (st.regs.getD 0 0)))))) r l l := ⟨fun b o e hb hl => by rw [upd_ne hl]; exact e,.inl rfl,by rw [upd_ne hrl,hr']; exact sne,fun b hb => dom1 b hb⟩
    refine ⟨by show 1 ≤ 16777216; decide,k.fin R1 (V0.set hX hX.ne) K1 ?_ rfl⟩
    rw [abs_set hX.ne]
theorem ok_rank (F : Src K mg "rank_of" s_rank_of ["number"]) (f_without_sign : Fn P w K mg base "without_sign" 2 ["number"] (spNat fun x => .int (x % 2 ^ 79 : Nat))) (f_sign_of : Fn P w K mg base "sign_of" 1 ["number"] (spNat fun x => .int (ob (Rd20.signOf x)))) : Fn P w K mg base "rank_of" 3 ["number"] (spNat fun x => .int (rankE x)) := by
 refine F.fn sc_rank_of (fun vs H Q E h => ?_) (fun f cdv A outer s H vs Q E hr h => ?_)
 ·obtain ⟨x,rfl,_⟩ := h
  rfl
 ·obtain ⟨x,rfl,hx,k⟩ := h
  refine ⟨_,(pss_cons (ps_set (i := 1) sc_rank_of.nd rfl (Or.inl rfl) (pf f_without_sign hr (pa_cons (pv 0) pa_nil)))
    (pss_one (ps_ret (pe_ifExp (pt_cmpR op_eq (pf f_sign_of hr (pa_cons (pv 0) pa_nil)) pe_int (nomark _)) (pe_un un_neg (pv 1)) (pv 1))))),?_⟩
  refine ⟨_,rfl,x,rfl,hx,?_⟩
  refine ⟨_,rfl,x,rfl,hx,rfl,_,rfl,?_⟩
  rw [ob_one]
  unfold rankE at k
  dsimp only at k
  cases hs : Rd20.signOf x with
  | true =>
   rw [hs,if_pos rfl] at k
   exact br_t rfl ⟨_,rfl,_,rfl,k⟩
  | false =>
   rw [hs,if_neg Bool.false_ne_true] at k
   exact br_f rfl ⟨_,rfl,k⟩
theorem ok_order (F : Src K mg "order_of" s_order_of ["x","y"]) (c_NONE : Con1 mg "NONE" (.int NONEn)) (c_ONE_IS_NONE : Con1 mg "ONE_IS_NONE" (.int 3)) (c_ALIKE : Con1 mg "ALIKE" (.int 1)) (c_BELOW : Con1 mg "BELOW" (.int 0)) (c_ABOVE : Con1 mg "ABOVE" (.int 2)) (f_rank_of : Fn P w K mg base "rank_of" 3 ["number"] (spNat fun x => .int (rankE x))) :
  Fn P w K mg base "order_of" 4 ["x","y"] spOrder := by
 refine F.fn sc_order_of (fun vs H Q E h => ?_) (fun f cdv A outer s H vs Q E hr h => ?_)
 ·obtain ⟨x,y,rfl,_⟩ := h
  rfl
 ·obtain ⟨x,y,rfl,hx,hy,k⟩ := h
  refine ⟨_,(pss_cons (ps_if (PW.pt (pw_or (pt_cmpR op_eq (pv 0) (pe_c1 c_NONE rfl) (nomark _)) (pw_or1 (pt_cmpR op_eq (pv 1) (pe_c1 c_NONE rfl) (nomark _))))) (pss_one (ps_ret (pe_c1 c_ONE_IS_NONE rfl))) pss_nil)
    (pss_cons (ps_if (pt_cmpR op_eq (pf f_rank_of hr (pa_cons (pv 0) pa_nil)) (pf f_rank_of hr (pa_cons (pv 1) pa_nil)) (nomark _)) (pss_one (ps_ret (pe_c1 c_ALIKE rfl))) pss_nil)
    (pss_one (ps_ret (pe_ifExp (pt_cmpR op_lt (pf f_rank_of hr (pa_cons (pv 0) pa_nil)) (pf f_rank_of hr (pa_cons (pv 1) pa_nil)) (nomark _)) (pe_c1 c_BELOW rfl) (pe_c1 c_ABOVE rfl)))))),?_⟩
  rw [compared_rank hx hy] at k
  refine ⟨_,rfl,rfl,_,rfl,?_⟩
  by_cases hxn : x = NONEn
  ·rw [if_pos (.inl hxn)] at k
   exact br_t (dV_t (by rw [hxn])) (br_t rfl k)
  refine br_f (dV_f (by omega)) ⟨_,rfl,rfl,_,rfl,?_⟩
  by_cases hyn : y = NONEn
  ·rw [if_pos (.inr hyn)] at k
   exact br_t (dV_t (by rw [hyn])) k
  rw [if_neg (fun z => z.elim hxn hyn)] at k
  refine br_f (dV_f (by omega)) ⟨_,rfl,x,rfl,hx.1,_,rfl,y,rfl,hy.1,rfl,_,rfl,?_⟩
  by_cases h1 : rankE x = rankE y
  ·rw [if_pos h1] at k
   exact br_t (dV_t h1) k
  ·rw [if_neg h1] at k
   refine br_f (dV_f h1) ⟨_,rfl,x,rfl,hx.1,_,rfl,y,rfl,hy.1,_,_,rfl,rfl,_,rfl,?_⟩
   by_cases h2 : rankE x < rankE y
   ·rw [if_pos h2] at k
    exact br_t (decide_eq_true h2) k
   ·rw [if_neg h2] at k
    exact br_f (decide_eq_false h2) k
theorem ok_compared (F : Src K mg "compared" s_compared ["ring","x","y","strict"]) (f_order_of : Fn P w K mg base "order_of" 4 ["x","y"] spOrder) (f_keep_flags : Fn P w K mg base "keep_flags" 4 ["ring","taken","flags"] (spKeepF C)) (c_NOTHING_CAME : Con1 mg "NOTHING_CAME" (.int 1)) (c_ONE_IS_NONE : Con1 mg "ONE_IS_NONE" (.int 3)) :
  Fn P w K mg base "compared" 5 ["ring","x","y","strict"] (spCompared C) := by
 refine F.fn sc_compared (fun vs H Q E h => ?_) (fun f cdv A outer s H vs Q E hr h => ?_)
 ·obtain ⟨r,l,s,x,y,strict,rfl,_⟩ := h
  rfl
 ·obtain ⟨r,l,st,x,y,strict,rfl,R,V0,hx,hy,k⟩ := h
  refine ⟨_,(pss_cons (ps_set (i := 4) sc_compared.nd rfl (Or.inl rfl) (pf f_order_of hr (pa_cons (pv 1) (pa_cons (pv 2) pa_nil))))
    (pss_cons (ps_expr (pf f_keep_flags hr (pa_cons (pv 0) (pa_cons (pe_lst (pa_cons (pv 1) (pa_cons (pv 2) pa_nil))) (pa_cons (pe_ifExp (PW.pt (pw_and (pt_cmpR op_eq (pv 4) (pe_c1 c_ONE_IS_NONE rfl) (nomark _)) (pw_and1 (pt_cmpR op_eq (pv 3) pe_int (nomark _))))) (pe_c1 c_NOTHING_CAME rfl) pe_int) pa_nil)))))
    (pss_one (ps_ret (pe_lst (pa_cons (pv 4) pa_nil)))))),?_⟩
  refine ⟨_,rfl,_,rfl,x,y,rfl,hx,hy,?_⟩
  generalize Rd20.compared (Rd20.worth x) (Rd20.worth y) = v at *
  refine ⟨_,rfl,_,rfl,_,rfl,(by show 2 ≤ 16777216; decide),fun p2 n2 => ?_⟩
  have S2 : Same H (upd H p2 (.lst (vNs [x,y]))) := same_new n2
  have hp2 : upd H p2 (.lst (vNs [x,y])) p2 = some (.lst (vNs [x,y])) := upd_same
  have hp2l : p2 ≠ l := Ne.symm (ne_of_none R.ls n2)
  have R2 := R.same S2
  refine ⟨_,rfl,rfl,_,rfl,?_⟩
  by_cases hv : v = 3
  ·refine br_t (dV_t hv) ⟨_,rfl,rfl,_,rfl,?_⟩
   by_cases hs : strict = 1
   ·have ef : cmpF v strict = 1 := by unfold cmpF; rw [if_pos ⟨hv,hs⟩]
    refine br_t (dV_t hs) ?_
    refine ⟨r,l,st,p2,[x,y],1,rfl,R2,hp2,hp2l,all2 hx hy,(by show 2 ≤ 1000; decide),fun H3 R3 K3 => ?_⟩
    refine ⟨_,rfl,by show 1 ≤ 16777216; decide,k.fin R3 (V0.flags _) ((Keep.of_same R S2).trans K3) ?_ rfl⟩
    rw [ef]
    rfl
   ·have ef : cmpF v strict = 0 := by unfold cmpF; rw [if_neg (fun z => hs z.2)]
    refine br_f (dV_f hs) ?_
    refine ⟨r,l,st,p2,[x,y],0,rfl,R2,hp2,hp2l,all2 hx hy,(by show 2 ≤ 1000; decide),fun H3 R3 K3 => ?_⟩
    refine ⟨_,rfl,by show 1 ≤ 16777216; decide,k.fin R3 (V0.flags _) ((Keep.of_same R S2).trans K3) ?_ rfl⟩
    rw [ef]
    rfl
  ·have ef : cmpF v strict = 0 := by unfold cmpF; rw [if_neg (fun z => hv z.1)]
   refine br_f (dV_f hv) (br_f rfl ?_)
   refine ⟨r,l,st,p2,[x,y],0,rfl,R2,hp2,hp2l,all2 hx hy,(by show 2 ≤ 1000; decide),fun H3 R3 K3 => ?_⟩
   refine ⟨_,rfl,by show 1 ≤ 16777216; decide,k.fin R3 (V0.flags _) ((Keep.of_same R S2).trans K3) ?_ rfl⟩
   rw [ef]
   rfl
def cCompare (zs : List Int) (q : Rd20.Call) : Prop := ∃ a b,zs = [a,b] ∧ q = .compare a b
def cAgainst (zs : List Int) (q : Rd20.Call) : Prop := ∃ a,zs = [a] ∧ W32 a ∧ q = .against a
theorem ok_call_compare (F : Src K mg "call_compare" s_call_compare ["ring","given"]) (T : CG K C) (f_are_taken : Fn P w K mg base "are_taken" 2 ["ring","i"] (spAre C)) (f_is_within : Fn P w K mg base "is_within" 1 ["n","low","high"] spWithin) (f_is_place : Fn P w K mg base "is_place" 2 ["i"] spPlace) (c_IS_EMPTY : Con1 mg "IS_EMPTY" (.int (-4))) (c_BAD_ARGUMENT : Con1 mg "BAD_ARGUMENT" (.int (-2))) (f_compared : Fn P w K mg base "compared" 5 ["ring","x","y","strict"] (spCompared C)) : Fn P w K mg base "call_compare" 6 ["ring","given"] (spCall C cCompare) := by
 have cl_Ring := T.cl
 refine F.fn sc_call_compare (fun vs H Q E h => ?_) (fun f cdv A outer s H vs Q E hr h => ?_)
 ·obtain ⟨r,g,l,s,zs,q,rfl,_⟩ := h
  rfl
 ·obtain ⟨r,g,l,st,zs,q,rfl,R,V0,hg,hgl,hq,k⟩ := h
  obtain ⟨dx,hr'⟩ := R.ob
  obtain ⟨sr,i,rfl,rfl⟩ := hq
  refine ⟨_,(pss_cons (ps_set (i := 2) sc_call_compare.nd rfl (Or.inl rfl) (pe_ix ix_list (pv 1) pe_int (fun _ _ => rfl)))
    (pss_cons (ps_set (i := 3) sc_call_compare.nd rfl (Or.inl rfl) (pe_ix ix_list (pv 1) pe_int (fun _ _ => rfl)))
    (pss_cons (ps_if (PW.pt (pw_or (pt_not (pt_val (pf f_is_within hr (pa_cons (pv 2) (pa_cons pe_int (pa_cons pe_int pa_nil)))))) (pw_or1 (pt_not (pt_val (pf f_is_place hr (pa_cons (pv 3) pa_nil))))))) (pss_one (ps_ret (pe_lst (pa_cons (pe_c1 c_BAD_ARGUMENT rfl) pa_nil)))) pss_nil)
    (pss_cons (ps_if (pt_not (pt_val (pf f_are_taken hr (pa_cons (pv 0) (pa_cons (pv 3) pa_nil))))) (pss_one (ps_ret (pe_lst (pa_cons (pe_c1 c_IS_EMPTY rfl) pa_nil)))) pss_nil)
    (pss_one (ps_ret (pf f_compared hr (pa_cons (pv 0) (pa_cons (pe_ix ix_list (pe_fld (pv 0) rfl) pe_int (fun _ _ => rfl)) (pa_cons (pe_ix ix_list (pe_fld (pv 0) rfl) (pv 3) (fun _ _ => rfl)) (pa_cons (pv 2) pa_nil))))))))))),?_⟩
  rw [does_compare] at k
  refine ⟨_,rfl,g,_,0,_,rfl,rfl,SqL.of hg,atI_nat (j := 0) rfl,?_⟩
  refine ⟨_,rfl,g,_,1,_,rfl,rfl,SqL.of hg,atI_nat (j := 1) rfl,?_⟩
  refine ⟨_,rfl,sr,0,1,rfl,_,rfl,?_⟩
  cases hw : Rd20.within sr 0 1 with
  | false =>
   rw [hw,Bool.false_and,if_pos rfl] at k
   exact br_t rfl (br_t rfl ⟨by show 1 ≤ 16777216; decide,k.fin R V0 (Keep.refl R) rfl rfl⟩)
  | true =>
  rw [hw,Bool.true_and] at k
  refine br_f rfl ⟨_,rfl,i,rfl,_,rfl,?_⟩
  cases hi : Rd20.within i 0 7 with
  | false =>
   rw [hi,if_pos rfl] at k
   exact br_t rfl ⟨by show 1 ≤ 16777216; decide,k.fin R V0 (Keep.refl R) rfl rfl⟩
  | true =>
  rw [hi,if_neg (fun z => nomatch z)] at k
  refine br_f rfl ?_
  have w2 := within_iff.mp hi
  unfold Rd20.of2 at k
  rw [reg_abs V0.n8 w2.1 w2.2,show Rd20.reg (absE st) 0 = optE (st.regs.getD 0 0) from reg_abs V0.n8 (by decide) (by decide)] at k
  refine ⟨_,rfl,_,rfl,r,l,st,i,rfl,R,w2.1,w2.2,_,rfl,?_⟩
  by_cases h2 : st.regs.getD 0 0 = EMn
  ·rw [optE_none h2] at k
   exact br_t (by rw [decide_eq_true h2]; rfl) ⟨by show 1 ≤ 16777216; decide,k.fin R V0 (Keep.refl R) rfl rfl⟩
  by_cases h3 : st.regs.getD i.toNat 0 = EMn
  ·rw [optE_some h2,optE_none h3] at k
   exact br_t (by rw [decide_eq_false h2,decide_eq_true h3]; rfl) ⟨by show 1 ≤ 16777216; decide,k.fin R V0 (Keep.refl R) rfl rfl⟩
  refine br_f (by rw [decide_eq_false h2,decide_eq_false h3]; rfl) ?_
  rw [optE_some h2,optE_some h3] at k
  dsimp only at k
  have hx := V0.at_ (i := 0) (by decide) h2
  have hy := V0.at_ (i := i.toNat) (by omega) h3
  rw [cmp_ans sr hx hy] at k
  exact ⟨_,rfl,_,rfl,r,C,dx,_,_,rfl,hr',T.cl,T.nR,fG_r _ _ _ _,l,_,0,_,rfl,rfl,SqL.of R.ls,len8 R.n8 (by decide) (by decide),_,rfl,r,C,dx,_,_,rfl,hr',T.cl,T.nR,fG_r _ _ _ _,_,rfl,l,_,i,_,rfl,rfl,SqL.of R.ls,len8 R.n8 w2.1 w2.2,_,rfl,
   r,l,st,st.regs.getD 0 0,st.regs.getD i.toNat 0,sr,rfl,R,V0,hx,hy,k⟩
theorem ok_call_against (F : Src K mg "call_against" s_call_against ["ring","given"]) (T : CG K C) (m_Ring_is_empty : Mtd P w K mg base C "is_empty" 1 ["self","i"] (spIsEmpty C)) (f_is_within : Fn P w K mg base "is_within" 1 ["n","low","high"] spWithin) (c_IS_EMPTY : Con1 mg "IS_EMPTY" (.int (-4))) (c_BAD_ARGUMENT : Con1 mg "BAD_ARGUMENT" (.int (-2))) (f_number_of_whole : Fn P w K mg base "number_of_whole" 6 ["n"] spWhole) (f_compared : Fn P w K mg base "compared" 5 ["ring","x","y","strict"] (spCompared C)) : Fn P w K mg base "call_against" 7 ["ring","given"] (spCall C cAgainst) := by
 have cl_Ring := T.cl
 refine F.fn sc_call_against (fun vs H Q E h => ?_) (fun f cdv A outer s H vs Q E hr h => ?_)
 ·obtain ⟨r,g,l,s,zs,q,rfl,_⟩ := h
  rfl
 ·obtain ⟨r,g,l,st,zs,q,rfl,R,V0,hg,hgl,hq,k⟩ := h
  obtain ⟨dx,hr'⟩ := R.ob
  obtain ⟨a,rfl,ha,rfl⟩ := hq
  refine ⟨_,(pss_cons (ps_set (i := 2) sc_call_against.nd rfl (Or.inl rfl) (pe_ix ix_list (pv 1) pe_int (fun _ _ => rfl)))
    (pss_cons (ps_if (pt_not (pt_val (pf f_is_within hr (pa_cons (pv 2) (pa_cons (pe_un un_neg pe_int) (pa_cons pe_int pa_nil)))))) (pss_one (ps_ret (pe_lst (pa_cons (pe_c1 c_BAD_ARGUMENT rfl) pa_nil)))) pss_nil)
    (pss_cons (ps_if (pt_val (pe_mt (pv 0) cl_Ring m_Ring_is_empty (hr.mono (by decide)) (pa_cons pe_int pa_nil))) (pss_one (ps_ret (pe_lst (pa_cons (pe_c1 c_IS_EMPTY rfl) pa_nil)))) pss_nil)
    (pss_one (ps_ret (pf f_compared hr (pa_cons (pv 0) (pa_cons (pe_ix ix_list (pe_fld (pv 0) rfl) pe_int (fun _ _ => rfl)) (pa_cons (pf f_number_of_whole hr (pa_cons (pv 2) pa_nil)) (pa_cons pe_int pa_nil)))))))))),?_⟩
  rw [does_against] at k
  refine ⟨_,rfl,g,_,0,_,rfl,rfl,SqL.of hg,atI_nat (j := 0) rfl,?_⟩
  refine ⟨_,rfl,_,rfl,a,-2147483648,2147483647,rfl,_,rfl,?_⟩
  unfold W32 at ha
  have hw : Rd20.within a (-2147483648) 2147483647 = true := within_iff.mpr (by omega)
  refine br_f (by rw [hw]; rfl) ?_
  unfold Rd20.of1 at k
  rw [show Rd20.reg (absE st) 0 = optE (st.regs.getD 0 0) from reg_abs V0.n8 (by decide) (by decide)] at k
  refine ⟨_,rfl,r,dx,_,rfl,hr',rfl,r,l,st,0,rfl,R,by decide,by decide,_,rfl,?_⟩
  by_cases h2 : st.regs.getD 0 0 = EMn
  ·rw [optE_none h2] at k
   exact br_t (decide_eq_true h2) ⟨by show 1 ≤ 16777216; decide,k.fin R V0 (Keep.refl R) rfl rfl⟩
  refine br_f (decide_eq_false h2) ?_
  rw [optE_some h2] at k
  dsimp only at k
  have hx := V0.at_ (i := 0) (by decide) h2
  have hN : a.natAbs < 2 ^ 64 := by omega
  rw [against_ans hx hN] at k
  refine ⟨_,rfl,_,rfl,r,C,dx,_,_,rfl,hr',T.cl,T.nR,fG_r _ _ _ _,l,_,0,_,rfl,rfl,SqL.of R.ls,len8 R.n8 (by decide) (by decide),_,rfl,a,rfl,hN,fun H1 S1 => ?_⟩
  rw [whole_eq hN]
  exact ⟨r,l,st,st.regs.getD 0 0,Rd20.exact (Rd20.ofInt a),1,rfl,R.same S1,V0,hx,(whole_like hN).1,k.part (Keep.of_same R S1)⟩
theorem ok_kind0 (F : Src K mg "kind_without_sign" s_kind_without_sign ["number"]) (f_is_infinite : Fn P w K mg base "is_infinite" 2 ["number"] (spNat fun x => .bl (infE x))) (f_is_zero : Fn P w K mg base "is_zero" 3 ["number"] (spNat fun x => .bl (decide (x % 2 ^ 79 = 0)))) (f_is_small : Fn P w K mg base "is_small" 2 ["number"] (spNat fun x => .bl (Rd20.small x)))
  (c_KIND_INFINITE : Con1 mg "KIND_INFINITE" (.int 1)) (c_KIND_ZERO : Con1 mg "KIND_ZERO" (.int 2)) (c_KIND_SMALL : Con1 mg "KIND_SMALL" (.int 3)) (c_KIND_OTHER : Con1 mg "KIND_OTHER" (.int 4)) : Fn P w K mg base "kind_without_sign" 4 ["number"] (spNat fun x => .int (kind0 x)) := by
 refine F.fn sc_kind_without_sign (fun vs H Q E h => ?_) (fun f cdv A outer s H vs Q E hr h => ?_)
 ·obtain ⟨x,rfl,_⟩ := h
  rfl
 ·obtain ⟨x,rfl,hx,k⟩ := h
  refine ⟨_,(pss_cons (ps_if (pt_val (pf f_is_infinite hr (pa_cons (pv 0) pa_nil))) (pss_one (ps_ret (pe_c1 c_KIND_INFINITE rfl))) pss_nil)
    (pss_cons (ps_if (pt_val (pf f_is_zero hr (pa_cons (pv 0) pa_nil))) (pss_one (ps_ret (pe_c1 c_KIND_ZERO rfl))) pss_nil)
    (pss_one (ps_ret (pe_ifExp (pt_val (pf f_is_small hr (pa_cons (pv 0) pa_nil))) (pe_c1 c_KIND_SMALL rfl) (pe_c1 c_KIND_OTHER rfl)))))),?_⟩
  unfold kind0 at k
  dsimp only at k
  refine ⟨_,rfl,x,rfl,hx,_,rfl,?_⟩
  by_cases h1 : infE x = true
  ·rw [if_pos h1] at k
   exact br_t h1 k
  ·rw [if_neg h1] at k
   refine br_f (by simpa using h1) ⟨_,rfl,x,rfl,hx,_,rfl,?_⟩
   by_cases h2 : x % 2 ^ 79 = 0
   ·rw [if_pos h2] at k
    exact br_t (decide_eq_true h2) k
   ·rw [if_neg h2] at k
    refine br_f (decide_eq_false h2) ⟨_,rfl,x,rfl,hx,_,rfl,?_⟩
    by_cases h3 : Rd20.small x = true
    ·rw [if_pos h3] at k
     exact br_t h3 k
    ·rw [if_neg h3] at k
     exact br_f (by simpa using h3) k
theorem ok_call_kind (F : Src K mg "call_kind" s_call_kind ["ring","given"]) (T : CG K C) (m_Ring_is_empty : Mtd P w K mg base C "is_empty" 1 ["self","i"] (spIsEmpty C)) (c_NONE : Con1 mg "NONE" (.int NONEn)) (c_KIND_EMPTY : Con1 mg "KIND_EMPTY" (.int 16)) (c_KIND_NONE : Con1 mg "KIND_NONE" (.int 0)) (c_KIND_WITH_MINUS : Con1 mg "KIND_WITH_MINUS" (.int 8)) (f_kind_without_sign : Fn P w K mg base "kind_without_sign" 4 ["number"] (spNat fun x => .int (kind0 x))) (f_sign_of : Fn P w K mg base "sign_of" 1 ["number"] (spNat fun x => .int (ob (Rd20.signOf x)))) : Fn P w K mg base "call_kind" 5 ["ring","given"] (spCall C fun zs q => q = .kind) := by
 have cl_Ring := T.cl
 refine F.fn sc_call_kind (fun vs H Q E h => ?_) (fun f cdv A outer s H vs Q E hr h => ?_)
 ·obtain ⟨r,g,l,s,zs,q,rfl,_⟩ := h
  rfl
 ·obtain ⟨r,g,l,st,zs,q,rfl,R,V0,hg,hgl,rfl,k⟩ := h
  obtain ⟨dx,hr'⟩ := R.ob
  refine ⟨_,(pss_cons (ps_if (pt_val (pe_mt (pv 0) cl_Ring m_Ring_is_empty (hr.mono (by decide)) (pa_cons pe_int pa_nil))) (pss_one (ps_ret (pe_lst (pa_cons (pe_c1 c_KIND_EMPTY rfl) pa_nil)))) pss_nil)
    (pss_cons (ps_set (i := 2) sc_call_kind.nd rfl (Or.inl rfl) (pe_ix ix_list (pe_fld (pv 0) rfl) pe_int (fun _ _ => rfl)))
    (pss_cons (ps_if (pt_cmpR op_eq (pv 2) (pe_c1 c_NONE rfl) (nomark _)) (pss_one (ps_ret (pe_lst (pa_cons (pe_c1 c_KIND_NONE rfl) pa_nil)))) pss_nil)
    (pss_one (ps_ret (pe_lst (pa_cons (pe_op op_add (pf f_kind_without_sign hr (pa_cons (pv 2) pa_nil)) (pe_op op_mulB (pe_c1 c_KIND_WITH_MINUS rfl) (pf f_sign_of hr (pa_cons (pv 2) pa_nil)))) pa_nil))))))),?_⟩
  rw [does_kind] at k
  rw [show Rd20.reg (absE st) 0 = optE (st.regs.getD 0 0) from reg_abs V0.n8 (by decide) (by decide)] at k
  refine ⟨_,rfl,r,dx,_,rfl,hr',rfl,r,l,st,0,rfl,R,by decide,by decide,_,rfl,?_⟩
  by_cases h2 : st.regs.getD 0 0 = EMn
  ·rw [optE_none h2] at k
   exact br_t (decide_eq_true h2) ⟨by show 1 ≤ 16777216; decide,k.fin R V0 (Keep.refl R) rfl rfl⟩
  refine br_f (decide_eq_false h2) ?_
  rw [optE_some h2] at k
  dsimp only at k
  have hx := V0.at_ (i := 0) (by decide) h2
  refine ⟨_,rfl,r,C,dx,_,_,rfl,hr',T.cl,T.nR,fG_r _ _ _ _,l,_,0,_,rfl,rfl,SqL.of R.ls,len8 R.n8 (by decide) (by decide),?_⟩
  refine ⟨_,rfl,rfl,_,rfl,?_⟩
  by_cases hn : st.regs.getD 0 0 = NONEn
  ·have e1 : Rd20.kindOf (st.regs.getD 0 0) = 0 := by unfold Rd20.kindOf; rw [(worth_nan hx).mpr hn]
   rw [e1] at k
   exact br_t (dV_t (by rw [← hn]; rfl)) ⟨by show 1 ≤ 16777216; decide,k.fin R V0 (Keep.refl R) rfl rfl⟩
  ·refine br_f (dV_f ?_) ?_
   ·show ¬ ((st.regs.getD 0 0 : Nat) : Int) = (NONEn : Int)
    omega
   rw [← kind_eq hx hn] at k
   refine ⟨_,rfl,st.regs.getD 0 0,rfl,hx.1,_,rfl,st.regs.getD 0 0,rfl,hx.1,_,_,rfl,rfl,⟨fit_small (by decide),fit_small (by cases Rd20.signOf (st.regs.getD 0 0) <;> decide)⟩,_,_,rfl,rfl,by show 1 ≤ 16777216; decide,?_⟩
   exact k.fin R V0 (Keep.refl R) rfl rfl
end
abbrev s_answer_of_move : Stmt := top 102
theorem sc_answer_of_move : FnScope ["call","ring","given"] ["call","ring","given"] (defScope s_answer_of_move) := ⟨rfl,rfl,rfl,by decide +kernel,rfl,by decide +kernel,by decide +kernel⟩
abbrev s_answer_of_reckoning : Stmt := top 167
theorem sc_answer_of_reckoning : FnScope ["call","ring","given"] ["call","ring","given"] (defScope s_answer_of_reckoning) := ⟨rfl,rfl,rfl,by decide +kernel,rfl,by decide +kernel,by decide +kernel⟩
abbrev s_numbers_given : Stmt := top 172
theorem sc_numbers_given : FnScope ["calls","place","count"] ["calls","place"] (defScope s_numbers_given) := ⟨rfl,rfl,rfl,by decide +kernel,rfl,by decide +kernel,by decide +kernel⟩
abbrev s_answer_of : Stmt := top 173
theorem sc_answer_of : FnScope ["call","ring","given"] ["call","ring","given"] (defScope s_answer_of) := ⟨rfl,rfl,rfl,by decide +kernel,rfl,by decide +kernel,by decide +kernel⟩
abbrev s_answers : Stmt := top 174
theorem sc_answers : FnScope ["calls","ring","told","place","given","answer"] ["calls"] (defScope s_answers) := ⟨rfl,rfl,rfl,by decide +kernel,rfl,by decide +kernel,by decide +kernel⟩
def spGiven (K : PySem.W.Frag) : Sp := fun vs H Q _ => ∃ (a : Addr) (ns : List Int) (j : Nat) (p : Int) (g t : List Int) (q : Rd20.Call),vs = [.ref a,.int j] ∧ SqL K H a (ns.map V.int) ∧ ns.drop j = p :: (g ++ t) ∧ Sh p g q ∧ ∀ b,H b = none → Q (.ref b) (upd H b (.lst (g.map V.int)))
def GIVENL : List Int := [0,2,1,0,1,1,1,1,0,1,0,1,1,1,3,0,0,0,0,1,1,2,1,0]
theorem given_at {p : Int} {g : List Int} {q : Rd20.Call} (h : Sh p g q) : atI (GIVENL.map V.int) p = some (.int (if p = 4 then 1 else (g.length : Int))) := by
 cases h <;> rfl
theorem Sh.load_len {g : List Int} {q : Rd20.Call} (h : Sh 4 g q) : ∃ g',g = 10 :: g' ∧ g'.length = 10 := by
 cases h with
 | load bs h1 h2 => exact ⟨_,rfl,by rw [List.length_map]; exact h1⟩
theorem drop_get {α : Type} {l : List α} {j : Nat} {x : α} {r : List α} (h : l.drop j = x :: r) : l[j]? = some x ∧ l.drop (j + 1) = r := by
 have h1 : (l.drop j)[0]? = some x := by rw [h]; rfl
 rw [List.getElem?_drop] at h1
 refine ⟨by simpa using h1,?_⟩
 have h2 : (l.drop j).drop 1 = r := by rw [h]; rfl
 rw [List.drop_drop] at h2
 exact h2
theorem cut_mid {ns : List Int} {j c : Nat} {g t : List Int} (h : ns.drop (j + 1) = g ++ t) (hc : g.length = c) : cutV (ns.map V.int) (some ((j : Int) + 1)) (some ((j : Int) + 1 + (c : Int))) = g.map V.int := by
 have hl : ns.length - (j + 1) = g.length + t.length := by rw [← List.length_drop,h,List.length_append]
 unfold cutV
 rw [List.length_map]
 have e0 : (j : Int) + 1 = ((j + 1 : Nat) : Int) := by omega
 have e1 : (j : Int) + 1 + (c : Int) = ((j + 1 + c : Nat) : Int) := by omega
 rw [e1,e0,HT.sIx_nat,HT.sIx_nat,← List.map_drop]
 by_cases hz : g.length + t.length = 0
 ·have hg : g = [] := List.eq_nil_of_length_eq_zero (by omega)
  have hd : ns.drop (min (j + 1) ns.length) = [] := List.drop_eq_nil_of_le (by omega)
  rw [hd,hg]
  simp
 ·have e2 : min (j + 1) ns.length = j + 1 := by omega
  have e3 : min (j + 1 + c) ns.length - (j + 1) = c := by omega
  rw [e2,e3,h,← List.map_take,List.take_left' hc]
section
variable {P : Program} {w : World} {K : PySem.W.Frag} {mg : Str → Option Value} {base : Heap} {C DG DM DR : Addr}
theorem ok_given (F : Src K mg "numbers_given" s_numbers_given ["calls","place"]) (c_GIVEN : Con1 mg "GIVEN" (.ref DG)) (hG : TupN K DG GIVENL) (c_LOAD : Con1 mg "LOAD" (.int 4)) : Fn P w K mg base "numbers_given" 1 ["calls","place"] (spGiven K) := by
 refine F.fn sc_numbers_given (fun vs H Q E h => ?_) (fun f cdv A outer s H vs Q E hr h => ?_)
 ·obtain ⟨a,ns,j,p,g,t,q,rfl,_⟩ := h
  rfl
 ·obtain ⟨a,ns,j,p,g,t,q,rfl,hS,hd,sh,k⟩ := h
  obtain ⟨h1,h2⟩ := drop_get hd
  have hat : atI (ns.map V.int) (j : Int) = some (.int p) := atI_nat (by rw [List.getElem?_map,h1]; rfl)
  refine ⟨_,(pss_cons (ps_set (i := 2) sc_numbers_given.nd rfl (Or.inl rfl) (pe_ix ix_tup (pe_c1 c_GIVEN rfl) (pe_ix ix_list (pv 0) (pv 1) (fun _ _ => rfl)) (fun _ _ => rfl)))
    (pss_cons (ps_if (pt_cmpR op_eq (pe_ix ix_list (pv 0) (pv 1) (fun _ _ => rfl)) (pe_c1 c_LOAD rfl) (nomark _)) (pss_one (ps_set (i := 2) sc_numbers_given.nd rfl (Or.inl rfl) (pe_op op_add (pv 2) (pe_ix ix_list (pv 0) (pe_op op_add (pv 1) pe_int) (fun _ _ => rfl))))) pss_nil)
    (pss_one (ps_ret (pe_slice sl_list (pv 0) (po_some (pe_op op_add (pv 1) pe_int)) (po_some (pe_op op_add (pe_op op_add (pv 1) pe_int) (pv 2)))))))),?_⟩
  refine ⟨_,rfl,_,rfl,a,_,j,_,rfl,rfl,hS,hat,DG,_,p,_,rfl,rfl,hG.sq H,given_at sh,?_⟩
  refine ⟨_,rfl,_,rfl,a,_,j,_,rfl,rfl,hS,hat,rfl,_,rfl,?_⟩
  refine br2 (fun h => ?_) (fun h => ?_)
  ·have hp : p = 4 := dV_iff.mp h
   subst hp
   obtain ⟨g',rfl,hg'⟩ := sh.load_len
   have h3 : ns[j + 1]? = some 10 := (drop_get h2).1
   have hat2 : atI (ns.map V.int) ((j : Int) + 1) = some (.int 10) := by
    have e : (j : Int) + 1 = ((j + 1 : Nat) : Int) := by omega
    rw [e]
    exact atI_nat (by rw [List.getElem?_map,h3]; rfl)
   rw [if_pos rfl]
   refine ⟨_,rfl,_,rfl,_,rfl,_,_,rfl,rfl,a,_,_,_,rfl,rfl,hS,hat2,_,_,rfl,rfl,?_⟩
   refine ⟨_,rfl,_,rfl,_,_,rfl,rfl,_,rfl,_,rfl,_,_,rfl,rfl,_,rfl,_,_,rfl,rfl,_,rfl,a,_,rfl,hS,?_⟩
   have e := cut_mid (c := 11) h2 (by rw [List.length_cons,hg'])
   intro b hb
   have e' : cutV (ns.map V.int) (some ((j : Int) + 1)) (some ((j : Int) + 1 + (1 + 10))) = (10 :: g').map V.int := e
   rw [e']
   exact k b hb
  ·have hp : ¬ p = 4 := fun e => by rw [dV_t e] at h; cases h
   rw [if_neg hp]
   refine ⟨_,rfl,_,rfl,_,_,rfl,rfl,_,rfl,_,rfl,_,_,rfl,rfl,_,rfl,_,_,rfl,rfl,_,rfl,a,_,rfl,hS,?_⟩
   have e := cut_mid (c := g.length) h2 rfl
   intro b hb
   rw [e]
   exact k b hb
def CallsOn (N : Nat) (Rg : Int → Prop) (P : Program) (w : World) (K : PySem.W.Frag) (mg : Str → Option Value) (base : Heap) (C D : Addr) : Prop := ∃ kvs,KDict K D kvs ∧ ∀ p g q,Sh p g q → Rg p → ∃ (f : Addr) (k : Nat) (fd : FuncData) (ps : List Str) (sp : Sp),(kvs.find? fun kv => kv.1 = p).map (·.2) = some (.ref f) ∧ k ≤ N ∧
 FnOk P w K mg base CX0 k f fd ps sp ∧ PySem.W.keepIn K (.ref f) = true ∧ Binds K fd ps [] ∧
 ∀ r b l s H Q,RingAt C H r l s → Valid s → H b = some (.lst (g.map V.int)) → b ≠ l → Done C H r l (Rd20.does (absE s) q) Q → sp [.ref r,.ref b] H Q E0
def spAnsOf (C : Addr) (Rg : Int → Prop) : Sp := fun vs H Q _ => ∃ p g q r b l s,vs = [.int p,.ref r,.ref b] ∧ Sh p g q ∧ Rg p ∧ RingAt C H r l s ∧ Valid s ∧ H b = some (.lst (g.map V.int)) ∧ b ≠ l ∧ Done C H r l (Rd20.does (absE s) q) Q
def isMove (p : Int) : Prop := p ≤ 13
def isReck (p : Int) : Prop := ¬ p ≤ 13
theorem ok_move (F : Src K mg "answer_of_move" s_answer_of_move ["call","ring","given"]) (c_MOVES : Con1 mg "MOVES" (.ref DM)) (hMo : CallsOn 9 isMove P w K mg base C DM) : Fn P w K mg base "answer_of_move" 10 ["call","ring","given"] (spAnsOf C isMove) := by
 refine F.fn sc_answer_of_move (fun vs H Q E h => ?_) (fun f cdv A outer s H vs Q E hr h => ?_)
 ·obtain ⟨p,g,q,r,b,l,s,rfl,_⟩ := h
  rfl
 ·obtain ⟨p,g,q,r,b,l,st,rfl,sh,hR,R,V0,hb,hbl,k⟩ := h
  obtain ⟨kvs,kd,hC⟩ := hMo
  obtain ⟨fc,kk,fd,ps,sp,hfind,hkk,hF,hkp,hbd,hsp⟩ := hC p g q sh hR
  refine ⟨_,(pss_one (ps_ret (pe_callV (pe_kget (pe_c1 c_MOVES rfl) (pv 0) (fun _ _ => rfl)) pass0 (pa_cons (pv 1) (pa_cons (pv 2) pa_nil))))),?_⟩
  refine ⟨_,rfl,DM,kvs,p,.ref fc,.ref fc,rfl,rfl,kd,hfind,rfl,fc,sp,rfl,⟨kk,fd,ps,hF,hr.mono (Nat.le_trans hkk (by decide)),hkp,hbd⟩,_,rfl,_,rfl,?_⟩
  exact hsp r b l st H _ R V0 hb hbl k
theorem ok_reck (F : Src K mg "answer_of_reckoning" s_answer_of_reckoning ["call","ring","given"]) (c_RECKONINGS : Con1 mg "RECKONINGS" (.ref DR)) (hRe : CallsOn 11 isReck P w K mg base C DR) : Fn P w K mg base "answer_of_reckoning" 12 ["call","ring","given"] (spAnsOf C isReck) := by
 refine F.fn sc_answer_of_reckoning (fun vs H Q E h => ?_) (fun f cdv A outer s H vs Q E hr h => ?_)
 ·obtain ⟨p,g,q,r,b,l,s,rfl,_⟩ := h
  rfl
 ·obtain ⟨p,g,q,r,b,l,st,rfl,sh,hR,R,V0,hb,hbl,k⟩ := h
  obtain ⟨kvs,kd,hC⟩ := hRe
  obtain ⟨fc,kk,fd,ps,sp,hfind,hkk,hF,hkp,hbd,hsp⟩ := hC p g q sh hR
  refine ⟨_,(pss_one (ps_ret (pe_callV (pe_kget (pe_c1 c_RECKONINGS rfl) (pv 0) (fun _ _ => rfl)) pass0 (pa_cons (pv 1) (pa_cons (pv 2) pa_nil))))),?_⟩
  refine ⟨_,rfl,DR,kvs,p,.ref fc,.ref fc,rfl,rfl,kd,hfind,rfl,fc,sp,rfl,⟨kk,fd,ps,hF,hr.mono (Nat.le_trans hkk (by decide)),hkp,hbd⟩,_,rfl,_,rfl,?_⟩
  exact hsp r b l st H _ R V0 hb hbl k
theorem ok_answer_of (F : Src K mg "answer_of" s_answer_of ["call","ring","given"]) (c_LAST_MOVE : Con1 mg "LAST_MOVE" (.int 13)) (f_answer_of_move : Fn P w K mg base "answer_of_move" 10 ["call","ring","given"] (spAnsOf C isMove)) (f_answer_of_reckoning : Fn P w K mg base "answer_of_reckoning" 12 ["call","ring","given"] (spAnsOf C isReck)) :
  Fn P w K mg base "answer_of" 13 ["call","ring","given"] (spAnsOf C fun _ => True) := by
 refine F.fn sc_answer_of (fun vs H Q E h => ?_) (fun f cdv A outer s H vs Q E hr h => ?_)
 ·obtain ⟨p,g,q,r,b,l,s,rfl,_⟩ := h
  rfl
 ·obtain ⟨p,g,q,r,b,l,st,rfl,sh,_,R,V0,hb,hbl,k⟩ := h
  refine ⟨_,(pss_cons (ps_if (pt_cmpR op_le (pv 0) (pe_c1 c_LAST_MOVE rfl) (nomark _)) (pss_one (ps_ret (pf f_answer_of_move hr (pa_cons (pv 0) (pa_cons (pv 1) (pa_cons (pv 2) pa_nil)))))) pss_nil)
    (pss_one (ps_ret (pf f_answer_of_reckoning hr (pa_cons (pv 0) (pa_cons (pv 1) (pa_cons (pv 2) pa_nil))))))),?_⟩
  refine ⟨_,rfl,_,_,rfl,rfl,_,rfl,?_⟩
  refine br2 (fun h => ?_) (fun h => ?_)
  ·exact ⟨_,rfl,_,rfl,_,rfl,p,g,q,r,b,l,st,rfl,sh,(show p ≤ 13 from of_decide_eq_true h),R,V0,hb,hbl,k⟩
  ·exact ⟨_,rfl,_,rfl,_,rfl,p,g,q,r,b,l,st,rfl,sh,(show ¬ p ≤ 13 from of_decide_eq_false h),R,V0,hb,hbl,k⟩
theorem asked_raw {ns : List Int} (h : PyRd20.answers_asked ns = true) : ∃ raw,PyFlat.calls PyRd20.shape ns.length ns = some raw ∧ (∀ c ∈ raw,Rd20Neutral.asked1 (PyRd20.whole c) = true) ∧ PyRd20.answers ns = PyFlat.told (PyFlat.played Rd20Neutral.step {} (raw.map PyRd20.whole)) ∧ (PyRd20.answers ns).length ≤ 10000000 := by
 unfold PyRd20.answers_asked at h
 cases e : PyFlat.calls PyRd20.shape ns.length ns with
 | none => rw [e] at h; cases h
 | some raw =>
  rw [e] at h
  dsimp only at h
  rw [Bool.and_eq_true,Bool.and_eq_true] at h
  refine ⟨raw,rfl,?_,?_,?_⟩
  ·have h1 := h.1.2
   unfold Rd20Neutral.asked at h1
   rw [Bool.and_eq_true,Bool.and_eq_true] at h1
   intro c hc
   exact List.all_eq_true.mp h1.1.1 _ (List.mem_map_of_mem hc)
  ·unfold PyRd20.answers PyRd20.calls
   rw [e]
   rfl
  ·exact of_decide_eq_true h.2
def spAnswers (K : PySem.W.Frag) : Sp := fun vs H Q _ => ∃ (a : Addr) (ns : List Int),vs = [.ref a] ∧ SqL K H a (ns.map V.int) ∧ ns.length ≤ 16000 ∧ PyRd20.answers_asked ns = true ∧ ∀ H' p,H' p = some (.lst ((PyRd20.answers ns).map V.int)) → Q (.ref p) H'
theorem Keep.under {H0 H H' : Hp} {r l l' : Addr} (k : Keep H H' r l l') (b : ∀ c o,H0 c = some o → H c = some o) (hr : H0 r = none) (hl : H0 l = none) : (∀ c o,H0 c = some o → H' c = some o) ∧ H0 l' = none := by
 refine ⟨fun c o e => k.keep c o (b c o e) (ne_of_none e hr) (ne_of_none e hl),?_⟩
 rcases k.new with h | h
 ·rw [h]; exact hl
 ·cases e : H0 l' with
  | none => rfl
  | some o => rw [b l' o e] at h; cases h
theorem sq_under {H0 H : Hp} {a : Addr} {xs : List V} (h : SqL K H0 a xs) (b : ∀ c o,H0 c = some o → H c = some o) : SqL K H a xs := Same.seq b h
structure Loop (K : PySem.W.Frag) (C : Addr) (H0 : Hp) (a r t : Addr) (ns : List Int) (j : Nat) (H : Hp) : Prop where
 ex : ∃ l s acc raw f,PyFlat.calls PyRd20.shape f (ns.drop j) = some raw ∧ ns.length - j ≤ f ∧ (∀ c ∈ raw,Rd20Neutral.asked1 (PyRd20.whole c) = true) ∧ RingAt C H r l s ∧ Valid s ∧ H t = some (.lst (acc.map V.int)) ∧ (∀ c o,H0 c = some o → H c = some o) ∧ H0 l = none ∧ t ≠ l ∧
  PyRd20.answers ns = acc ++ PyFlat.told (PyFlat.played Rd20Neutral.step (absE s) (raw.map PyRd20.whole))
 jl : j ≤ ns.length
theorem ansV_int (a : Rd20.Ans) : ansV a = (ansI a).map V.int := by
 unfold ansV ansI
 rw [List.map_cons,List.map_map]
 rfl
theorem ok_answers {fa : Addr} {fda : FuncData} (F : Fun K "answers" "answers" s_answers fa fda) (k_Ring : Cla P w K mg base "Ring" C 2 ["self"] (spRInit C)) (n_len : mg "len" = none) (f_numbers_given : Fn P w K mg base "numbers_given" 1 ["calls","place"] (spGiven K)) (f_answer_of : Fn P w K mg base "answer_of" 13 ["call","ring","given"] (spAnsOf C fun _ => True)) :
  FnOk P w K mg base CX0 14 fa fda ["calls"] (spAnswers K) := by
 refine F.ok sc_answers (fun vs H Q E h => ?_) (fun cdv A outer s H vs Q E hr h => ?_)
 ·obtain ⟨a,ns,rfl,_⟩ := h
  rfl
 ·obtain ⟨a,ns,rfl,hS,hl,ha,k⟩ := h
  obtain ⟨raw0,q1,q2,q3,q4⟩ := asked_raw ha
  refine ⟨_,(pss_cons (ps_set (i := 1) sc_answers.nd rfl (Or.inl rfl) (pn0 k_Ring hr))
    (pss_cons (ps_set (i := 2) sc_answers.nd rfl (Or.inl rfl) (pe_lst pa_nil))
    (pss_cons (ps_set (i := 3) sc_answers.nd rfl (Or.inl rfl) pe_int)
    (pss_cons (ps_while PassesOwn.never (pt_cmpR op_lt (pv 3) (pe_callB call_len_seq (by rfl) n_len b_len (pa_cons (pv 0) pa_nil)) (nomark _)) (pss_cons (ps_set (i := 4) sc_answers.nd rfl (Or.inl rfl) (pf f_numbers_given hr (pa_cons (pv 0) (pa_cons (pv 3) pa_nil))))
    (pss_cons (ps_set (i := 5) sc_answers.nd rfl (Or.inl rfl) (pf f_answer_of hr (pa_cons (pe_ix ix_list (pv 0) (pv 3) (fun _ _ => rfl)) (pa_cons (pv 1) (pa_cons (pv 4) pa_nil)))))
    (pss_cons (ps_expr (pe_bm PySem.F.plainAttrs_list PySem.F.slot_list_append PySem.F.type_list_append mt_append (pv 2) (pa_cons (pe_callB call_len_seq (by rfl) n_len b_len (pa_cons (pv 5) pa_nil)) pa_nil)))
    (pss_cons (ps_expr (pe_bm PySem.F.plainAttrs_list PySem.F.slot_list_extend PySem.F.type_list_extend mt_extend (pv 2) (pa_cons (pv 5) pa_nil)))
    (pss_one (ps_set (i := 3) sc_answers.nd rfl (Or.inl rfl) (pe_op op_add (pe_op op_add (pv 3) pe_int) (pe_callB call_len_seq (by rfl) n_len b_len (pa_cons (pv 4) pa_nil))))))))))
    (pss_one (ps_ret (pv 2))))))),?_⟩
  intro r dr nr nd ne
  refine ⟨r,dr,rfl,upd_same,fun H1 l1 R1 kp1 nl1 => ⟨rfl,?_⟩⟩
  have b1 : ∀ c o,H c = some o → H1 c = some o := Same.made nr nd kp1
  have hl1 : H l1 = none := by
   have : l1 ≠ r := fun e => by rw [e,upd_same] at nl1; cases nl1
   rw [upd_ne this] at nl1
   by_cases hd : l1 = dr
   ·rw [hd]; exact nd
   ·rw [upd_ne hd] at nl1; exact nl1
  refine ⟨Nat.zero_le _,fun t nt => ?_⟩
  have S2 : Same H1 (upd H1 t (.lst [])) := same_new nt
  have R2 := R1.same S2
  have hr1 : H1 r ≠ none := by obtain ⟨d,e⟩ := R1.ob; rw [e]; exact sne
  have htr : t ≠ r := fun e => by rw [e] at nt; exact hr1 nt
  have ht0 : H t = none := by
   cases e : H t with
   | none => rfl
   | some o => rw [b1 t o e] at nt; cases nt
  refine while_by (fun σ H' => ∃ (j : Nat) (gv av : Option V),σ = [some (.ref a),some (.ref r),some (.ref t),some (.int j),gv,av] ∧ Loop K C H a r t ns j H') (fun σ _ => match σ with
   | [_,_,_,some (.int j),_,_] => ns.length - j.toNat
   | _ => 0) ⟨0,none,none,rfl,⟨l1,rs0,[],raw0,ns.length,by rw [List.drop_zero]; exact q1,Nat.sub_le _ _,q2,R2,valid0,upd_same,fun c o e => S2 _ _ (b1 c o e),hl1,Ne.symm (ne_of_none R1.ls nt),by rw [abs0,List.nil_append]; exact q3⟩,Nat.zero_le _⟩ ?_ ?_
  ·rintro σ H2 ⟨j,gv,av,rfl,⟨l,st,acc,raw,f,p1,p2,p3,R,V0,ht,bs,hl0,htl,pa⟩,hj⟩
   have hS2 := sq_under hS bs
   refine ⟨_,rfl,_,rfl,a,_,rfl,.inl hS2,_,_,rfl,rfl,_,rfl,?_⟩
   rw [List.length_map]
   refine br2 (fun h => ?_) (fun h => ?_)
   ·have hjl : j < ns.length := by have := of_decide_eq_true h; omega
    have hne : ns.drop j ≠ [] := fun e => by have := congrArg List.length e; rw [List.length_drop] at this; simp at this; omega
    match hdr : ns.drop j,hne with
    | [],hne => exact absurd rfl hne
    | p0 :: r0,_ =>
     rw [hdr] at p1
     match f,p1,p2 with
     | 0,p1,p2 => omega
     | f + 1,p1,p2 =>
      obtain ⟨g,t',q,raw',hd⟩ := decode1 p1 p3
      have hdg : ns.drop j = p0 :: (g ++ t') := by rw [hdr,hd.r]
      obtain ⟨hg1,hg2⟩ := drop_get hdg
      have hat : atI (ns.map V.int) (j : Int) = some (.int p0) := atI_nat (by rw [List.getElem?_map,hg1]; rfl)
      refine ⟨_,rfl,_,rfl,a,ns,j,p0,g,t',q,rfl,hS2,hdg,hd.sh,fun b nb => ?_⟩
      have S3 : Same H2 (upd H2 b (.lst (g.map V.int))) := same_new nb
      have R3 := R.same S3
      have hS3 := Same.seq S3 hS2
      have hbl : b ≠ l := Ne.symm (ne_of_none R.ls nb)
      have hrr : H2 r ≠ none := by obtain ⟨d,e⟩ := R.ob; rw [e]; exact sne
      have hbr : b ≠ r := fun e => by rw [e] at nb; exact hrr nb
      have hbt : b ≠ t := Ne.symm (ne_of_none ht nb)
      have hb3 : upd H2 b (.lst (g.map V.int)) b = some (.lst (g.map V.int)) := upd_same
      have ht3 := S3 _ _ ht
      have bs3 : ∀ c o,H c = some o → upd H2 b (.lst (g.map V.int)) c = some o := fun c o e => S3 _ _ (bs c o e)
      have r0n : H r = none := nr
      generalize upd H2 b (.lst (g.map V.int)) = H3 at *
      refine ⟨_,rfl,_,rfl,a,_,j,_,rfl,rfl,hS3,hat,_,rfl,_,rfl,p0,g,q,r,b,l,st,rfl,hd.sh,trivial,R3,V0,hb3,hbl,fun H4 l4 p s4 R4 V4 e4 K4 n4 hpl hp => ?_⟩
      have ht4 := K4.keep t _ ht3 htr htl
      have hb4 := K4.keep b _ hb3 hbr hbl
      obtain ⟨bs4,hl4⟩ := K4.under bs3 r0n hl0
      have htp : t ≠ p := ne_of_none ht3 n4
      have htl4 : t ≠ l4 := by
       rcases K4.new with h | h
       ·rw [h]; exact htl
       ·exact ne_of_none ht3 h
      have hlen : (ansV (Rd20.does (absE st) q).2).length = (ansI (Rd20.does (absE st) q).2).length := by rw [ansV_int,List.length_map]
      have hstep := hd.step (absE st) []
      rw [List.append_nil,List.append_nil] at hstep
      rw [hstep] at pa
      have hcount : (acc ++ ((ansI (Rd20.does (absE st) q).2).length : Int) :: ansI (Rd20.does (absE st) q).2).length ≤ 10000000 := by
       have := q4
       rw [pa] at this
       simp only [List.length_append,List.length_cons] at this ⊢
       omega
      simp only [List.length_append,List.length_cons] at hcount
      refine ⟨_,rfl,.inl ⟨rfl,_,SqL.of ht4⟩,_,rfl,p,_,rfl,.inl (SqL.of hp),t,_,_,rfl,rfl,ht4,(by rw [List.length_map]; show acc.length < 16777216; omega),?_⟩
      refine ⟨_,rfl,.inl ⟨rfl,_,SqL.of upd_same⟩,_,rfl,t,p,_,_,rfl,rfl,upd_same,(by rw [upd_ne (Ne.symm htp)]; exact hp),(by rw [List.length_append,List.length_map,hlen]; show acc.length + 1 + (ansI (Rd20.does (absE st) q).2).length ≤ 16777216; omega),?_⟩
      refine ⟨_,rfl,_,_,rfl,rfl,_,rfl,b,_,rfl,.inl (SqL.of (by rw [upd_ne hbt,upd_ne hbt]; exact hb4)),_,_,rfl,rfl,?_⟩
      have hjn : j + 1 + g.length ≤ ns.length := by
       have := congrArg List.length hdg
       rw [List.length_drop,List.length_cons,List.length_append] at this
       omega
      have ej : (j : Int) + 1 + (((g.map V.int).length : Nat) : Int) = ((j + 1 + g.length : Nat) : Int) := by rw [List.length_map]; omega
      have htd : ns.drop (j + 1 + g.length) = t' := by
       rw [← List.drop_drop,hg2,List.drop_left]
      dsimp only
      rw [ej]
      refine ⟨⟨j + 1 + g.length,_,_,rfl,⟨l4,s4,acc ++ ((ansI (Rd20.does (absE st) q).2).length : Int) :: ansI (Rd20.does (absE st) q).2,raw',f,by rw [htd]; exact hd.rest,by omega,hd.ask,?_,V4,?_,?_,hl4,htl4,?_⟩,hjn⟩,?_⟩
      ·refine ⟨?_,by rw [upd_ne (Ne.symm htl4),upd_ne (Ne.symm htl4)]; exact R4.ls,R4.n8⟩
       obtain ⟨d,e⟩ := R4.ob
       exact ⟨d,by rw [upd_ne (Ne.symm htr),upd_ne (Ne.symm htr)]; exact e⟩
      ·rw [upd_same,hlen,ansV_int]
       simp only [List.map_append,List.map_cons,List.append_assoc,List.cons_append,List.nil_append]
      ·intro c o e
       have hct : c ≠ t := ne_of_none e ht0
       rw [upd_ne hct,upd_ne hct]
       exact bs4 c o e
      ·rw [pa,e4]
       simp only [List.append_assoc,List.cons_append]
      ·show ns.length - (((j + 1 + g.length : Nat) : Int)).toNat < ns.length - ((j : Nat) : Int).toNat
       rw [Int.toNat_natCast,Int.toNat_natCast]
       omega
   ·have hjl : ¬ j < ns.length := by have := of_decide_eq_false h; omega
    have hz : ns.drop j = [] := List.drop_eq_nil_of_le (by omega)
    rw [hz] at p1
    have hraw : raw = [] := by
     cases f <;> exact (Option.some.inj p1).symm
    subst hraw
    have pa' : PyRd20.answers ns = acc := by rw [pa]; exact List.append_nil _
    refine ⟨_,rfl,k H2 t ?_⟩
    rw [pa']
    exact ht
  ·rintro σ H2 Q1 Q2 hm ⟨v,h1,w',h2,p,ys,h3,h4,i,j,h5,h6,z,h7,h8⟩
   exact ⟨v,h1,w',h2,p,ys,h3,h4,i,j,h5,h6,z,h7,hm _ _ h8⟩
end
section
variable {K : PySem.W.Frag} {h : Heap} {mg : Str → Option Value} {x m qual : Str} {st : Stmt} {ps : List Str} {f C D : Addr} {od an : Option Addr} {sl : Array (Option Value)} {oc kV dc pm cd ct : Value}
theorem src_of (hb : ∀ (kV doc pm : Value) (an : Option Addr) (cdv ct : Value) (us : List Value),us.length = ps.length → bindArgs (PySem.W.fnOf x x (defArgs st) (defBody st) (defScope st) .none kV doc pm an cdv ct) ⟨us,[]⟩ = pure (ps.zip us)) (X : K.In h) (G : h.Ns mainGlobals mg)
  (a : PySem.W.nsIn K mainGlobals x = some (some (.ref f))) (l : K.lookup f = some ⟨oc,od,.func (PySem.W.fnOf x x (defArgs st) (defBody st) (defScope st) .none kV dc pm an cd ct),sl⟩) (c : PySem.W.codeIn K cd x = true) (k : PySem.W.keepIn K (.ref f) = true) :
  Src K mg x st ps ∧ mg x = some (.ref f) := ⟨⟨f,_,fun_mk l c k,PySem.W.mg_of X G a,(fun_mk l c k).binds hb⟩,PySem.W.mg_of X G a⟩
theorem fun_of (hb : ∀ (kV doc pm : Value) (an : Option Addr) (cdv ct : Value) (us : List Value),us.length = ps.length → bindArgs (PySem.W.fnOf x x (defArgs st) (defBody st) (defScope st) .none kV doc pm an cdv ct) ⟨us,[]⟩ = pure (ps.zip us)) (X : K.In h) (G : h.Ns mainGlobals mg)
  (a : PySem.W.nsIn K mainGlobals x = some (some (.ref f))) (l : K.lookup f = some ⟨oc,od,.func (PySem.W.fnOf x x (defArgs st) (defBody st) (defScope st) .none kV dc pm an cd ct),sl⟩) (c : PySem.W.codeIn K cd x = true) (k : PySem.W.keepIn K (.ref f) = true) :
  ∃ fd,Fun K x x st f fd ∧ mg x = some (.ref f) ∧ ∀ (s : Shared) (us : List Value),us.length = ps.length → BindsTo s fd ⟨us,[]⟩ (ps.zip us) := ⟨_,fun_mk l c k,PySem.W.mg_of X G a,fun s us hu => .of_eq (hb kV dc pm an cd ct us hu)⟩
theorem srcM_of (hb : ∀ (kV doc pm : Value) (an : Option Addr) (cdv ct : Value) (us : List Value),us.length = ps.length → bindArgs (PySem.W.fnOf m qual (defArgs st) (defBody st) (defScope st) .none kV doc pm an cdv ct) ⟨us,[]⟩ = pure (ps.zip us))
  (a : PySem.W.findIn K (.ref C) m = some (some (.ref f))) (i : PySem.W.isFn K (.ref f) = true) (l : K.lookup f = some ⟨oc,od,.func (PySem.W.fnOf m qual (defArgs st) (defBody st) (defScope st) .none kV dc pm an cd ct),sl⟩) (c : PySem.W.codeIn K cd qual = true) (k : PySem.W.keepIn K (.ref f) = true) :
  SrcM K C m qual st ps := ⟨f,_,fun_mk l c k,⟨a,i,k⟩,(fun_mk l c k).binds hb⟩
theorem cls_of (pg : PySem.W.plainGet K C Str.empty = true) (hd : PySem.W.hasDictIn K C = true) (po : PySem.W.plainOver K C = true) (sa : PySem.W.findIn K (.ref C) "__setattr__" = some (some (.builtin "object.__setattr__"))) : Cls K C := ⟨pg,hd,po,sa⟩
theorem srcC_of (hb : ∀ (kV doc pm : Value) (an : Option Addr) (cdv ct : Value) (us : List Value),us.length = ps.length → bindArgs (PySem.W.fnOf "__init__" qual (defArgs st) (defBody st) (defScope st) .none kV doc pm an cdv ct) ⟨us,[]⟩ = pure (ps.zip us)) (X : K.In h) (G : h.Ns mainGlobals mg) (aC : PySem.W.nsIn K mainGlobals x = some (some (.ref C)))
  (a : PySem.W.findIn K (.ref C) "__init__" = some (some (.ref f))) (i : PySem.W.isFn K (.ref f) = true) (l : K.lookup f = some ⟨oc,od,.func (PySem.W.fnOf "__init__" qual (defArgs st) (defBody st) (defScope st) .none kV dc pm an cd ct),sl⟩) (c : PySem.W.codeIn K cd qual = true) (k : PySem.W.keepIn K (.ref f) = true)
  (pg : PySem.W.plainGet K C Str.empty = true) (hd : PySem.W.hasDictIn K C = true) (po : PySem.W.plainOver K C = true) (sa : PySem.W.findIn K (.ref C) "__setattr__" = some (some (.builtin "object.__setattr__"))) (mk : PySem.W.makesIn K C = true) (kc : PySem.W.keepIn K (.ref C) = true) :
  SrcC K mg x C qual st ps := ⟨⟨pg,hd,po,sa⟩,PySem.W.mg_of X G aC,f,_,fun_mk l c k,⟨mk,a,i,kc⟩,(fun_mk l c k).binds hb⟩
theorem conI {i : Int} {t : Tok} (X : K.In h) (G : h.Ns mainGlobals mg) (a : PySem.W.nsIn K mainGlobals x = some (some (.int i t))) : Con1 mg x (.int i) := ⟨_,PySem.W.mg_of X G a,t,rfl⟩
theorem conR (X : K.In h) (G : h.Ns mainGlobals mg) (a : PySem.W.nsIn K mainGlobals x = some (some (.ref D))) : Con1 mg x (.ref D) := ⟨_,PySem.W.mg_of X G a,rfl⟩
theorem conN (X : K.In h) (G : h.Ns mainGlobals mg) (a : PySem.W.nsIn K mainGlobals x = some none) : mg x = none := PySem.W.mg_none_of X G a
end
def entI (e : DictEntry) : Option (Int × Value) := match e.key with
 | .int i _ => if e.hash = hashInt i then some (i,e.val) else none
 | _ => none
def dictI (o : PySem.Obj) : Option (List (Int × Value)) := match o.data with
 | .dict es _ => es.toList.mapM entI
 | _ => none
theorem mapM_paired : ∀ {es : List DictEntry} {kvs : List (Int × Value)},es.mapM entI = some kvs → Paired (fun (e : DictEntry) (kv : Int × Value) => Value.isInt kv.1 e.key = true ∧ e.val = kv.2 ∧ e.hash = hashInt kv.1) es kvs
 | [],kvs,h => by
  rw [List.mapM_nil] at h
  cases h
  exact .nil
 | e :: es,kvs,h => by
  rw [List.mapM_cons] at h
  cases h1 : entI e with
  | none => rw [h1] at h; cases h
  | some kv =>
   cases h2 : es.mapM entI with
   | none => rw [h1,h2] at h; cases h
   | some r =>
    rw [h1,h2] at h
    cases h
    refine .cons ?_ (mapM_paired h2)
    unfold entI at h1
    split at h1
    ·rename_i i t hk
     split at h1
     ·rename_i hh
      cases h1
      refine ⟨?_,rfl,hh⟩
      rw [hk]
      exact beq_self_eq_true i
     ·cases h1
    ·cases h1
theorem kdict_of {K : PySem.W.Frag} {D : Addr} {o : PySem.Obj} {kvs : List (Int × Value)} (l : K.lookup D = some o) (h1 : o.cls = .type "dict") (h2 : o.dict = none) (h3 : o.slots = #[]) (hd : dictI o = some kvs) (hn : (kvs.map (·.1)).Nodup) : KDict K D kvs := by
 unfold dictI at hd
 cases e : o.data with
 | dict es ep =>
  rw [e] at hd
  exact ⟨o,es,ep,l,⟨h1,h2,h3⟩,e,hn,mapM_paired hd⟩
 | _ => rw [e] at hd; cases hd
def intI (v : Value) : Option Int := match v with
 | .int i _ => some i
 | _ => none
def tupI (o : PySem.Obj) : Option (List Int) := match o.data with
 | .seq its _ => its.toList.mapM intI
 | _ => none
theorem mapM_vals : ∀ {its : List Value} {ns : List Int},its.mapM intI = some ns → Vals (ns.map V.int) its
 | [],ns,h => by
  rw [List.mapM_nil] at h
  cases h
  exact .nil
 | v :: its,ns,h => by
  rw [List.mapM_cons] at h
  cases h1 : intI v with
  | none => rw [h1] at h; cases h
  | some i =>
   cases h2 : its.mapM intI with
   | none => rw [h1,h2] at h; cases h
   | some r =>
    rw [h1,h2] at h
    cases h
    refine .cons ?_ (mapM_vals h2)
    unfold intI at h1
    split at h1
    ·rename_i j t
     cases h1
     exact ⟨t,rfl⟩
    ·cases h1
theorem tup_of {K : PySem.W.Frag} {D : Addr} {o : PySem.Obj} {ns : List Int} (l : K.lookup D = some o) (h1 : o.cls = .type "tuple") (hd : tupI o = some ns) (hn : ns.length ≤ 1000) : TupN K D ns := by
 unfold tupI at hd
 cases e : o.data with
 | seq its n =>
  rw [e] at hd
  have hv := mapM_vals hd
  refine ⟨o,its,n,l,h1,e,?_,hv⟩
  have hl := hv.length
  simp only [List.length_map,Array.length_toList] at hl
  show its.size ≤ 16777216
  have hq : ns.length = its.size := by first | exact hl | exact hl.symm
  rw [← hq]
  exact Nat.le_trans hn (by decide)
 | _ => rw [e] at hd; cases hd
def Bd (m q : Str) (st : Stmt) (ps : List Str) : Prop := ∀ (kV doc pm : Value) (an : Option Addr) (cdv ct : Value) (us : List Value),us.length = ps.length → bindArgs (PySem.W.fnOf m q (defArgs st) (defBody st) (defScope st) .none kV doc pm an cdv ct) ⟨us,[]⟩ = pure (ps.zip us)
theorem bd0 {m q : Str} {st : Stmt} {ps : List Str} (h : ∀ (kV doc pm : Value) (an : Option Addr) (cdv ct : Value),bindArgs (PySem.W.fnOf m q (defArgs st) (defBody st) (defScope st) .none kV doc pm an cdv ct) ⟨[],[]⟩ = pure (ps.zip [])) (hn : ps.length = 0 := by rfl) : Bd m q st ps := fun _ _ _ _ _ _ us hl => match us,(hl.trans hn) with | [],_ => h _ _ _ _ _ _
theorem bd1 {m q : Str} {st : Stmt} {ps : List Str} (h : ∀ (kV doc pm : Value) (an : Option Addr) (cdv ct u0 : Value),bindArgs (PySem.W.fnOf m q (defArgs st) (defBody st) (defScope st) .none kV doc pm an cdv ct) ⟨[u0],[]⟩ = pure (ps.zip [u0])) (hn : ps.length = 1 := by rfl) : Bd m q st ps := fun _ _ _ _ _ _ us hl => match us,(hl.trans hn) with | [_],_ => h _ _ _ _ _ _ _
theorem bd2 {m q : Str} {st : Stmt} {ps : List Str} (h : ∀ (kV doc pm : Value) (an : Option Addr) (cdv ct u0 u1 : Value),bindArgs (PySem.W.fnOf m q (defArgs st) (defBody st) (defScope st) .none kV doc pm an cdv ct) ⟨[u0,u1],[]⟩ = pure (ps.zip [u0,u1])) (hn : ps.length = 2 := by rfl) : Bd m q st ps := fun _ _ _ _ _ _ us hl => match us,(hl.trans hn) with | [_,_],_ => h _ _ _ _ _ _ _ _
theorem bd3 {m q : Str} {st : Stmt} {ps : List Str} (h : ∀ (kV doc pm : Value) (an : Option Addr) (cdv ct u0 u1 u2 : Value),bindArgs (PySem.W.fnOf m q (defArgs st) (defBody st) (defScope st) .none kV doc pm an cdv ct) ⟨[u0,u1,u2],[]⟩ = pure (ps.zip [u0,u1,u2])) (hn : ps.length = 3 := by rfl) : Bd m q st ps := fun _ _ _ _ _ _ us hl => match us,(hl.trans hn) with | [_,_,_],_ => h _ _ _ _ _ _ _ _ _
theorem bd4 {m q : Str} {st : Stmt} {ps : List Str} (h : ∀ (kV doc pm : Value) (an : Option Addr) (cdv ct u0 u1 u2 u3 : Value),bindArgs (PySem.W.fnOf m q (defArgs st) (defBody st) (defScope st) .none kV doc pm an cdv ct) ⟨[u0,u1,u2,u3],[]⟩ = pure (ps.zip [u0,u1,u2,u3])) (hn : ps.length = 4 := by rfl) : Bd m q st ps := fun _ _ _ _ _ _ us hl => match us,(hl.trans hn) with | [_,_,_,_],_ => h _ _ _ _ _ _ _ _ _ _
theorem bd5 {m q : Str} {st : Stmt} {ps : List Str} (h : ∀ (kV doc pm : Value) (an : Option Addr) (cdv ct u0 u1 u2 u3 u4 : Value),bindArgs (PySem.W.fnOf m q (defArgs st) (defBody st) (defScope st) .none kV doc pm an cdv ct) ⟨[u0,u1,u2,u3,u4],[]⟩ = pure (ps.zip [u0,u1,u2,u3,u4])) (hn : ps.length = 5 := by rfl) : Bd m q st ps := fun _ _ _ _ _ _ us hl => match us,(hl.trans hn) with | [_,_,_,_,_],_ => h _ _ _ _ _ _ _ _ _ _ _
def NsF (K : PySem.W.Frag) (x : Str) (f : Addr) : Prop := PySem.W.nsIn K mainGlobals x = some (some (.ref f))
def FF (K : PySem.W.Frag) (x q : Str) (st : Stmt) (f : Addr) : Prop := ∃ (oc : Value) (od : Option Addr) (sl : Array (Option Value)) (kV dc pm : Value) (an : Option Addr) (cd ct : Value),K.lookup f = some ⟨oc,od,.func (PySem.W.fnOf x q (defArgs st) (defBody st) (defScope st) .none kV dc pm an cd ct),sl⟩ ∧ PySem.W.codeIn K cd q = true ∧ PySem.W.keepIn K (.ref f) = true
def MF (K : PySem.W.Frag) (C : Addr) (m : Str) (f : Addr) : Prop := PySem.W.findIn K (.ref C) m = some (some (.ref f)) ∧ PySem.W.isFn K (.ref f) = true
def ClF (K : PySem.W.Frag) (C : Addr) : Prop := PySem.W.plainGet K C Str.empty = true ∧ PySem.W.hasDictIn K C = true ∧ PySem.W.plainOver K C = true ∧ PySem.W.findIn K (.ref C) "__setattr__" = some (some (.builtin "object.__setattr__")) ∧ PySem.W.makesIn K C = true ∧ PySem.W.keepIn K (.ref C) = true
def CI (K : PySem.W.Frag) (x : Str) (i : Int) : Prop := ∃ t,PySem.W.nsIn K mainGlobals x = some (some (.int i t))
theorem ClF.cls {K : PySem.W.Frag} {C : Addr} (h : ClF K C) : Cls K C := ⟨h.1,h.2.1,h.2.2.1,h.2.2.2.1⟩
section
variable {K : PySem.W.Frag} {h : Heap} {mg : Str → Option Value} {x m qual : Str} {st : Stmt} {ps : List Str} {f C D : Addr}
theorem src2 (hb : Bd x x st ps) (X : K.In h) (G : h.Ns mainGlobals mg) (a : NsF K x f) (l : FF K x x st f) : Src K mg x st ps := by
 obtain ⟨oc,od,sl,kV,dc,pm,an,cd,ct,l,c,k⟩ := l
 exact (src_of hb X G a l c k).1
theorem fun2 (hb : Bd x x st ps) (X : K.In h) (G : h.Ns mainGlobals mg) (a : NsF K x f) (l : FF K x x st f) : ∃ fd,Fun K x x st f fd ∧ mg x = some (.ref f) ∧ ∀ (s : Shared) (us : List Value),us.length = ps.length → BindsTo s fd ⟨us,[]⟩ (ps.zip us) := by
 obtain ⟨oc,od,sl,kV,dc,pm,an,cd,ct,l,c,k⟩ := l
 exact fun_of hb X G a l c k
theorem srcM2 (hb : Bd m qual st ps) (a : MF K C m f) (l : FF K m qual st f) : SrcM K C m qual st ps := by
 obtain ⟨oc,od,sl,kV,dc,pm,an,cd,ct,l,c,k⟩ := l
 exact srcM_of hb a.1 a.2 l c k
theorem srcC2 (hb : Bd "__init__" qual st ps) (X : K.In h) (G : h.Ns mainGlobals mg) (aC : NsF K x C) (z : ClF K C) (a : MF K C "__init__" f) (l : FF K "__init__" qual st f) : SrcC K mg x C qual st ps := by
 obtain ⟨oc,od,sl,kV,dc,pm,an,cd,ct,l,c,k⟩ := l
 exact srcC_of hb X G aC a.1 a.2 l c k z.1 z.2.1 z.2.2.1 z.2.2.2.1 z.2.2.2.2.1 z.2.2.2.2.2
theorem conI2 {i : Int} (X : K.In h) (G : h.Ns mainGlobals mg) (a : CI K x i) : Con1 mg x (.int i) := by
 obtain ⟨t,a⟩ := a
 exact conI X G a
end
def AtD (kvs : List (Int × Value)) (p : Int) (a : Addr) : Prop := (kvs.find? fun kv => kv.1 = p).map (·.2) = some (.ref a)
theorem call2 {P : Program} {w : World} {K : PySem.W.Frag} {mg : Str → Option Value} {base : Heap} {x : Str} {k N : Nat} {ps : List Str} {sp : Sp} {f0 C : Addr} {g : List Int} {q : Rd20.Call} {kvs : List (Int × Value)} {p : Int} (F : Fn P w K mg base x k ps sp) (e : mg x = some (.ref f0)) (z : AtD kvs p f0) (hk : k ≤ N)
  (hs : ∀ r b l s H Q,RingAt C H r l s → Valid s → H b = some (.lst (g.map V.int)) → b ≠ l → Done C H r l (Rd20.does (absE s) q) Q → sp [.ref r,.ref b] H Q E0) :
  ∃ (f : Addr) (k : Nat) (fd : FuncData) (ps : List Str) (sp : Sp),(kvs.find? fun kv => kv.1 = p).map (·.2) = some (.ref f) ∧ k ≤ N ∧ FnOk P w K mg base CX0 k f fd ps sp ∧ PySem.W.keepIn K (.ref f) = true ∧ Binds K fd ps [] ∧
   ∀ r b l s H Q,RingAt C H r l s → Valid s → H b = some (.lst (g.map V.int)) → b ≠ l → Done C H r l (Rd20.does (absE s) q) Q → sp [.ref r,.ref b] H Q E0 := by
 obtain ⟨f,fd,F1,h1,h2,h3⟩ := F.ex
 cases h1.symm.trans e
 exact ⟨_,k,fd,ps,sp,z,hk,F1,h2,h3,hs⟩
theorem bd_Exact_init : Bd "__init__" "Exact.__init__" s_Exact_init ["self","sign","size","power"] := bd4 fun _ _ _ _ _ _ _ _ _ _ => rfl
theorem bd_lead_of : Bd "lead_of" "lead_of" s_lead_of ["value"] := bd1 fun _ _ _ _ _ _ _ => rfl
theorem bd_outward : Bd "outward" "outward" s_outward ["sign"] := bd1 fun _ _ _ _ _ _ _ => rfl
theorem bd_grows : Bd "grows" "grows" s_grows ["sign","whole","rest","one","way"] := bd5 fun _ _ _ _ _ _ _ _ _ _ _ => rfl
theorem bd_made_whole : Bd "made_whole" "made_whole" s_made_whole ["sign","size","one","way"] := bd4 fun _ _ _ _ _ _ _ _ _ _ => rfl
theorem bd_size_by : Bd "size_by" "size_by" s_size_by ["value","unit"] := bd2 fun _ _ _ _ _ _ _ _ => rfl
theorem bd_exact_whole : Bd "exact_whole" "exact_whole" s_exact_whole ["n","power"] := bd2 fun _ _ _ _ _ _ _ _ => rfl
theorem bd_units_in : Bd "units_in" "units_in" s_units_in ["value","unit","way"] := bd3 fun _ _ _ _ _ _ _ _ _ => rfl
theorem bd_to_multiple : Bd "to_multiple" "to_multiple" s_to_multiple ["value","unit","way"] := bd3 fun _ _ _ _ _ _ _ _ _ => rfl
theorem bd_same_size : Bd "same_size" "same_size" s_same_size ["one","other"] := bd2 fun _ _ _ _ _ _ _ _ => rfl
theorem bd_is_below : Bd "is_below" "is_below" s_is_below ["value","power"] := bd2 fun _ _ _ _ _ _ _ _ => rfl
theorem bd_overflowed : Bd "overflowed" "overflowed" s_overflowed ["sign","form","way"] := bd3 fun _ _ _ _ _ _ _ _ _ => rfl
theorem bd_Form_init : Bd "__init__" "Form.__init__" s_Form_init ["self","places","least","limit"] := bd4 fun _ _ _ _ _ _ _ _ _ _ => rfl
theorem bd_Rounded_init : Bd "__init__" "Rounded.__init__" s_Rounded_init ["self","value","flags"] := bd3 fun _ _ _ _ _ _ _ _ _ => rfl
theorem bd_is_tiny : Bd "is_tiny" "is_tiny" s_is_tiny ["value","form","way"] := bd3 fun _ _ _ _ _ _ _ _ _ => rfl
theorem bd_rounded : Bd "rounded" "rounded" s_rounded ["value","form","way"] := bd3 fun _ _ _ _ _ _ _ _ _ => rfl
theorem bd_sign_of : Bd "sign_of" "sign_of" s_sign_of ["number"] := bd1 fun _ _ _ _ _ _ _ => rfl
theorem bd_exponent_of : Bd "exponent_of" "exponent_of" s_exponent_of ["number"] := bd1 fun _ _ _ _ _ _ _ => rfl
theorem bd_bits_of : Bd "bits_of" "bits_of" s_bits_of ["number"] := bd1 fun _ _ _ _ _ _ _ => rfl
theorem bd_with_sign : Bd "with_sign" "with_sign" s_with_sign ["sign","number"] := bd2 fun _ _ _ _ _ _ _ _ => rfl
theorem bd_is_infinite : Bd "is_infinite" "is_infinite" s_is_infinite ["number"] := bd1 fun _ _ _ _ _ _ _ => rfl
theorem bd_is_well_formed : Bd "is_well_formed" "is_well_formed" s_is_well_formed ["number"] := bd1 fun _ _ _ _ _ _ _ => rfl
theorem bd_as_kept : Bd "as_kept" "as_kept" s_as_kept ["number"] := bd1 fun _ _ _ _ _ _ _ => rfl
theorem bd_from_row : Bd "from_row" "from_row" s_from_row ["row"] := bd1 fun _ _ _ _ _ _ _ => rfl
theorem bd_to_row : Bd "to_row" "to_row" s_to_row ["number"] := bd1 fun _ _ _ _ _ _ _ => rfl
theorem bd_exact_of : Bd "exact_of" "exact_of" s_exact_of ["number"] := bd1 fun _ _ _ _ _ _ _ => rfl
theorem bd_number_of : Bd "number_of" "number_of" s_number_of ["value"] := bd1 fun _ _ _ _ _ _ _ => rfl
theorem bd_number_of_whole : Bd "number_of_whole" "number_of_whole" s_number_of_whole ["n"] := bd1 fun _ _ _ _ _ _ _ => rfl
theorem bd_without_sign : Bd "without_sign" "without_sign" s_without_sign ["number"] := bd1 fun _ _ _ _ _ _ _ => rfl
theorem bd_opposite : Bd "opposite" "opposite" s_opposite ["number"] := bd1 fun _ _ _ _ _ _ _ => rfl
theorem bd_is_zero : Bd "is_zero" "is_zero" s_is_zero ["number"] := bd1 fun _ _ _ _ _ _ _ => rfl
theorem bd_is_small : Bd "is_small" "is_small" s_is_small ["number"] := bd1 fun _ _ _ _ _ _ _ => rfl
theorem bd_number_form : Bd "number_form" "number_form" s_number_form ["length"] := bd1 fun _ _ _ _ _ _ _ => rfl
theorem bd_double_form : Bd "double_form" "double_form" s_double_form [] := bd0 fun _ _ _ _ _ _ => rfl
theorem bd_exponent_in : Bd "exponent_in" "exponent_in" s_exponent_in ["bits"] := bd1 fun _ _ _ _ _ _ _ => rfl
theorem bd_fraction_in : Bd "fraction_in" "fraction_in" s_fraction_in ["bits"] := bd1 fun _ _ _ _ _ _ _ => rfl
theorem bd_is_small_double : Bd "is_small_double" "is_small_double" s_is_small_double ["bits"] := bd1 fun _ _ _ _ _ _ _ => rfl
theorem bd_number_of_double : Bd "number_of_double" "number_of_double" s_number_of_double ["bits"] := bd1 fun _ _ _ _ _ _ _ => rfl
theorem bd_infinite_double : Bd "infinite_double" "infinite_double" s_infinite_double ["sign"] := bd1 fun _ _ _ _ _ _ _ => rfl
theorem bd_double_of : Bd "double_of" "double_of" s_double_of ["value"] := bd1 fun _ _ _ _ _ _ _ => rfl
theorem bd_Ring_begin : Bd "begin" "Ring.begin" s_Ring_begin ["self"] := bd1 fun _ _ _ _ _ _ _ => rfl
theorem bd_Ring_init : Bd "__init__" "Ring.__init__" s_Ring_init ["self"] := bd1 fun _ _ _ _ _ _ _ => rfl
theorem bd_Ring_set_flags : Bd "set_flags" "Ring.set_flags" s_Ring_set_flags ["self","flags"] := bd2 fun _ _ _ _ _ _ _ _ => rfl
theorem bd_Ring_is_empty : Bd "is_empty" "Ring.is_empty" s_Ring_is_empty ["self","i"] := bd2 fun _ _ _ _ _ _ _ _ => rfl
theorem bd_Ring_is_full : Bd "is_full" "Ring.is_full" s_Ring_is_full ["self"] := bd1 fun _ _ _ _ _ _ _ => rfl
theorem bd_Ring_push : Bd "push" "Ring.push" s_Ring_push ["self","number"] := bd2 fun _ _ _ _ _ _ _ _ => rfl
theorem bd_Ring_take_top : Bd "take_top" "Ring.take_top" s_Ring_take_top ["self"] := bd1 fun _ _ _ _ _ _ _ => rfl
theorem bd_Ring_swap : Bd "swap" "Ring.swap" s_Ring_swap ["self","i"] := bd2 fun _ _ _ _ _ _ _ _ => rfl
theorem bd_is_within : Bd "is_within" "is_within" s_is_within ["n","low","high"] := bd3 fun _ _ _ _ _ _ _ _ _ => rfl
theorem bd_is_place : Bd "is_place" "is_place" s_is_place ["i"] := bd1 fun _ _ _ _ _ _ _ => rfl
theorem bd_call_begin : Bd "call_begin" "call_begin" s_call_begin ["ring","given"] := bd2 fun _ _ _ _ _ _ _ _ => rfl
theorem bd_call_control : Bd "call_control" "call_control" s_call_control ["ring","given"] := bd2 fun _ _ _ _ _ _ _ _ => rfl
theorem bd_pushed : Bd "pushed" "pushed" s_pushed ["ring","number"] := bd2 fun _ _ _ _ _ _ _ _ => rfl
theorem bd_call_flags : Bd "call_flags" "call_flags" s_call_flags ["ring","given"] := bd2 fun _ _ _ _ _ _ _ _ => rfl
theorem bd_call_swap : Bd "call_swap" "call_swap" s_call_swap ["ring","given"] := bd2 fun _ _ _ _ _ _ _ _ => rfl
theorem bd_call_copy : Bd "call_copy" "call_copy" s_call_copy ["ring","given"] := bd2 fun _ _ _ _ _ _ _ _ => rfl
theorem bd_call_store : Bd "call_store" "call_store" s_call_store ["ring","given"] := bd2 fun _ _ _ _ _ _ _ _ => rfl
theorem bd_is_ten_bytes : Bd "is_ten_bytes" "is_ten_bytes" s_is_ten_bytes ["row"] := bd1 fun _ _ _ _ _ _ _ => rfl
theorem bd_call_whole : Bd "call_whole" "call_whole" s_call_whole ["ring","given"] := bd2 fun _ _ _ _ _ _ _ _ => rfl
theorem bd_call_load : Bd "call_load" "call_load" s_call_load ["ring","given"] := bd2 fun _ _ _ _ _ _ _ _ => rfl
theorem bd_call_told : Bd "call_told" "call_told" s_call_told ["ring","given"] := bd2 fun _ _ _ _ _ _ _ _ => rfl
theorem bd_call_double : Bd "call_double" "call_double" s_call_double ["ring","given"] := bd2 fun _ _ _ _ _ _ _ _ => rfl
theorem bd_nothing_whole : Bd "nothing_whole" "nothing_whole" s_nothing_whole ["ring"] := bd1 fun _ _ _ _ _ _ _ => rfl
theorem bd_whole_from : Bd "whole_from" "whole_from" s_whole_from ["ring","number","way"] := bd3 fun _ _ _ _ _ _ _ _ _ => rfl
theorem bd_call_int : Bd "call_int" "call_int" s_call_int ["ring","given"] := bd2 fun _ _ _ _ _ _ _ _ => rfl
theorem bd_double_from : Bd "double_from" "double_from" s_double_from ["ring","number"] := bd2 fun _ _ _ _ _ _ _ _ => rfl
theorem bd_call_bits : Bd "call_bits" "call_bits" s_call_bits ["ring","given"] := bd2 fun _ _ _ _ _ _ _ _ => rfl
theorem bd_Division_init : Bd "__init__" "Division.__init__" s_Division_init ["self","whole","left"] := bd3 fun _ _ _ _ _ _ _ _ _ => rfl
theorem bd_signed_units : Bd "signed_units" "signed_units" s_signed_units ["value","unit"] := bd2 fun _ _ _ _ _ _ _ _ => rfl
theorem bd_sign_of_no_sum : Bd "sign_of_no_sum" "sign_of_no_sum" s_sign_of_no_sum ["one","other","way"] := bd3 fun _ _ _ _ _ _ _ _ _ => rfl
theorem bd_sum_of : Bd "sum_of" "sum_of" s_sum_of ["one","other","way"] := bd3 fun _ _ _ _ _ _ _ _ _ => rfl
theorem bd_product_of : Bd "product_of" "product_of" s_product_of ["one","other"] := bd2 fun _ _ _ _ _ _ _ _ => rfl
theorem bd_with_tail : Bd "with_tail" "with_tail" s_with_tail ["sign","whole","is_more","power"] := bd4 fun _ _ _ _ _ _ _ _ _ _ => rfl
theorem bd_quotient_of : Bd "quotient_of" "quotient_of" s_quotient_of ["one","other"] := bd2 fun _ _ _ _ _ _ _ _ => rfl
theorem bd_divided : Bd "divided" "divided" s_divided ["one","other","way"] := bd3 fun _ _ _ _ _ _ _ _ _ => rfl
theorem bd_whole_root : Bd "whole_root" "whole_root" s_whole_root ["n"] := bd1 fun _ _ _ _ _ _ _ => rfl
theorem bd_root_of : Bd "root_of" "root_of" s_root_of ["value"] := bd1 fun _ _ _ _ _ _ _ => rfl
theorem bd_Result_init : Bd "__init__" "Result.__init__" s_Result_init ["self","number","flags"] := bd3 fun _ _ _ _ _ _ _ _ _ => rfl
theorem bd_Rest_init : Bd "__init__" "Rest.__init__" s_Rest_init ["self","result","low_bits"] := bd3 fun _ _ _ _ _ _ _ _ _ => rfl
theorem bd_plain : Bd "plain" "plain" s_plain ["number"] := bd1 fun _ _ _ _ _ _ _ => rfl
theorem bd_nothing : Bd "nothing" "nothing" s_nothing [] := bd0 fun _ _ _ _ _ _ => rfl
theorem bd_infinite : Bd "infinite" "infinite" s_infinite ["sign"] := bd1 fun _ _ _ _ _ _ _ => rfl
theorem bd_result_of : Bd "result_of" "result_of" s_result_of ["value","form","way"] := bd3 fun _ _ _ _ _ _ _ _ _ => rfl
theorem bd_sum_result : Bd "sum_result" "sum_result" s_sum_result ["x","y","form","way"] := bd4 fun _ _ _ _ _ _ _ _ _ _ => rfl
theorem bd_product_result : Bd "product_result" "product_result" s_product_result ["x","y","form","way"] := bd4 fun _ _ _ _ _ _ _ _ _ _ => rfl
theorem bd_quotient_result : Bd "quotient_result" "quotient_result" s_quotient_result ["x","y","form","way"] := bd4 fun _ _ _ _ _ _ _ _ _ _ => rfl
theorem bd_do_result : Bd "do_result" "do_result" s_do_result ["op","x","y","form","way"] := bd5 fun _ _ _ _ _ _ _ _ _ _ _ => rfl
theorem bd_root_result : Bd "root_result" "root_result" s_root_result ["x","form","way"] := bd3 fun _ _ _ _ _ _ _ _ _ => rfl
theorem bd_near_result : Bd "near_result" "near_result" s_near_result ["x","way"] := bd2 fun _ _ _ _ _ _ _ _ => rfl
theorem bd_scaled_without_end : Bd "scaled_without_end" "scaled_without_end" s_scaled_without_end ["x","sign"] := bd2 fun _ _ _ _ _ _ _ _ => rfl
theorem bd_steps_of : Bd "steps_of" "steps_of" s_steps_of ["y"] := bd1 fun _ _ _ _ _ _ _ => rfl
theorem bd_scale_result : Bd "scale_result" "scale_result" s_scale_result ["x","y","way"] := bd3 fun _ _ _ _ _ _ _ _ _ => rfl
theorem bd_exponent_result : Bd "exponent_result" "exponent_result" s_exponent_result ["x"] := bd1 fun _ _ _ _ _ _ _ => rfl
theorem bd_without_exponent : Bd "without_exponent" "without_exponent" s_without_exponent ["x"] := bd1 fun _ _ _ _ _ _ _ => rfl
theorem bd_rest_result : Bd "rest_result" "rest_result" s_rest_result ["kind","x","y"] := bd3 fun _ _ _ _ _ _ _ _ _ => rfl
theorem bd_Ring_turn : Bd "turn" "Ring.turn" s_Ring_turn ["self","steps"] := bd2 fun _ _ _ _ _ _ _ _ => rfl
theorem bd_call_turn : Bd "call_turn" "call_turn" s_call_turn ["ring","given"] := bd2 fun _ _ _ _ _ _ _ _ => rfl
theorem bd_call_free : Bd "call_free" "call_free" s_call_free ["ring","given"] := bd2 fun _ _ _ _ _ _ _ _ => rfl
theorem bd_is_small_taken : Bd "is_small_taken" "is_small_taken" s_is_small_taken ["taken","flags"] := bd2 fun _ _ _ _ _ _ _ _ => rfl
theorem bd_keep_flags : Bd "keep_flags" "keep_flags" s_keep_flags ["ring","taken","flags"] := bd3 fun _ _ _ _ _ _ _ _ _ => rfl
theorem bd_settle : Bd "settle" "settle" s_settle ["ring","taken","to","result"] := bd4 fun _ _ _ _ _ _ _ _ _ _ => rfl
theorem bd_are_taken : Bd "are_taken" "are_taken" s_are_taken ["ring","i"] := bd2 fun _ _ _ _ _ _ _ _ => rfl
theorem bd_call_root : Bd "call_root" "call_root" s_call_root ["ring","given"] := bd2 fun _ _ _ _ _ _ _ _ => rfl
theorem bd_call_near : Bd "call_near" "call_near" s_call_near ["ring","given"] := bd2 fun _ _ _ _ _ _ _ _ => rfl
theorem bd_call_scale : Bd "call_scale" "call_scale" s_call_scale ["ring","given"] := bd2 fun _ _ _ _ _ _ _ _ => rfl
theorem bd_call_split : Bd "call_split" "call_split" s_call_split ["ring","given"] := bd2 fun _ _ _ _ _ _ _ _ => rfl
theorem bd_call_rest : Bd "call_rest" "call_rest" s_call_rest ["ring","given"] := bd2 fun _ _ _ _ _ _ _ _ => rfl
theorem bd_call_do : Bd "call_do" "call_do" s_call_do ["ring","given"] := bd2 fun _ _ _ _ _ _ _ _ => rfl
theorem bd_call_sign : Bd "call_sign" "call_sign" s_call_sign ["ring","given"] := bd2 fun _ _ _ _ _ _ _ _ => rfl
theorem bd_rank_of : Bd "rank_of" "rank_of" s_rank_of ["number"] := bd1 fun _ _ _ _ _ _ _ => rfl
theorem bd_order_of : Bd "order_of" "order_of" s_order_of ["x","y"] := bd2 fun _ _ _ _ _ _ _ _ => rfl
theorem bd_compared : Bd "compared" "compared" s_compared ["ring","x","y","strict"] := bd4 fun _ _ _ _ _ _ _ _ _ _ => rfl
theorem bd_call_compare : Bd "call_compare" "call_compare" s_call_compare ["ring","given"] := bd2 fun _ _ _ _ _ _ _ _ => rfl
theorem bd_call_against : Bd "call_against" "call_against" s_call_against ["ring","given"] := bd2 fun _ _ _ _ _ _ _ _ => rfl
theorem bd_kind_without_sign : Bd "kind_without_sign" "kind_without_sign" s_kind_without_sign ["number"] := bd1 fun _ _ _ _ _ _ _ => rfl
theorem bd_call_kind : Bd "call_kind" "call_kind" s_call_kind ["ring","given"] := bd2 fun _ _ _ _ _ _ _ _ => rfl
theorem bd_numbers_given : Bd "numbers_given" "numbers_given" s_numbers_given ["calls","place"] := bd2 fun _ _ _ _ _ _ _ _ => rfl
theorem bd_answer_of_move : Bd "answer_of_move" "answer_of_move" s_answer_of_move ["call","ring","given"] := bd3 fun _ _ _ _ _ _ _ _ _ => rfl
theorem bd_answer_of_reckoning : Bd "answer_of_reckoning" "answer_of_reckoning" s_answer_of_reckoning ["call","ring","given"] := bd3 fun _ _ _ _ _ _ _ _ _ => rfl
theorem bd_answer_of : Bd "answer_of" "answer_of" s_answer_of ["call","ring","given"] := bd3 fun _ _ _ _ _ _ _ _ _ => rfl
theorem bd_answers : Bd "answers" "answers" s_answers ["calls"] := bd1 fun _ _ _ _ _ _ _ => rfl
theorem all_mk {P : Program} {w : World} {K : PySem.W.Frag} {h : Heap} {mg : Str → Option Value} {fa aE aF aR aG aD aS aT DG DP DM DR f1 f2 f3 f4 f5 f6 f7 f8 f9 f10 f11 f12 f13 f14 f15 f16 f17 f18 f19 f20 f21 f22 f23 f24 f25 f26 f27 f28 f29 f30 f31 f32 f33 f34 f35 f36 f37 f38 f39 f40 f41 f42 f43 f44 f45 f46 f47 f48 f49 f50 f51 f52 f53 f54 f55 f56 f57 f58 f59 f60 f61 f62 f63 f64 f65 f66 f67 f68 f69 f70 f71 f72 f73 f74 f75 f76 f77 f78 f79 f80 f81 f82 f83 f84 f85 f86 f87 f88 f89 f90 f91 f92 f93 f94 f95 f96 f97 f98 f99 f100 f101 f102 f103 f104 f105 f106 f107 f108 f109 f110 f111 f112 f113 f114 f115 f116 f117 f118 f119 f120 f121 : Addr} {kvsM kvsR : List (Int × Value)} {oG oP oM oR : PySem.Obj}
 (X : K.In h) (G : h.Ns mainGlobals mg) (hfa : mg "answers" = some (.ref fa))
 (x0 : NsF K "Exact" aE) (x1 : ClF K aE) (x2 : NsF K "Form" aF) (x3 : ClF K aF)
 (x4 : NsF K "Rounded" aR) (x5 : ClF K aR) (x6 : NsF K "Ring" aG) (x7 : ClF K aG)
 (x8 : NsF K "Division" aD) (x9 : ClF K aD) (x10 : NsF K "Result" aS) (x11 : ClF K aS)
 (x12 : NsF K "Rest" aT) (x13 : ClF K aT) (x14 : PySem.W.findIn K (.ref aE) "sign" = some none) (x15 : PySem.W.findIn K (.ref aE) "size" = some none)
 (x16 : PySem.W.findIn K (.ref aE) "power" = some none) (x17 : PySem.W.findIn K (.ref aF) "places" = some none) (x18 : PySem.W.findIn K (.ref aF) "least" = some none) (x19 : PySem.W.findIn K (.ref aF) "limit" = some none)
 (x20 : PySem.W.findIn K (.ref aR) "value" = some none) (x21 : PySem.W.findIn K (.ref aR) "flags" = some none) (x22 : PySem.W.findIn K (.ref aG) "way" = some none) (x23 : PySem.W.findIn K (.ref aG) "length" = some none)
 (x24 : PySem.W.findIn K (.ref aG) "flags" = some none) (x25 : PySem.W.findIn K (.ref aG) "registers" = some none) (x26 : PySem.W.findIn K (.ref aD) "whole" = some none) (x27 : PySem.W.findIn K (.ref aD) "left" = some none)
 (x28 : PySem.W.findIn K (.ref aS) "number" = some none) (x29 : PySem.W.findIn K (.ref aS) "flags" = some none) (x30 : PySem.W.findIn K (.ref aT) "result" = some none) (x31 : PySem.W.findIn K (.ref aT) "low_bits" = some none)
 (x32 : MF K aE "__init__" f1) (x33 : FF K "__init__" "Exact.__init__" s_Exact_init f1) (x34 : NsF K "lead_of" f2) (x35 : FF K "lead_of" "lead_of" s_lead_of f2)
 (x36 : NsF K "outward" f3) (x37 : FF K "outward" "outward" s_outward f3) (x38 : CI K "DOWN" 1) (x39 : CI K "UP" 2)
 (x40 : NsF K "grows" f4) (x41 : FF K "grows" "grows" s_grows f4) (x42 : CI K "NEAREST" 0) (x43 : NsF K "made_whole" f5)
 (x44 : FF K "made_whole" "made_whole" s_made_whole f5) (x45 : NsF K "size_by" f6) (x46 : FF K "size_by" "size_by" s_size_by f6) (x47 : NsF K "exact_whole" f7)
 (x48 : FF K "exact_whole" "exact_whole" s_exact_whole f7) (x49 : PySem.W.nsIn K mainGlobals "abs" = some none) (x50 : NsF K "units_in" f8) (x51 : FF K "units_in" "units_in" s_units_in f8)
 (x52 : NsF K "to_multiple" f9) (x53 : FF K "to_multiple" "to_multiple" s_to_multiple f9) (x54 : NsF K "same_size" f10) (x55 : FF K "same_size" "same_size" s_same_size f10)
 (x56 : PySem.W.nsIn K mainGlobals "min" = some none) (x57 : NsF K "is_below" f11) (x58 : FF K "is_below" "is_below" s_is_below f11) (x59 : NsF K "overflowed" f12)
 (x60 : FF K "overflowed" "overflowed" s_overflowed f12) (x61 : MF K aF "__init__" f13) (x62 : FF K "__init__" "Form.__init__" s_Form_init f13) (x63 : MF K aR "__init__" f14)
 (x64 : FF K "__init__" "Rounded.__init__" s_Rounded_init f14) (x65 : NsF K "is_tiny" f15) (x66 : FF K "is_tiny" "is_tiny" s_is_tiny f15) (x67 : NsF K "rounded" f16)
 (x68 : FF K "rounded" "rounded" s_rounded f16) (x69 : PySem.W.nsIn K mainGlobals "max" = some none) (x70 : CI K "TOO_GREAT" 8) (x71 : CI K "NOT_EXACT" 32)
 (x72 : CI K "TOO_SMALL" 16) (x73 : NsF K "sign_of" f17) (x74 : FF K "sign_of" "sign_of" s_sign_of f17) (x75 : NsF K "exponent_of" f18)
 (x76 : FF K "exponent_of" "exponent_of" s_exponent_of f18) (x77 : NsF K "bits_of" f19) (x78 : FF K "bits_of" "bits_of" s_bits_of f19) (x79 : NsF K "with_sign" f20)
 (x80 : FF K "with_sign" "with_sign" s_with_sign f20) (x81 : NsF K "is_infinite" f21) (x82 : FF K "is_infinite" "is_infinite" s_is_infinite f21) (x83 : CI K "TOP_EXPONENT" 32767)
 (x84 : NsF K "is_well_formed" f22) (x85 : FF K "is_well_formed" "is_well_formed" s_is_well_formed f22) (x86 : NsF K "as_kept" f23) (x87 : FF K "as_kept" "as_kept" s_as_kept f23)
 (x88 : CI K "NONE" NONEn) (x89 : NsF K "from_row" f24) (x90 : FF K "from_row" "from_row" s_from_row f24) (x91 : PySem.W.nsIn K mainGlobals "reversed" = some none)
 (x92 : NsF K "to_row" f25) (x93 : FF K "to_row" "to_row" s_to_row f25) (x94 : PySem.W.nsIn K mainGlobals "range" = some none) (x95 : CI K "BYTES" 10)
 (x96 : NsF K "exact_of" f26) (x97 : FF K "exact_of" "exact_of" s_exact_of f26) (x98 : CI K "BIAS" 16383) (x99 : NsF K "number_of" f27)
 (x100 : FF K "number_of" "number_of" s_number_of f27) (x101 : CI K "TOWARDS_ZERO" 3) (x102 : CI K "LEAST_LEAD" (-16382)) (x103 : NsF K "number_of_whole" f28)
 (x104 : FF K "number_of_whole" "number_of_whole" s_number_of_whole f28) (x105 : NsF K "without_sign" f29) (x106 : FF K "without_sign" "without_sign" s_without_sign f29) (x107 : NsF K "opposite" f30)
 (x108 : FF K "opposite" "opposite" s_opposite f30) (x109 : NsF K "is_zero" f31) (x110 : FF K "is_zero" "is_zero" s_is_zero f31) (x111 : NsF K "is_small" f32)
 (x112 : FF K "is_small" "is_small" s_is_small f32) (x113 : NsF K "number_form" f33) (x114 : FF K "number_form" "number_form" s_number_form f33) (x115 : NsF K "PLACES_number" DP)
 (x116 : CI K "LIMIT_number" 16384) (x117 : NsF K "double_form" f34) (x118 : FF K "double_form" "double_form" s_double_form f34) (x119 : CI K "PLACES_double" 53)
 (x120 : CI K "LEAST" (-1022)) (x121 : CI K "LIMIT_double" 1024) (x122 : NsF K "exponent_in" f35) (x123 : FF K "exponent_in" "exponent_in" s_exponent_in f35)
 (x124 : NsF K "fraction_in" f36) (x125 : FF K "fraction_in" "fraction_in" s_fraction_in f36) (x126 : NsF K "is_small_double" f37) (x127 : FF K "is_small_double" "is_small_double" s_is_small_double f37)
 (x128 : NsF K "number_of_double" f38) (x129 : FF K "number_of_double" "number_of_double" s_number_of_double f38) (x130 : CI K "INFINITY" INFn) (x131 : CI K "LOWEST_UNIT" (-1074))
 (x132 : NsF K "infinite_double" f39) (x133 : FF K "infinite_double" "infinite_double" s_infinite_double f39) (x134 : CI K "DOUBLE_INFINITY" 9218868437227405312) (x135 : NsF K "double_of" f40)
 (x136 : FF K "double_of" "double_of" s_double_of f40) (x137 : MF K aG "begin" f41) (x138 : FF K "begin" "Ring.begin" s_Ring_begin f41) (x139 : CI K "LONGEST" 2)
 (x140 : CI K "EMPTY" EMn) (x141 : CI K "REGISTERS" 8) (x142 : MF K aG "__init__" f42) (x143 : FF K "__init__" "Ring.__init__" s_Ring_init f42)
 (x144 : MF K aG "set_flags" f43) (x145 : FF K "set_flags" "Ring.set_flags" s_Ring_set_flags f43) (x146 : MF K aG "is_empty" f44) (x147 : FF K "is_empty" "Ring.is_empty" s_Ring_is_empty f44)
 (x148 : MF K aG "is_full" f45) (x149 : FF K "is_full" "Ring.is_full" s_Ring_is_full f45) (x150 : MF K aG "push" f46) (x151 : FF K "push" "Ring.push" s_Ring_push f46)
 (x152 : MF K aG "take_top" f47) (x153 : FF K "take_top" "Ring.take_top" s_Ring_take_top f47) (x154 : MF K aG "swap" f48) (x155 : FF K "swap" "Ring.swap" s_Ring_swap f48)
 (x156 : NsF K "is_within" f49) (x157 : FF K "is_within" "is_within" s_is_within f49) (x158 : NsF K "is_place" f50) (x159 : FF K "is_place" "is_place" s_is_place f50)
 (x160 : NsF K "call_begin" f51) (x161 : FF K "call_begin" "call_begin" s_call_begin f51) (x162 : CI K "DONE" 0) (x163 : NsF K "call_control" f52)
 (x164 : FF K "call_control" "call_control" s_call_control f52) (x165 : CI K "BAD_ARGUMENT" (-2)) (x166 : NsF K "pushed" f53) (x167 : FF K "pushed" "pushed" s_pushed f53)
 (x168 : CI K "IS_FULL" (-5)) (x169 : NsF K "call_flags" f54) (x170 : FF K "call_flags" "call_flags" s_call_flags f54) (x171 : NsF K "call_swap" f55)
 (x172 : FF K "call_swap" "call_swap" s_call_swap f55) (x173 : CI K "IS_EMPTY" (-4)) (x174 : NsF K "call_copy" f56) (x175 : FF K "call_copy" "call_copy" s_call_copy f56)
 (x176 : NsF K "call_store" f57) (x177 : FF K "call_store" "call_store" s_call_store f57) (x178 : NsF K "is_ten_bytes" f58) (x179 : FF K "is_ten_bytes" "is_ten_bytes" s_is_ten_bytes f58)
 (x180 : PySem.W.nsIn K mainGlobals "len" = some none) (x181 : PySem.W.nsIn K mainGlobals "all" = some none) (x182 : NsF K "call_whole" f59) (x183 : FF K "call_whole" "call_whole" s_call_whole f59)
 (x184 : NsF K "call_load" f60) (x185 : FF K "call_load" "call_load" s_call_load f60) (x186 : CI K "BAD_NUMBER" (-3)) (x187 : NsF K "call_told" f61)
 (x188 : FF K "call_told" "call_told" s_call_told f61) (x189 : NsF K "call_double" f62) (x190 : FF K "call_double" "call_double" s_call_double f62) (x191 : CI K "SMALL_TAKEN" 2)
 (x192 : NsF K "nothing_whole" f63) (x193 : FF K "nothing_whole" "nothing_whole" s_nothing_whole f63) (x194 : CI K "NOTHING_CAME" 1) (x195 : NsF K "whole_from" f64)
 (x196 : FF K "whole_from" "whole_from" s_whole_from f64) (x197 : NsF K "call_int" f65) (x198 : FF K "call_int" "call_int" s_call_int f65) (x199 : CI K "WAY_THAT_IS_SET" 4)
 (x200 : NsF K "double_from" f66) (x201 : FF K "double_from" "double_from" s_double_from f66) (x202 : CI K "DOUBLE_NONE" 9221120237041090560) (x203 : NsF K "call_bits" f67)
 (x204 : FF K "call_bits" "call_bits" s_call_bits f67) (x205 : MF K aD "__init__" f68) (x206 : FF K "__init__" "Division.__init__" s_Division_init f68) (x207 : NsF K "signed_units" f69)
 (x208 : FF K "signed_units" "signed_units" s_signed_units f69) (x209 : NsF K "sign_of_no_sum" f70) (x210 : FF K "sign_of_no_sum" "sign_of_no_sum" s_sign_of_no_sum f70) (x211 : NsF K "sum_of" f71)
 (x212 : FF K "sum_of" "sum_of" s_sum_of f71) (x213 : NsF K "product_of" f72) (x214 : FF K "product_of" "product_of" s_product_of f72) (x215 : NsF K "with_tail" f73)
 (x216 : FF K "with_tail" "with_tail" s_with_tail f73) (x217 : NsF K "quotient_of" f74) (x218 : FF K "quotient_of" "quotient_of" s_quotient_of f74) (x219 : CI K "QUOTIENT_SHIFT" 130)
 (x220 : NsF K "divided" f75) (x221 : FF K "divided" "divided" s_divided f75) (x222 : NsF K "whole_root" f76) (x223 : FF K "whole_root" "whole_root" s_whole_root f76)
 (x224 : NsF K "root_of" f77) (x225 : FF K "root_of" "root_of" s_root_of f77) (x226 : CI K "ROOT_SHIFT" 134) (x227 : MF K aS "__init__" f78)
 (x228 : FF K "__init__" "Result.__init__" s_Result_init f78) (x229 : MF K aT "__init__" f79) (x230 : FF K "__init__" "Rest.__init__" s_Rest_init f79) (x231 : NsF K "plain" f80)
 (x232 : FF K "plain" "plain" s_plain f80) (x233 : NsF K "nothing" f81) (x234 : FF K "nothing" "nothing" s_nothing f81) (x235 : NsF K "infinite" f82)
 (x236 : FF K "infinite" "infinite" s_infinite f82) (x237 : NsF K "result_of" f83) (x238 : FF K "result_of" "result_of" s_result_of f83) (x239 : NsF K "sum_result" f84)
 (x240 : FF K "sum_result" "sum_result" s_sum_result f84) (x241 : NsF K "product_result" f85) (x242 : FF K "product_result" "product_result" s_product_result f85) (x243 : NsF K "quotient_result" f86)
 (x244 : FF K "quotient_result" "quotient_result" s_quotient_result f86) (x245 : CI K "BY_ZERO" 4) (x246 : NsF K "do_result" f87) (x247 : FF K "do_result" "do_result" s_do_result f87)
 (x248 : NsF K "root_result" f88) (x249 : FF K "root_result" "root_result" s_root_result f88) (x250 : NsF K "near_result" f89) (x251 : FF K "near_result" "near_result" s_near_result f89)
 (x252 : NsF K "scaled_without_end" f90) (x253 : FF K "scaled_without_end" "scaled_without_end" s_scaled_without_end f90) (x254 : NsF K "steps_of" f91) (x255 : FF K "steps_of" "steps_of" s_steps_of f91)
 (x256 : CI K "FAR" 65536) (x257 : NsF K "scale_result" f92) (x258 : FF K "scale_result" "scale_result" s_scale_result f92) (x259 : NsF K "exponent_result" f93)
 (x260 : FF K "exponent_result" "exponent_result" s_exponent_result f93) (x261 : NsF K "without_exponent" f94) (x262 : FF K "without_exponent" "without_exponent" s_without_exponent f94) (x263 : NsF K "rest_result" f95)
 (x264 : FF K "rest_result" "rest_result" s_rest_result f95) (x265 : MF K aG "turn" f96) (x266 : FF K "turn" "Ring.turn" s_Ring_turn f96) (x267 : NsF K "call_turn" f97)
 (x268 : FF K "call_turn" "call_turn" s_call_turn f97) (x269 : NsF K "call_free" f98) (x270 : FF K "call_free" "call_free" s_call_free f98) (x271 : NsF K "is_small_taken" f99)
 (x272 : FF K "is_small_taken" "is_small_taken" s_is_small_taken f99) (x273 : PySem.W.nsIn K mainGlobals "any" = some none) (x274 : NsF K "keep_flags" f100) (x275 : FF K "keep_flags" "keep_flags" s_keep_flags f100)
 (x276 : NsF K "settle" f101) (x277 : FF K "settle" "settle" s_settle f101) (x278 : NsF K "are_taken" f102) (x279 : FF K "are_taken" "are_taken" s_are_taken f102)
 (x280 : NsF K "call_root" f103) (x281 : FF K "call_root" "call_root" s_call_root f103) (x282 : NsF K "call_near" f104) (x283 : FF K "call_near" "call_near" s_call_near f104)
 (x284 : NsF K "call_scale" f105) (x285 : FF K "call_scale" "call_scale" s_call_scale f105) (x286 : NsF K "call_split" f106) (x287 : FF K "call_split" "call_split" s_call_split f106)
 (x288 : NsF K "call_rest" f107) (x289 : FF K "call_rest" "call_rest" s_call_rest f107) (x290 : NsF K "call_do" f108) (x291 : FF K "call_do" "call_do" s_call_do f108)
 (x292 : NsF K "call_sign" f109) (x293 : FF K "call_sign" "call_sign" s_call_sign f109) (x294 : NsF K "rank_of" f110) (x295 : FF K "rank_of" "rank_of" s_rank_of f110)
 (x296 : NsF K "order_of" f111) (x297 : FF K "order_of" "order_of" s_order_of f111) (x298 : CI K "ONE_IS_NONE" 3) (x299 : CI K "ALIKE" 1)
 (x300 : CI K "BELOW" 0) (x301 : CI K "ABOVE" 2) (x302 : NsF K "compared" f112) (x303 : FF K "compared" "compared" s_compared f112)
 (x304 : NsF K "call_compare" f113) (x305 : FF K "call_compare" "call_compare" s_call_compare f113) (x306 : NsF K "call_against" f114) (x307 : FF K "call_against" "call_against" s_call_against f114)
 (x308 : NsF K "kind_without_sign" f115) (x309 : FF K "kind_without_sign" "kind_without_sign" s_kind_without_sign f115) (x310 : CI K "KIND_INFINITE" 1) (x311 : CI K "KIND_ZERO" 2)
 (x312 : CI K "KIND_SMALL" 3) (x313 : CI K "KIND_OTHER" 4) (x314 : NsF K "call_kind" f116) (x315 : FF K "call_kind" "call_kind" s_call_kind f116)
 (x316 : CI K "KIND_EMPTY" 16) (x317 : CI K "KIND_NONE" 0) (x318 : CI K "KIND_WITH_MINUS" 8) (x319 : NsF K "numbers_given" f117)
 (x320 : FF K "numbers_given" "numbers_given" s_numbers_given f117) (x321 : NsF K "GIVEN" DG) (x322 : CI K "LOAD" 4) (x323 : NsF K "answer_of_move" f118)
 (x324 : FF K "answer_of_move" "answer_of_move" s_answer_of_move f118) (x325 : NsF K "MOVES" DM) (x326 : NsF K "answer_of_reckoning" f119) (x327 : FF K "answer_of_reckoning" "answer_of_reckoning" s_answer_of_reckoning f119)
 (x328 : NsF K "RECKONINGS" DR) (x329 : NsF K "answer_of" f120) (x330 : FF K "answer_of" "answer_of" s_answer_of f120) (x331 : CI K "LAST_MOVE" 13)
 (x332 : K.lookup DG = some oG) (x333 : K.lookup DP = some oP) (x334 : K.lookup DM = some oM) (x335 : K.lookup DR = some oR)
 (x336 : oG.cls = .type "tuple") (x337 : tupI oG = some GIVENL) (x338 : oP.cls = .type "tuple") (x339 : tupI oP = some [24,53,64])
 (x340 : oM.cls = .type "dict" ∧ oM.dict = none ∧ oM.slots = #[]) (x341 : dictI oM = some kvsM) (x342 : (kvsM.map (·.1)).Nodup) (x343 : oR.cls = .type "dict" ∧ oR.dict = none ∧ oR.slots = #[])
 (x344 : dictI oR = some kvsR) (x345 : (kvsR.map (·.1)).Nodup) (x346 : AtD kvsM 0 f51) (x347 : AtD kvsM 1 f52)
 (x348 : AtD kvsM 2 f54) (x349 : AtD kvsM 3 f61) (x350 : AtD kvsM 4 f60) (x351 : AtD kvsM 5 f59)
 (x352 : AtD kvsM 6 f62) (x353 : AtD kvsM 7 f56) (x354 : AtD kvsM 8 f57) (x355 : AtD kvsM 9 f65)
 (x356 : AtD kvsM 10 f67) (x357 : AtD kvsM 11 f55) (x358 : AtD kvsM 12 f97) (x359 : AtD kvsM 13 f98)
 (x360 : AtD kvsR 14 f108) (x361 : AtD kvsR 15 f103) (x362 : AtD kvsR 16 f104) (x363 : AtD kvsR 17 f105)
 (x364 : AtD kvsR 18 f106) (x365 : AtD kvsR 19 f107) (x366 : AtD kvsR 20 f109) (x367 : AtD kvsR 21 f113)
 (x368 : AtD kvsR 22 f114) (x369 : AtD kvsR 23 f116) (x370 : NsF K "answers" f121) (x371 : FF K "answers" "answers" s_answers f121) :
 ∃ fd : FuncData,(∀ (s : Shared) (us : List Value),us.length = (["calls"] : List Str).length → BindsTo s fd ⟨us,[]⟩ ((["calls"] : List Str).zip us)) ∧ ∀ base : Heap,K.In base → base.Ns mainGlobals mg → FnOk P w K mg base CX0 14 fa fd ["calls"] (spAnswers K) := by
 obtain ⟨fda,Fa,gma,hba⟩ := fun2 bd_answers X G x370 x371
 cases hfa.symm.trans gma
 refine ⟨fda,hba,fun base _ _ => ?_⟩
 have claE : Cls K aE := x1.cls
 have tE : CE K aE := ⟨claE,x14,x15,x16⟩
 have claF : Cls K aF := x3.cls
 have tF : CF1 K aF := ⟨claF,x17,x18,x19⟩
 have claR : Cls K aR := x5.cls
 have tR : CR1 K aR := ⟨claR,x20,x21⟩
 have claG : Cls K aG := x7.cls
 have tG : CG K aG := ⟨claG,x22,x23,x24,x25⟩
 have claD : Cls K aD := x9.cls
 have tD : CD1 K aD := ⟨claD,x26,x27⟩
 have claS : Cls K aS := x11.cls
 have tS : CS1 K aS := ⟨claS,x28,x29⟩
 have claT : Cls K aT := x13.cls
 have tT : CT1 K aT := ⟨claT,x30,x31⟩
 have c_DOWN : Con1 mg "DOWN" (.int 1) := conI2 X G x38
 have c_UP : Con1 mg "UP" (.int 2) := conI2 X G x39
 have c_NEAREST : Con1 mg "NEAREST" (.int 0) := conI2 X G x42
 have n_abs := conN X G x49
 have n_min := conN X G x56
 have n_max := conN X G x69
 have c_TOO_GREAT : Con1 mg "TOO_GREAT" (.int 8) := conI2 X G x70
 have c_NOT_EXACT : Con1 mg "NOT_EXACT" (.int 32) := conI2 X G x71
 have c_TOO_SMALL : Con1 mg "TOO_SMALL" (.int 16) := conI2 X G x72
 have c_TOP_EXPONENT : Con1 mg "TOP_EXPONENT" (.int 32767) := conI2 X G x83
 have c_NONE : Con1 mg "NONE" (.int NONEn) := conI2 X G x88
 have n_reversed := conN X G x91
 have n_range := conN X G x94
 have c_BYTES : Con1 mg "BYTES" (.int 10) := conI2 X G x95
 have c_BIAS : Con1 mg "BIAS" (.int 16383) := conI2 X G x98
 have c_TOWARDS_ZERO : Con1 mg "TOWARDS_ZERO" (.int 3) := conI2 X G x101
 have c_LEAST_LEAD : Con1 mg "LEAST_LEAD" (.int (-16382)) := conI2 X G x102
 have c_PLACES_number : Con1 mg "PLACES_number" (.ref DP) := conR X G x115
 have c_LIMIT_number : Con1 mg "LIMIT_number" (.int 16384) := conI2 X G x116
 have c_PLACES_double : Con1 mg "PLACES_double" (.int 53) := conI2 X G x119
 have c_LEAST : Con1 mg "LEAST" (.int (-1022)) := conI2 X G x120
 have c_LIMIT_double : Con1 mg "LIMIT_double" (.int 1024) := conI2 X G x121
 have c_INFINITY : Con1 mg "INFINITY" (.int INFn) := conI2 X G x130
 have c_LOWEST_UNIT : Con1 mg "LOWEST_UNIT" (.int (-1074)) := conI2 X G x131
 have c_DOUBLE_INFINITY : Con1 mg "DOUBLE_INFINITY" (.int 9218868437227405312) := conI2 X G x134
 have c_LONGEST : Con1 mg "LONGEST" (.int 2) := conI2 X G x139
 have c_EMPTY : Con1 mg "EMPTY" (.int EMn) := conI2 X G x140
 have c_REGISTERS : Con1 mg "REGISTERS" (.int 8) := conI2 X G x141
 have c_DONE : Con1 mg "DONE" (.int 0) := conI2 X G x162
 have c_BAD_ARGUMENT : Con1 mg "BAD_ARGUMENT" (.int (-2)) := conI2 X G x165
 have c_IS_FULL : Con1 mg "IS_FULL" (.int (-5)) := conI2 X G x168
 have c_IS_EMPTY : Con1 mg "IS_EMPTY" (.int (-4)) := conI2 X G x173
 have n_len := conN X G x180
 have n_all := conN X G x181
 have c_BAD_NUMBER : Con1 mg "BAD_NUMBER" (.int (-3)) := conI2 X G x186
 have c_SMALL_TAKEN : Con1 mg "SMALL_TAKEN" (.int 2) := conI2 X G x191
 have c_NOTHING_CAME : Con1 mg "NOTHING_CAME" (.int 1) := conI2 X G x194
 have c_WAY_THAT_IS_SET : Con1 mg "WAY_THAT_IS_SET" (.int 4) := conI2 X G x199
 have c_DOUBLE_NONE : Con1 mg "DOUBLE_NONE" (.int 9221120237041090560) := conI2 X G x202
 have c_QUOTIENT_SHIFT : Con1 mg "QUOTIENT_SHIFT" (.int 130) := conI2 X G x219
 have c_ROOT_SHIFT : Con1 mg "ROOT_SHIFT" (.int 134) := conI2 X G x226
 have c_BY_ZERO : Con1 mg "BY_ZERO" (.int 4) := conI2 X G x245
 have c_FAR : Con1 mg "FAR" (.int 65536) := conI2 X G x256
 have n_any := conN X G x273
 have c_ONE_IS_NONE : Con1 mg "ONE_IS_NONE" (.int 3) := conI2 X G x298
 have c_ALIKE : Con1 mg "ALIKE" (.int 1) := conI2 X G x299
 have c_BELOW : Con1 mg "BELOW" (.int 0) := conI2 X G x300
 have c_ABOVE : Con1 mg "ABOVE" (.int 2) := conI2 X G x301
 have c_KIND_INFINITE : Con1 mg "KIND_INFINITE" (.int 1) := conI2 X G x310
 have c_KIND_ZERO : Con1 mg "KIND_ZERO" (.int 2) := conI2 X G x311
 have c_KIND_SMALL : Con1 mg "KIND_SMALL" (.int 3) := conI2 X G x312
 have c_KIND_OTHER : Con1 mg "KIND_OTHER" (.int 4) := conI2 X G x313
 have c_KIND_EMPTY : Con1 mg "KIND_EMPTY" (.int 16) := conI2 X G x316
 have c_KIND_NONE : Con1 mg "KIND_NONE" (.int 0) := conI2 X G x317
 have c_KIND_WITH_MINUS : Con1 mg "KIND_WITH_MINUS" (.int 8) := conI2 X G x318
 have c_GIVEN : Con1 mg "GIVEN" (.ref DG) := conR X G x321
 have c_LOAD : Con1 mg "LOAD" (.int 4) := conI2 X G x322
 have c_MOVES : Con1 mg "MOVES" (.ref DM) := conR X G x325
 have c_RECKONINGS : Con1 mg "RECKONINGS" (.ref DR) := conR X G x328
 have c_LAST_MOVE : Con1 mg "LAST_MOVE" (.int 13) := conI2 X G x331
 have hG : TupN K DG GIVENL := tup_of x332 x336 x337 (by decide)
 have hP : TupN K DP [24,53,64] := tup_of x333 x338 x339 (by decide)
 have kM : KDict K DM kvsM := kdict_of x334 x340.1 x340.2.1 x340.2.2 x341 x342
 have kR : KDict K DR kvsR := kdict_of x335 x343.1 x343.2.1 x343.2.2 x344 x345
 have k_Exact := ok_Exact (P := P) (w := w) (base := base) (srcC2 bd_Exact_init X G x0 x1 x32 x33) tE
 have f_lead_of := ok_lead (P := P) (w := w) (base := base) (src2 bd_lead_of X G x34 x35) tE
 have f_outward := ok_outward (P := P) (w := w) (base := base) (src2 bd_outward X G x36 x37) c_DOWN c_UP
 have f_grows := ok_grows (P := P) (w := w) (base := base) (src2 bd_grows X G x40 x41) c_NEAREST f_outward
 have f_made_whole := ok_made (P := P) (w := w) (base := base) (src2 bd_made_whole X G x43 x44) f_grows
 have f_size_by := ok_size (P := P) (w := w) (base := base) (src2 bd_size_by X G x45 x46) tE
 have f_exact_whole := ok_exw (P := P) (w := w) (base := base) (src2 bd_exact_whole X G x47 x48) n_abs k_Exact
 have f_units_in := ok_units (P := P) (w := w) (base := base) (src2 bd_units_in X G x50 x51) tE f_made_whole f_size_by
 have f_to_multiple := ok_mult (P := P) (w := w) (base := base) (src2 bd_to_multiple X G x52 x53) tE k_Exact f_units_in
 have f_same_size := ok_same (P := P) (w := w) (base := base) (src2 bd_same_size X G x54 x55) tE n_min f_size_by
 have f_is_below := ok_below (P := P) (w := w) (base := base) (src2 bd_is_below X G x57 x58) tE f_lead_of
 have f_overflowed := ok_over (P := P) (w := w) (base := base) (src2 bd_overflowed X G x59 x60) tF c_NEAREST f_outward k_Exact
 have k_Form := ok_Form (P := P) (w := w) (base := base) (srcC2 bd_Form_init X G x2 x3 x61 x62) tF
 have k_Rounded := ok_Rounded (P := P) (w := w) (base := base) (srcC2 bd_Rounded_init X G x4 x5 x63 x64) tR
 have f_is_tiny := ok_tiny (P := P) (w := w) (base := base) (src2 bd_is_tiny X G x65 x66) tE tF f_is_below f_lead_of f_to_multiple
 have f_rounded := ok_rounded (P := P) (w := w) (base := base) (src2 bd_rounded X G x67 x68) tE tF n_max c_TOO_GREAT c_NOT_EXACT c_TOO_SMALL f_is_below f_lead_of f_to_multiple f_same_size f_overflowed f_is_tiny k_Rounded
 have f_sign_of := ok_sign_of (P := P) (w := w) (base := base) (src2 bd_sign_of X G x73 x74)
 have f_exponent_of := ok_exponent_of (P := P) (w := w) (base := base) (src2 bd_exponent_of X G x75 x76)
 have f_bits_of := ok_bits_of (P := P) (w := w) (base := base) (src2 bd_bits_of X G x77 x78)
 have f_with_sign := ok_with_sign (P := P) (w := w) (base := base) (src2 bd_with_sign X G x79 x80)
 have f_is_infinite := ok_is_infinite (P := P) (w := w) (base := base) (src2 bd_is_infinite X G x81 x82) f_bits_of f_exponent_of c_TOP_EXPONENT
 have f_is_well_formed := ok_well (P := P) (w := w) (base := base) (src2 bd_is_well_formed X G x84 x85) f_bits_of f_exponent_of
 have f_as_kept := ok_kept (P := P) (w := w) (base := base) (src2 bd_as_kept X G x86 x87) f_is_infinite f_exponent_of c_TOP_EXPONENT c_NONE
 have f_from_row := ok_from (P := P) (w := w) (base := base) (src2 bd_from_row X G x89 x90) n_reversed
 have f_to_row := ok_to (P := P) (w := w) (base := base) (src2 bd_to_row X G x92 x93) n_range c_BYTES
 have f_exact_of := ok_exact_of (P := P) (w := w) (base := base) (src2 bd_exact_of X G x96 x97) n_max c_BIAS f_exponent_of f_bits_of f_sign_of k_Exact
 have f_number_of := ok_number (P := P) (w := w) (base := base) (src2 bd_number_of X G x99 x100) tE n_max c_TOWARDS_ZERO c_LEAST_LEAD c_BIAS f_with_sign f_lead_of f_units_in
 have f_number_of_whole := ok_whole (P := P) (w := w) (base := base) (src2 bd_number_of_whole X G x103 x104) f_number_of f_exact_whole
 have f_without_sign := ok_without_sign (P := P) (w := w) (base := base) (src2 bd_without_sign X G x105 x106) f_with_sign f_sign_of
 have f_opposite := ok_opposite (P := P) (w := w) (base := base) (src2 bd_opposite X G x107 x108) f_with_sign f_sign_of f_without_sign
 have f_is_zero := ok_is_zero (P := P) (w := w) (base := base) (src2 bd_is_zero X G x109 x110) f_without_sign
 have f_is_small := ok_is_small (P := P) (w := w) (base := base) (src2 bd_is_small X G x111 x112) f_bits_of f_exponent_of
 have f_number_form := ok_nform (P := P) (w := w) (base := base) (src2 bd_number_form X G x113 x114) c_PLACES_number hP c_LEAST_LEAD c_LIMIT_number k_Form
 have f_double_form := ok_form (P := P) (w := w) (base := base) (src2 bd_double_form X G x117 x118) c_PLACES_double c_LEAST c_LIMIT_double k_Form
 have f_exponent_in := ok_expin (P := P) (w := w) (base := base) (src2 bd_exponent_in X G x122 x123)
 have f_fraction_in := ok_fracin (P := P) (w := w) (base := base) (src2 bd_fraction_in X G x124 x125)
 have f_is_small_double := ok_small_double (P := P) (w := w) (base := base) (src2 bd_is_small_double X G x126 x127) f_exponent_in f_fraction_in
 have f_number_of_double := ok_num_double (P := P) (w := w) (base := base) (src2 bd_number_of_double X G x128 x129) f_exponent_in f_fraction_in f_with_sign c_INFINITY c_NONE f_number_of k_Exact c_LOWEST_UNIT
 have f_infinite_double := ok_infd (P := P) (w := w) (base := base) (src2 bd_infinite_double X G x132 x133) c_DOUBLE_INFINITY
 have f_double_of := ok_double_of (P := P) (w := w) (base := base) (src2 bd_double_of X G x135 x136) tE n_max c_TOWARDS_ZERO c_LEAST c_PLACES_double f_lead_of f_units_in
 have m_Ring_begin := ok_begin (P := P) (w := w) (mg := mg) (base := base) (srcM2 bd_Ring_begin x137 x138) tG c_NEAREST c_LONGEST c_EMPTY c_REGISTERS
 have k_Ring := ok_RInit (P := P) (w := w) (base := base) (srcC2 bd_Ring_init X G x6 x7 x142 x143) tG m_Ring_begin
 have m_Ring_set_flags := ok_setflags (P := P) (w := w) (mg := mg) (base := base) (srcM2 bd_Ring_set_flags x144 x145) tG
 have m_Ring_is_empty := ok_isempty (P := P) (w := w) (mg := mg) (base := base) (srcM2 bd_Ring_is_empty x146 x147) tG c_EMPTY
 have m_Ring_is_full := ok_isfull (P := P) (w := w) (mg := mg) (base := base) (srcM2 bd_Ring_is_full x148 x149) tG c_EMPTY c_REGISTERS
 have m_Ring_push := ok_push (P := P) (w := w) (mg := mg) (base := base) (srcM2 bd_Ring_push x150 x151) tG c_REGISTERS
 have m_Ring_take_top := ok_take (P := P) (w := w) (mg := mg) (base := base) (srcM2 bd_Ring_take_top x152 x153) tG c_EMPTY
 have m_Ring_swap := ok_swap (P := P) (w := w) (mg := mg) (base := base) (srcM2 bd_Ring_swap x154 x155) tG
 have f_is_within := ok_within (P := P) (w := w) (base := base) (src2 bd_is_within X G x156 x157)
 have f_is_place := ok_place (P := P) (w := w) (base := base) (src2 bd_is_place X G x158 x159) f_is_within c_REGISTERS
 have f_call_begin := ok_call_begin (P := P) (w := w) (base := base) (src2 bd_call_begin X G x160 x161) tG m_Ring_begin c_DONE
 have f_call_control := ok_call_control (P := P) (w := w) (base := base) (src2 bd_call_control X G x163 x164) tG f_is_within c_DONE c_BAD_ARGUMENT
 have f_pushed := ok_pushed (P := P) (w := w) (base := base) (src2 bd_pushed X G x166 x167) tG m_Ring_is_full m_Ring_push c_DONE c_IS_FULL
 have f_call_flags := ok_call_flags (P := P) (w := w) (base := base) (src2 bd_call_flags X G x169 x170) tG f_is_within c_BAD_ARGUMENT
 have f_call_swap := ok_call_swap (P := P) (w := w) (base := base) (src2 bd_call_swap X G x171 x172) tG f_is_place m_Ring_is_empty m_Ring_swap c_BAD_ARGUMENT c_IS_EMPTY c_DONE
 have f_call_copy := ok_call_copy (P := P) (w := w) (base := base) (src2 bd_call_copy X G x174 x175) tG f_is_place m_Ring_is_empty f_pushed c_BAD_ARGUMENT c_IS_EMPTY
 have f_call_store := ok_call_store (P := P) (w := w) (base := base) (src2 bd_call_store X G x176 x177) tG m_Ring_is_empty m_Ring_take_top f_to_row c_IS_EMPTY c_DONE
 have f_is_ten_bytes := ok_ten (P := P) (w := w) (base := base) (src2 bd_is_ten_bytes X G x178 x179) f_is_within n_len n_all c_BYTES
 have f_call_whole := ok_call_whole (P := P) (w := w) (base := base) (src2 bd_call_whole X G x182 x183) f_is_within f_pushed f_number_of_whole c_BAD_ARGUMENT
 have f_call_load := ok_call_load (P := P) (w := w) (base := base) (src2 bd_call_load X G x184 x185) f_is_ten_bytes f_from_row f_is_well_formed f_as_kept f_pushed c_BAD_ARGUMENT c_BAD_NUMBER
 have f_call_told := ok_call_told (P := P) (w := w) (base := base) (src2 bd_call_told X G x187 x188) tG f_to_row c_DONE
 have f_call_double := ok_call_double (P := P) (w := w) (base := base) (src2 bd_call_double X G x189 x190) tG f_is_within f_pushed f_number_of_double f_is_small_double m_Ring_set_flags c_BAD_ARGUMENT c_DONE c_SMALL_TAKEN
 have f_nothing_whole := ok_nothing (P := P) (w := w) (base := base) (src2 bd_nothing_whole X G x192 x193) tG m_Ring_set_flags c_NOTHING_CAME
 have f_whole_from := ok_whole_from (P := P) (w := w) (base := base) (src2 bd_whole_from X G x195 x196) tG tE f_is_infinite c_NONE f_nothing_whole f_exact_of f_to_multiple f_is_within f_same_size m_Ring_set_flags c_NOT_EXACT
 have f_call_int := ok_call_int (P := P) (w := w) (base := base) (src2 bd_call_int X G x197 x198) tG f_is_within m_Ring_is_empty m_Ring_take_top f_whole_from c_WAY_THAT_IS_SET c_BAD_ARGUMENT c_IS_EMPTY c_DONE
 have f_double_from := ok_double_from (P := P) (w := w) (base := base) (src2 bd_double_from X G x200 x201) tG tR f_is_infinite c_NONE c_DOUBLE_NONE f_infinite_double f_sign_of f_rounded f_double_form f_exact_of m_Ring_set_flags f_double_of
 have f_call_bits := ok_call_bits (P := P) (w := w) (base := base) (src2 bd_call_bits X G x203 x204) tG m_Ring_is_empty m_Ring_take_top f_double_from c_IS_EMPTY c_DONE
 have k_Division := ok_Division (P := P) (w := w) (base := base) (srcC2 bd_Division_init X G x8 x9 x205 x206) tD
 have f_signed_units := ok_signed (P := P) (w := w) (base := base) (src2 bd_signed_units X G x207 x208) tE f_size_by
 have f_sign_of_no_sum := ok_nosum (P := P) (w := w) (base := base) (src2 bd_sign_of_no_sum X G x209 x210) tE c_DOWN
 have f_sum_of := ok_sum (P := P) (w := w) (base := base) (src2 bd_sum_of X G x211 x212) tE n_min f_signed_units f_sign_of_no_sum f_exact_whole k_Exact
 have f_product_of := ok_product (P := P) (w := w) (base := base) (src2 bd_product_of X G x213 x214) tE k_Exact
 have f_with_tail := ok_tail (P := P) (w := w) (base := base) (src2 bd_with_tail X G x215 x216) k_Exact
 have f_quotient_of := ok_quotient (P := P) (w := w) (base := base) (src2 bd_quotient_of X G x217 x218) tE c_QUOTIENT_SHIFT f_with_tail
 have f_divided := ok_divided (P := P) (w := w) (base := base) (src2 bd_divided X G x220 x221) tE n_min n_abs f_size_by f_made_whole k_Exact k_Division
 have f_whole_root := ok_whole_root (P := P) (w := w) (base := base) (src2 bd_whole_root X G x222 x223)
 have f_root_of := ok_root_of (P := P) (w := w) (base := base) (src2 bd_root_of X G x224 x225) tE c_ROOT_SHIFT f_whole_root f_with_tail
 have k_Result := ok_Result (P := P) (w := w) (base := base) (srcC2 bd_Result_init X G x10 x11 x227 x228) tS
 have k_Rest := ok_Rest (P := P) (w := w) (base := base) (srcC2 bd_Rest_init X G x12 x13 x229 x230) tT
 have f_plain := ok_plain (P := P) (w := w) (base := base) (src2 bd_plain X G x231 x232) k_Result
 have f_nothing := ok_none0 (P := P) (w := w) (base := base) (src2 bd_nothing X G x233 x234) c_NONE c_NOTHING_CAME k_Result
 have f_infinite := ok_infinite (P := P) (w := w) (base := base) (src2 bd_infinite X G x235 x236) c_INFINITY f_with_sign
 have f_result_of := ok_result_of (P := P) (w := w) (base := base) (src2 bd_result_of X G x237 x238) tR f_rounded f_number_of k_Result
 have f_sum_result := ok_sum_result (P := P) (w := w) (base := base) (src2 bd_sum_result X G x239 x240) f_is_infinite f_nothing f_plain f_result_of f_sum_of f_exact_of
 have f_product_result := ok_product_result (P := P) (w := w) (base := base) (src2 bd_product_result X G x241 x242) f_is_infinite f_is_zero f_nothing f_plain f_infinite f_sign_of f_result_of f_exact_of f_product_of
 have f_quotient_result := ok_quotient_result (P := P) (w := w) (base := base) (src2 bd_quotient_result X G x243 x244) f_is_infinite f_is_zero f_nothing f_plain f_infinite f_sign_of f_result_of f_exact_of f_quotient_of f_with_sign c_BY_ZERO k_Result
 have f_do_result := ok_do_result (P := P) (w := w) (base := base) (src2 bd_do_result X G x246 x247) c_NONE f_plain f_opposite f_sum_result f_product_result f_quotient_result
 have f_root_result := ok_root_result (P := P) (w := w) (base := base) (src2 bd_root_result X G x248 x249) c_NONE c_INFINITY f_is_zero f_nothing f_plain f_sign_of f_result_of f_exact_of f_root_of
 have f_near_result := ok_near_result (P := P) (w := w) (base := base) (src2 bd_near_result X G x250 x251) c_NONE c_NOT_EXACT f_is_infinite f_plain f_exact_of f_to_multiple f_same_size f_number_of k_Result
 have f_scaled_without_end := ok_end (P := P) (w := w) (base := base) (src2 bd_scaled_without_end X G x252 x253) f_is_infinite f_is_zero f_nothing f_plain f_infinite f_sign_of f_with_sign
 have f_steps_of := ok_steps (P := P) (w := w) (base := base) (src2 bd_steps_of X G x254 x255) n_min c_TOWARDS_ZERO c_FAR f_units_in f_exact_of f_sign_of
 have f_scale_result := ok_scale_result (P := P) (w := w) (base := base) (src2 bd_scale_result X G x257 x258) tE c_NONE c_LONGEST f_is_infinite f_plain f_scaled_without_end f_sign_of f_exact_of f_steps_of f_number_form f_result_of k_Exact
 have f_exponent_result := ok_exp_result (P := P) (w := w) (base := base) (src2 bd_exponent_result X G x259 x260) c_NONE c_INFINITY c_BY_ZERO f_is_infinite f_is_zero f_plain f_infinite f_exact_of f_lead_of f_number_of_whole k_Result
 have f_without_exponent := ok_without_exponent (P := P) (w := w) (base := base) (src2 bd_without_exponent X G x261 x262) tE c_NONE f_is_infinite f_is_zero f_exact_of f_lead_of f_number_of k_Exact
 have f_rest_result := ok_rest_result (P := P) (w := w) (base := base) (src2 bd_rest_result X G x263 x264) tD c_NONE c_TOWARDS_ZERO c_NEAREST f_is_infinite f_is_zero f_nothing f_plain f_exact_of f_divided f_number_of k_Rest
 have m_Ring_turn := ok_turn (P := P) (w := w) (mg := mg) (base := base) (srcM2 bd_Ring_turn x265 x266) tG c_REGISTERS
 have f_call_turn := ok_call_turn (P := P) (w := w) (base := base) (src2 bd_call_turn X G x267 x268) tG f_is_within m_Ring_turn c_BAD_ARGUMENT c_DONE
 have f_call_free := ok_call_free (P := P) (w := w) (base := base) (src2 bd_call_free X G x269 x270) tG f_is_place c_BAD_ARGUMENT c_EMPTY c_DONE
 have f_is_small_taken := ok_small_taken (P := P) (w := w) (base := base) (src2 bd_is_small_taken X G x271 x272) f_is_small n_any c_NONE c_NOTHING_CAME
 have f_keep_flags := ok_keep_flags (P := P) (w := w) (base := base) (src2 bd_keep_flags X G x274 x275) tG f_is_small_taken m_Ring_set_flags c_SMALL_TAKEN
 have f_settle := ok_settle (P := P) (w := w) (base := base) (src2 bd_settle X G x276 x277) tG tS f_keep_flags
 have f_are_taken := ok_are (P := P) (w := w) (base := base) (src2 bd_are_taken X G x278 x279) tG m_Ring_is_empty
 have f_call_root := ok_call_root (P := P) (w := w) (base := base) (src2 bd_call_root X G x280 x281) tG m_Ring_is_empty f_settle f_number_form c_IS_EMPTY c_DONE f_root_result
 have f_call_near := ok_call_near (P := P) (w := w) (base := base) (src2 bd_call_near X G x282 x283) tG m_Ring_is_empty f_settle c_IS_EMPTY c_DONE f_near_result
 have f_call_scale := ok_call_scale (P := P) (w := w) (base := base) (src2 bd_call_scale X G x284 x285) tG f_are_taken f_settle c_IS_EMPTY c_DONE f_scale_result
 have f_call_split := ok_call_split (P := P) (w := w) (base := base) (src2 bd_call_split X G x286 x287) tG m_Ring_is_empty f_settle c_IS_EMPTY c_DONE c_IS_FULL m_Ring_is_full m_Ring_push f_exponent_result f_without_exponent
 have f_call_rest := ok_call_rest (P := P) (w := w) (base := base) (src2 bd_call_rest X G x288 x289) tG tT f_are_taken f_settle f_is_within c_IS_EMPTY c_BAD_ARGUMENT f_rest_result
 have f_call_do := ok_call_do (P := P) (w := w) (base := base) (src2 bd_call_do X G x290 x291) tG f_are_taken f_settle f_is_within f_number_form f_is_place c_IS_EMPTY c_BAD_ARGUMENT c_DONE f_do_result
 have f_call_sign := ok_call_sign (P := P) (w := w) (base := base) (src2 bd_call_sign X G x292 x293) tG m_Ring_is_empty f_is_within c_IS_EMPTY c_BAD_ARGUMENT c_DONE c_NONE f_without_sign f_opposite
 have f_rank_of := ok_rank (P := P) (w := w) (base := base) (src2 bd_rank_of X G x294 x295) f_without_sign f_sign_of
 have f_order_of := ok_order (P := P) (w := w) (base := base) (src2 bd_order_of X G x296 x297) c_NONE c_ONE_IS_NONE c_ALIKE c_BELOW c_ABOVE f_rank_of
 have f_compared := ok_compared (P := P) (w := w) (base := base) (src2 bd_compared X G x302 x303) f_order_of f_keep_flags c_NOTHING_CAME c_ONE_IS_NONE
 have f_call_compare := ok_call_compare (P := P) (w := w) (base := base) (src2 bd_call_compare X G x304 x305) tG f_are_taken f_is_within f_is_place c_IS_EMPTY c_BAD_ARGUMENT f_compared
 have f_call_against := ok_call_against (P := P) (w := w) (base := base) (src2 bd_call_against X G x306 x307) tG m_Ring_is_empty f_is_within c_IS_EMPTY c_BAD_ARGUMENT f_number_of_whole f_compared
 have f_kind_without_sign := ok_kind0 (P := P) (w := w) (base := base) (src2 bd_kind_without_sign X G x308 x309) f_is_infinite f_is_zero f_is_small c_KIND_INFINITE c_KIND_ZERO c_KIND_SMALL c_KIND_OTHER
 have f_call_kind := ok_call_kind (P := P) (w := w) (base := base) (src2 bd_call_kind X G x314 x315) tG m_Ring_is_empty c_NONE c_KIND_EMPTY c_KIND_NONE c_KIND_WITH_MINUS f_kind_without_sign f_sign_of
 have f_numbers_given := ok_given (P := P) (w := w) (base := base) (src2 bd_numbers_given X G x319 x320) c_GIVEN hG c_LOAD
 have hMo : CallsOn 9 isMove P w K mg base aG DM := by
  refine ⟨kvsM,kM,fun p g q sh hR => ?_⟩
  cases sh with
  | begin_  => exact call2 f_call_begin (PySem.W.mg_of X G x160) x346 (by decide) fun r0 b0 l0 s0 H0 Q0 R0 V0 hb0 hbl0 D0 => ⟨r0,b0,l0,s0,_,_,rfl,R0,V0,hb0,hbl0,rfl,D0⟩
  | control a b h1 h2 => exact call2 f_call_control (PySem.W.mg_of X G x163) x347 (by decide) fun r0 b0 l0 s0 H0 Q0 R0 V0 hb0 hbl0 D0 => ⟨r0,b0,l0,s0,_,_,rfl,R0,V0,hb0,hbl0,⟨a,b,rfl,rfl⟩,D0⟩
  | flags a h1 => exact call2 f_call_flags (PySem.W.mg_of X G x169) x348 (by decide) fun r0 b0 l0 s0 H0 Q0 R0 V0 hb0 hbl0 D0 => ⟨r0,b0,l0,s0,_,_,rfl,R0,V0,hb0,hbl0,⟨a,rfl,rfl⟩,D0⟩
  | told  => exact call2 f_call_told (PySem.W.mg_of X G x187) x349 (by decide) fun r0 b0 l0 s0 H0 Q0 R0 V0 hb0 hbl0 D0 => ⟨r0,b0,l0,s0,_,_,rfl,R0,V0,hb0,hbl0,rfl,D0⟩
  | load bs h1 h2 => exact call2 f_call_load (PySem.W.mg_of X G x184) x350 (by decide) fun r0 b0 l0 s0 H0 Q0 R0 V0 hb0 hbl0 D0 => ⟨r0,b0,l0,s0,_,_,rfl,R0,V0,hb0,hbl0,⟨bs,rfl,h1,h2,rfl⟩,D0⟩
  | whole a h1 h2 => exact call2 f_call_whole (PySem.W.mg_of X G x182) x351 (by decide) fun r0 b0 l0 s0 H0 Q0 R0 V0 hb0 hbl0 D0 => ⟨r0,b0,l0,s0,_,_,rfl,R0,V0,hb0,hbl0,⟨a,rfl,h1,h2,rfl⟩,D0⟩
  | double b h1 => exact call2 f_call_double (PySem.W.mg_of X G x189) x352 (by decide) fun r0 b0 l0 s0 H0 Q0 R0 V0 hb0 hbl0 D0 => ⟨r0,b0,l0,s0,_,_,rfl,R0,V0,hb0,hbl0,⟨b,rfl,h1,rfl⟩,D0⟩
  | copy a h1 => exact call2 f_call_copy (PySem.W.mg_of X G x174) x353 (by decide) fun r0 b0 l0 s0 H0 Q0 R0 V0 hb0 hbl0 D0 => ⟨r0,b0,l0,s0,_,_,rfl,R0,V0,hb0,hbl0,⟨a,rfl,rfl⟩,D0⟩
  | store  => exact call2 f_call_store (PySem.W.mg_of X G x176) x354 (by decide) fun r0 b0 l0 s0 H0 Q0 R0 V0 hb0 hbl0 D0 => ⟨r0,b0,l0,s0,_,_,rfl,R0,V0,hb0,hbl0,rfl,D0⟩
  | int a h1 => exact call2 f_call_int (PySem.W.mg_of X G x197) x355 (by decide) fun r0 b0 l0 s0 H0 Q0 R0 V0 hb0 hbl0 D0 => ⟨r0,b0,l0,s0,_,_,rfl,R0,V0,hb0,hbl0,⟨a,rfl,rfl⟩,D0⟩
  | bits  => exact call2 f_call_bits (PySem.W.mg_of X G x203) x356 (by decide) fun r0 b0 l0 s0 H0 Q0 R0 V0 hb0 hbl0 D0 => ⟨r0,b0,l0,s0,_,_,rfl,R0,V0,hb0,hbl0,rfl,D0⟩
  | swap a h1 => exact call2 f_call_swap (PySem.W.mg_of X G x171) x357 (by decide) fun r0 b0 l0 s0 H0 Q0 R0 V0 hb0 hbl0 D0 => ⟨r0,b0,l0,s0,_,_,rfl,R0,V0,hb0,hbl0,⟨a,rfl,rfl⟩,D0⟩
  | turn a h1 => exact call2 f_call_turn (PySem.W.mg_of X G x267) x358 (by decide) fun r0 b0 l0 s0 H0 Q0 R0 V0 hb0 hbl0 D0 => ⟨r0,b0,l0,s0,_,_,rfl,R0,V0,hb0,hbl0,⟨a,rfl,rfl⟩,D0⟩
  | free a h1 => exact call2 f_call_free (PySem.W.mg_of X G x269) x359 (by decide) fun r0 b0 l0 s0 H0 Q0 R0 V0 hb0 hbl0 D0 => ⟨r0,b0,l0,s0,_,_,rfl,R0,V0,hb0,hbl0,⟨a,rfl,rfl⟩,D0⟩
  | op a b c h1 h2 h3 => exact absurd hR (by unfold isMove; decide)
  | root  => exact absurd hR (by unfold isMove; decide)
  | near  => exact absurd hR (by unfold isMove; decide)
  | scale  => exact absurd hR (by unfold isMove; decide)
  | split  => exact absurd hR (by unfold isMove; decide)
  | rest a h1 => exact absurd hR (by unfold isMove; decide)
  | sign a h1 => exact absurd hR (by unfold isMove; decide)
  | compare a b h1 h2 => exact absurd hR (by unfold isMove; decide)
  | against a h1 => exact absurd hR (by unfold isMove; decide)
  | kind  => exact absurd hR (by unfold isMove; decide)
 have f_answer_of_move := ok_move (P := P) (w := w) (base := base) (src2 bd_answer_of_move X G x323 x324) c_MOVES hMo
 have hRe : CallsOn 11 isReck P w K mg base aG DR := by
  refine ⟨kvsR,kR,fun p g q sh hR => ?_⟩
  cases sh with
  | begin_  => exact absurd hR (by unfold isReck; decide)
  | control a b h1 h2 => exact absurd hR (by unfold isReck; decide)
  | flags a h1 => exact absurd hR (by unfold isReck; decide)
  | told  => exact absurd hR (by unfold isReck; decide)
  | load bs h1 h2 => exact absurd hR (by unfold isReck; decide)
  | whole a h1 h2 => exact absurd hR (by unfold isReck; decide)
  | double b h1 => exact absurd hR (by unfold isReck; decide)
  | copy a h1 => exact absurd hR (by unfold isReck; decide)
  | store  => exact absurd hR (by unfold isReck; decide)
  | int a h1 => exact absurd hR (by unfold isReck; decide)
  | bits  => exact absurd hR (by unfold isReck; decide)
  | swap a h1 => exact absurd hR (by unfold isReck; decide)
  | turn a h1 => exact absurd hR (by unfold isReck; decide)
  | free a h1 => exact absurd hR (by unfold isReck; decide)
  | op a b c h1 h2 h3 => exact call2 f_call_do (PySem.W.mg_of X G x290) x360 (by decide) fun r0 b0 l0 s0 H0 Q0 R0 V0 hb0 hbl0 D0 => ⟨r0,b0,l0,s0,_,_,rfl,R0,V0,hb0,hbl0,⟨a,b,c,rfl,rfl⟩,D0⟩
  | root  => exact call2 f_call_root (PySem.W.mg_of X G x280) x361 (by decide) fun r0 b0 l0 s0 H0 Q0 R0 V0 hb0 hbl0 D0 => ⟨r0,b0,l0,s0,_,_,rfl,R0,V0,hb0,hbl0,rfl,D0⟩
  | near  => exact call2 f_call_near (PySem.W.mg_of X G x282) x362 (by decide) fun r0 b0 l0 s0 H0 Q0 R0 V0 hb0 hbl0 D0 => ⟨r0,b0,l0,s0,_,_,rfl,R0,V0,hb0,hbl0,rfl,D0⟩
  | scale  => exact call2 f_call_scale (PySem.W.mg_of X G x284) x363 (by decide) fun r0 b0 l0 s0 H0 Q0 R0 V0 hb0 hbl0 D0 => ⟨r0,b0,l0,s0,_,_,rfl,R0,V0,hb0,hbl0,rfl,D0⟩
  | split  => exact call2 f_call_split (PySem.W.mg_of X G x286) x364 (by decide) fun r0 b0 l0 s0 H0 Q0 R0 V0 hb0 hbl0 D0 => ⟨r0,b0,l0,s0,_,_,rfl,R0,V0,hb0,hbl0,rfl,D0⟩
  | rest a h1 => exact call2 f_call_rest (PySem.W.mg_of X G x288) x365 (by decide) fun r0 b0 l0 s0 H0 Q0 R0 V0 hb0 hbl0 D0 => ⟨r0,b0,l0,s0,_,_,rfl,R0,V0,hb0,hbl0,⟨a,rfl,rfl⟩,D0⟩
  | sign a h1 => exact call2 f_call_sign (PySem.W.mg_of X G x292) x366 (by decide) fun r0 b0 l0 s0 H0 Q0 R0 V0 hb0 hbl0 D0 => ⟨r0,b0,l0,s0,_,_,rfl,R0,V0,hb0,hbl0,⟨a,rfl,rfl⟩,D0⟩
  | compare a b h1 h2 => exact call2 f_call_compare (PySem.W.mg_of X G x304) x367 (by decide) fun r0 b0 l0 s0 H0 Q0 R0 V0 hb0 hbl0 D0 => ⟨r0,b0,l0,s0,_,_,rfl,R0,V0,hb0,hbl0,⟨a,b,rfl,rfl⟩,D0⟩
  | against a h1 => exact call2 f_call_against (PySem.W.mg_of X G x306) x368 (by decide) fun r0 b0 l0 s0 H0 Q0 R0 V0 hb0 hbl0 D0 => ⟨r0,b0,l0,s0,_,_,rfl,R0,V0,hb0,hbl0,⟨a,rfl,h1,rfl⟩,D0⟩
  | kind  => exact call2 f_call_kind (PySem.W.mg_of X G x314) x369 (by decide) fun r0 b0 l0 s0 H0 Q0 R0 V0 hb0 hbl0 D0 => ⟨r0,b0,l0,s0,_,_,rfl,R0,V0,hb0,hbl0,rfl,D0⟩
 have f_answer_of_reckoning := ok_reck (P := P) (w := w) (base := base) (src2 bd_answer_of_reckoning X G x326 x327) c_RECKONINGS hRe
 have f_answer_of := ok_answer_of (P := P) (w := w) (base := base) (src2 bd_answer_of X G x329 x330) c_LAST_MOVE f_answer_of_move f_answer_of_reckoning
 exact ok_answers Fa k_Ring n_len f_numbers_given f_answer_of
end Rr
end
namespace PySem.W.Fast
def tw15525653934519794849:=0
def tw15222955806250407096:=0
def tw13911459828640149851:=0
def tw11467741356694801607:=0
def tw17994691742298365847:=0
def tw16794975723661630186:=0
def tw15584916793787083838:=0
def tw4646500669470114197:=0
def tw384609176351578582:=0
def tw431459567925265145:=0
def tw3685830717664031785:=0
def tw5869361081793054192:=0
def tw7708507527877905055:=0
def tw2076384083596402677:=0
def tw12107637317144712653:=0
def tw484749368772107316:=0
def tw4269317645950255849:=0
def tw15473032764496787155:=0
def tw7396390801406222278:=0
def tw8564599891588662441:=0
def tw13247039076349347384:=0
def tw8033792829166624761:=0
def tw4581531522703694966:=0
def tw10604964462442567137:=0
def tw3325091462090723941:=0
def tw14701277061055125320:=0
def tw18422941314273060212:=0
def tw10589684802768919804:=0
def tw8358512565883092479:=0
def tw6427152913094567550:=0
def tw5188183304362863270:=0
def tw12263259407110579148:=0
def tw18311518596301893377:=0
def tw333922234495575997:=0
def tw10908598999102157128:=0
def tw4314156536768673951:=0
def tw8375818120995865311:=0
def tw4621691880416239981:=0
def tw16297962395738210843:=0
def tw14636403189085660558:=0
def tw7303152882669292278:=0
def tw5248594927908760526:=0
def tw10608843863282933516:=0
def tw15850998971626594097:=0
def tw2652531139326503503:=0
def tw15722196129377187668:=0
def tw14439459595960798339:=0
def tw14357911052803775112:=0
def tw30731695946140971:=0
def tw7038534311805221587:=0
def tw8647240562189947532:=0
def tw12707713599977761171:=0
def tw2914506118866759061:=0
def tw1166850519470415754:=0
def tw17194035458791724972:=0
def tw16090850026978489525:=0
def tw17982535887755893249:=0
def tw14257680427369791081:=0
def tw1355585117730218736:=0
def tw14547204350437465671:=0
def tw9420195453128220762:=0
def tw16080554616690337223:=0
def tw2545732595832788829:=0
def tw7569253673172348412:=0
def tw1895399075087579020:=0
def tw3524488476777552770:=0
def tw14036831633705966268:=0
def tw18281245216037377179:=0
def tw1440160160380999908:=0
def tw818534461599454890:=0
def tw1258813406590410104:=0
def tw10858540693748291823:=0
def tw14611547157359438245:=0
def tw17075625347636880508:=0
def tw10737318581140397822:=0
def tw13593997615387187780:=0
def tw17400581040150141275:=0
def tw16591522995613564777:=0
def tw7336043694744341635:=0
def tw7734258748780305151:=0
def tw8063203391252598848:=0
def tw16725594912527191785:=0
def tw11915566558516158264:=0
def tw11474406992343205282:=0
def tw12873782989173411222:=0
def tw5952238454482130217:=0
def tw14721178001720369823:=0
def tw16378300507022407740:=0
def tw6766780167056165221:=0
def tw7519789196162355277:=0
def tw18143739226115083305:=0
def tw1580046964297454283:=0
def tw17989749180158495010:=0
def tw4375452291218824585:=0
def tw10564254308130751102:=0
def tw14615636549783558329:=0
def tw700696441116539765:=0
def tw17394922909436979358:=0
def tw5117055460529912091:=0
def tw5504693472781310996:=0
def tw13491994440220681098:=0
def tw129274441222479207:=0
def tw5056243795073472547:=0
def tw16299238123713650803:=0
def tw14882055492081732521:=0
def tw10297711421993353278:=0
def tw8514192502533249524:=0
def tw2150015971854655004:=0
def tw2005277450231390892:=0
def tw17014644427131353690:=0
def tw4675160517927610136:=0
def tw15840477629085842672:=0
def tw956187500494433287:=0
def tw5789604222446093456:=0
def tw5265686157363922846:=0
def tw10655585070235492038:=0
def tw418114089104433288:=0
def tw6721291900489837572:=0
def tw18390633858200597100:=0
def tw9262796239122607024:=0
def tw11406074496547261358:=0
def tw675798141131218411:=0
def tw4827554066072399512:=0
def tw13587252444831509981:=0
def tw15177974299298041653:=0
def tw15934535869660832509:=0
def tw1449246168533560306:=0
def tw14354979058314486423:=0
def tw7114909845187881918:=0
def tw11730172665941056994:=0
def tw12052292348277965498:=0
def tw11213097896244541587:=0
def tw9515109199525210671:=0
def tw5272488952009214876:=0
def tw7456625326205216075:=0
def tw7957237505808454522:=0
def tw11421675558511571077:=0
def tw3340938771206379076:=0
def tw3028962492729098829:=0
def tw5695011837654043145:=0
def tw13511981152869684708:=0
def tw12012155044540522529:=0
def tw5759123098831962259:=0
def tw2233888345752102367:=0
def tw9887539946361655352:=0
def tw9605161321814985860:=0
def tw1851963809090461100:=0
def tw9029832841992381538:=0
def tw18363618789578614717:=0
def tw17681375881819888925:=0
def tw716299559021398593:=0
def tw10638870074841075072:=0
def tw8787435571936395516:=0
def tw3439893741117915461:=0
def tw17351560822757094457:=0
def tw11807102808897109123:=0
def tw15464412118855744619:=0
def tw14639287340927724381:=0
def tw5828511147855841416:=0
def tw1947323515122134640:=0
def tw6999364998428981950:=0
def tw9216076705695174892:=0
def tw14586125416960135276:=0
def tw10773318537827950686:=0
def tw2672710613294279655:=0
def tw14156631557044885060:=0
def tw6981672680760100402:=0
def tw15626228598138991406:=0
def tw3931275842136569279:=0
def tw4617307867385341342:=0
def tw2291867862486608412:=0
def tw3104833473527360270:=0
def tw17497277908284560097:=0
def tw13040514847201750319:=0
def tw6584811442904744264:=0
def tw17536966282483441032:=0
def tw18126288932036902439:=0
def tw18010752034001149479:=0
def tw3587442017511530207:=0
def tw646824759707732542:=0
def tw15346727664208424352:=0
def tw8266717376017409067:=0
def tw4707869584102159398:=0
def tw13299449028039610576:=0
def tw6017648719423313069:=0
def tw17982495982298197120:=0
def tw6219102428961433837:=0
def tw9110087827682430429:=0
def tw11131313843958300019:=0
def tw2634954235894854862:=0
def tw6084509189657224408:=0
def tw15898552761276937071:=0
def tw13058681125956005417:=0
def tw7802329953574660932:=0
def tw14187442082818796145:=0
def tw18263381601440363517:=0
def tw8224633497756126726:=0
def tw15992104635356589274:=0
def tw15178838148623040119:=0
def tw4267675932560570878:=0
def tw18255364259984145775:=0
def tw6223111316621031903:=0
def tw10200544950087070837:=0
def tw11328628286721898834:=0
def tw2951992998588547187:=0
def tw12581409561493545486:=0
def tw6163146752315916293:=0
def tw12300600303601083102:=0
def tw7291382634976907594:=0
def tw7470734002333543010:=0
def tw11510430282812648760:=0
def tw11926929173654748028:=0
def tw12322332834730926499:=0
def tw7255210049928313756:=0
def tw11300805346122433246:=0
def tw15291740011566286915:=0
def tw950583548158140842:=0
def tw13013060565450918685:=0
def tw9287205609265560387:=0
def tw2099627236728731800:=0
def tw9659382877911571304:=0
def tw9780151252902926341:=0
def tw1098966867238828168:=0
def tw557953009662981058:=0
def tw11566105356679866093:=0
def tw13624206982652053677:=0
def tw5724507697123747310:=0
def tw13831924913123694482:=0
def tw10742053628374159377:=0
def tw18285575447693410346:=0
def tw1601212930028272479:=0
def tw6783900678853392896:=0
def tw5997147486250951884:=0
def tw10081533692017928223:=0
def tw17064229966563476885:=0
def tw12105675525844551602:=0
def tw3363883920379174974:=0
def tw16432792559868044512:=0
def tw4284011100722928246:=0
def tw8197418985240119623:=0
def tw18177258290586595674:=0
def tw1115222129375719734:=0
def tw1230246373237826047:=0
def tw10131605044608433761:=0
def tw12172734053161671437:=0
def tw8517377153630709062:=0
def tw8825787321208928955:=0
def tw15455360887636535815:=0
def tw9232837563803102231:=0
def tw17835766692977765131:=0
def tw15119434329359212646:=0
def tw17149708456558743402:=0
def tw870871766946088819:=0
def tw16186815362089338264:=0
def tw645637173518959646:=0
def tw14168872003710581069:=0
def tw9782399269399488150:=0
def tw5819167276971483999:=0
def tw2322423728693528236:=0
def tw5559429443864369063:=0
def tw6797944566706912063:=0
def tw16920199792318679456:=0
def tw13602904137810321411:=0
def tw7963056873925032177:=0
def tw12595102785837451386:=0
def tw1440181125316820412:=0
def tw9078335688143325682:=0
def tw6232964237480948587:=0
def tw17457048520367227110:=0
def tw11643919249116961155:=0
def tw7740168871476984431:=0
def tw5865843474566384524:=0
def tw9232283094353176083:=0
def tw6645898522251973790:=0
def tw14464721744826626351:=0
def tw875928129011518803:=0
def tw5591097348233750126:=0
def tw6519369554100786467:=0
def tw9680024003864426514:=0
def tw16472199605895878018:=0
def tw3851497171749536668:=0
def tw5007870156738914957:=0
def tw1952316015952152586:=0
def tw9582547725819296426:=0
def tw16414717225631344125:=0
def tw14866630038655800809:=0
def tw7083604478165612780:=0
def tw5423352731020499732:=0
def tw2045635891322990916:=0
def tw15629466824572385069:=0
def tw4565751233542041789:=0
def tw8661207558229001517:=0
def tw2464255613894400096:=0
def tw17844933280571466771:=0
def tw16865969517733709610:=0
def tw17485508665162302005:=0
def tw16457611051085108309:=0
def tw13178132572384566027:=0
def tw13663622281236565027:=0
def tw16607030371256290169:=0
def tw1077344781256138646:=0
def tw3596680756716177989:=0
def tw11344024216680734677:=0
def tw3432936392057538508:=0
def tw17003365352709679675:=0
def tw6305248675196485723:=0
def tw4629223849618824179:=0
def tw16490754769607703531:=0
def tw14349100454401372545:=0
def tw16008832688645012497:=0
def tw8155918600496119746:=0
def tw9402947733364195767:=0
def tw1703859677987059928:=0
def tw14408975406625426345:=0
def tw6810147686750736377:=0
def tw9252127072730094259:=0
def tw13575464410420914419:=0
def tw9752737310270403991:=0
def tw13370486453166470769:=0
def tw7862437986232671966:=0
def tw5429169766887393900:=0
def tw17491732597230118055:=0
def tw10784186812957571246:=0
def tw12503096559240869849:=0
def tw12941014874725538925:=0
def tw6372374039678543168:=0
def tw7950556627327552844:=0
def tw8693461182304414234:=0
def tw8015860097035155546:=0
def tw14298969065422771135:=0
def tw16127407048661741187:=0
def tw16031117304652375619:=0
def tw5286696966512565147:=0
def tw4600624241037167852:=0
def tw7050376831182220828:=0
def tw14140713543478167391:=0
def tw15816442635495965769:=0
def tw5132869113158879144:=0
def tw4322959735802171916:=0
def tw8221729221381751905:=0
def tw2283699577382484458:=0
def tw8564640332930074492:=0
def tw11098715178189824088:=0
def tw8372968670578813676:=0
def tw9023777992002123701:=0
def tw12997731336062250257:=0
def tw17054951895392487628:=0
def tw16037625992534446206:=0
def tw7123046057839035354:=0
def tw953351425055522958:=0
def tw5643585580192896545:=0
def tw7772410780825232801:=0
def tw392026077218646772:=0
def tw7659984961111354321:=0
def tw6933731149383316250:=0
def tw13620717236700409583:=0
def tw144888546654248458:=0
def tw6306920231217733529:=0
def tw15634100111248664082:=0
def tw5323930666946890833:=0
def tw4156241216458896740:=0
def tw10978784626454176016:=0
def tw18196360890165039301:=0
def tw17507359120760466027:=0
def tw5585477048313965920:=0
def tw4869500140965845468:=0
def tw17812877016359037962:=0
def tw8149321054619757683:=0
def tw15882417276234395711:=0
def tw4633418595733431762:=0
def tw13570693429568698552:=0
def tw18316201736826900981:=0
def tw5863212985667966703:=0
def tw551551948230480711:=0
def tw6946044768916834293:=0
def tw5317159960586701843:=0
def tw13061707201070091765:=0
def tw5423995150563350342:=0
def tw2972419147849631616:=0
def tw7088992251952261900:=0
def tw8734969965135483557:=0
def tw7517717227743902047:=0
def tw12796932690818604026:=0
def tw5749646066429626367:=0
def tw16728660729144088147:=0
def tw16730106796349284013:=0
def tw9700175818119151748:=0
def tw13731768242320943831:=0
def tw8943567325505811191:=0
def tw11014337782819203798:=0
def tw12729959470081660974:=0
def tw12948564902362087497:=0
def tw1851839570312742173:=0
def tw3100565562648049889:=0
def tw6873028823791560691:=0
def tw14948207965468456179:=0
def tw7213677441928020438:=0
def tw10132411793329252340:=0
def tw17240706648348252800:=0
def tw4030037754096767737:=0
def tw2513891100548674946:=0
def tw11621617014594341104:=0
def tw13036112145906579859:=0
def tw9006471683111932447:=0
def tw6465390777893071545:=0
def tw18156408845465880580:=0
def tw15500927617591277246:=0
def tw10216558930160871111:=0
def tw380406743342335958:=0
def tw7237903250944503275:=0
def tw5968516068277096445:=0
def tw1951631311450399442:=0
def tw11153338182491087111:=0
def tw9990450896168210758:=0
def tw195936764360491224:=0
def tw9027714811473541466:=0
def tw13690083922103825614:=0
def tw13838317534515400514:=0
def tw5589803792195927854:=0
def tw9788309572161777961:=0
def tw14174339190646245322:=0
def tw6379401065692500312:=0
def tw13632986060265730841:=0
def tw9221390743373661154:=0
def tw7061613933868792203:=0
def tw17866663552420976585:=0
def tw1687427549865491913:=0
def tw10963458135094944884:=0
def tw5543460570441360133:=0
def tw14465706656899842862:=0
def tw15545238790577527268:=0
def tw12476082861259467539:=0
def tw180722390089152245:=0
def tw14167888077021080691:=0
def tw353054625455118741:=0
def tw4601705951554744203:=0
def tw740266287456352533:=0
def tw13100104940018329998:=0
def tw2852579497656337267:=0
def tw8032455125930224810:=0
def tw6348967585537898470:=0
def tw17899431172117497302:=0
def tw14275383889342579744:=0
def tw17878503576969318829:=0
def tw16987589197268784880:=0
def tw15354718330549692295:=0
def tw5172578447057227240:=0
def tw4143818673456954729:=0
def tw4002638713669406672:=0
def tw14232597451342435740:=0
def tw2519101600281846382:=0
def tw993350589673214226:=0
def tw12524354328212732293:=0
def tw2619978927340506686:=0
def tw14745679375984724051:=0
def tw6189636538882921271:=0
def tw14965247069220966561:=0
def tw2265130984728928333:=0
def tw3119014025803529924:=0
def tw8532700054966604609:=0
def tw5408372017181540286:=0
def tw9626124196238995973:=0
def tw4476846811648789503:=0
def tw4732536130796556593:=0
def tw11950731799853966837:=0
def tw8213875707652433382:=0
def tw12278862164590328856:=0
def tw10782571593784666192:=0
def tw7673985747467259600:=0
def tw8203174524185003880:=0
def tw15263589014300758523:=0
def tw6628004916368566155:=0
def tw6664065481937643723:=0
def tw13251821075499138043:=0
def tw11699950807115879301:=0
def tw8230332875463889360:=0
def tw3706555957716950732:=0
def tw4223369749104007812:=0
def tw3846613578612790520:=0
def tw17930780017051661062:=0
def tw5161754327266286828:=0
def tw5519059044824017826:=0
def tw12602673504625667523:=0
def tw12080258791090726953:=0
def tw6271219124188201464:=0
def tw11811416218244871583:=0
def tw3616021137354674382:=0
def tw3106491004938329727:=0
def tw11330577986608589273:=0
def tw14804750784329765618:=0
def tw7636855518948076883:=0
def tw3309712191445415909:=0
def tw6236298025764670936:=0
def tw18170455202039834480:=0
def tw8093750291237714332:=0
def tw17189269998797416292:=0
def tw8855966911723065477:=0
def tw1205036031378505864:=0
def tw5596797574032468144:=0
def tw13945141576296429682:=0
def tw10897277139124077025:=0
def tw10801272803648923412:=0
def tw901559062955415033:=0
def tw12328641078109999499:=0
def tw14949479016406520486:=0
def tw2488459465919599603:=0
def tw4819594832701426184:=0
def tw10221410639491196457:=0
def tw15879604287941009276:=0
def tw17959972147386165051:=0
def tw2188642256763306221:=0
def tw8923550492765656364:=0
def tw18079260288000757902:=0
def tw1667394043414530302:=0
def tw15925100707648744241:=0
def tw10960500661664728012:=0
def tw1320119115966920971:=0
def tw7235228559493717598:=0
def tw18222683064050338790:=0
def tw16987063806590397559:=0
def tw16206303403517540684:=0
def tw11161540989446877823:=0
def tw10910763167103589882:=0
def tw7277040422299651898:=0
def tw15115509865505066058:=0
def tw1127066756760144348:=0
def tw17280751976856393798:=0
def tw5304719605582194854:=0
def tw5462610588423174107:=0
def tw4795674129684218351:=0
def tw16450326822136574346:=0
def tw9121342682491729553:=0
def tw12520316259979680176:=0
def tw2819169540327359714:=0
def tw789935072375312554:=0
def tw14224653417901707740:=0
def tw10737535864844978665:=0
def tw6627600984172349494:=0
def tw13458053115168696762:=0
def tw2349205700618779351:=0
def tw11385561170870976967:=0
def tw16402718777766105638:=0
def tw17553584381063881782:=0
def tw16709388568477885424:=0
def tw4873355087530735578:=0
def tw5874039381575567260:=0
def tw17103661614583563638:=0
def tw16618326175547599465:=0
def tw4338997281581271803:=0
def tw9145111384221346127:=0
def tw7395633031568562288:=0
def tw16572933035541021701:=0
def tw5933843774671853776:=0
def tw2935812091951249824:=0
def tw15937693184122996155:=0
def tw471731023271727466:=0
def tw14778033387268323043:=0
def tw1495172672884088720:=0
def tw4958610467105563358:=0
def tw5462381231482565253:=0
def tw3481357247374896184:=0
def tw16815993218945905104:=0
def tw14525347115409472892:=0
def tw7289878449734948685:=0
def tw7963081715820902101:=0
def tw15327835567027510695:=0
def tw553571950306186243:=0
def tw6310700488435329624:=0
def tw13857718158277574133:=0
def tw18299161916708782170:=0
def tw14169705155705874286:=0
def tw9145501533278768350:=0
def tw2417252941261303240:=0
def tw15971656976925842897:=0
def tw14655410849441456098:=0
def tw11994967039884356450:=0
def tw4432165135400758818:=0
def tw1214590011680921217:=0
def tw5100929586076131571:=0
def tw1141943930786844249:=0
def tw9644434239136046352:=0
def tw1037741379885940911:=0
def tw4344233056665661608:=0
def tw4667614215505243680:=0
def tw9005493011656626242:=0
def tw5854392579253082181:=0
def tw2738059488546571116:=0
def tw13356661765691808817:=0
def tw6250778626770717275:=0
def tw6821689154205017105:=0
def tw15307625983432348570:=0
def tw1368184169137666219:=0
def tw12447197038592250587:=0
def tw16111276247216555415:=0
def tw3857861603540893837:=0
def tw6782875453595956935:=0
def tw1104753295831028343:=0
def tw346749675865043181:=0
def tw14831826209857984249:=0
def tw2085584287720465639:=0
def tw6993777097074243620:=0
def tw6128299333924120984:=0
def tw15827747657415413059:=0
def tw6667211999156761552:=0
def tw830499908120928309:=0
def tw14394304736568962927:=0
def tw9602537794728235629:=0
def tw2382511442256687979:=0
def tw6288243973751115410:=0
def tw15312829301219217175:=0
def tw11500869197878997447:=0
def tw597713460058301061:=0
def tw14895988203838477473:=0
def tw11845555576653853316:=0
def tw16664342184799132455:=0
def tw17618990836426481239:=0
def tw5048162164910660294:=0
def tw6718264161848922334:=0
def tw10223683020889309070:=0
def tw6363980522833124141:=0
def tw15176158539486890122:=0
def tw6106905549420376491:=0
def tw16222264683378226879:=0
def tw14779812498816482098:=0
def tw2813394036172927403:=0
def tw17448723685869019286:=0
def tw779742805960755891:=0
def tw3680334530953436020:=0
def tw13536961137990000007:=0
def tw6180382990138341771:=0
def tw9156550302727401210:=0
def tw5354594257591170182:=0
def tw13720246559533751181:=0
def tw16921989993865500978:=0
def tw17822959770119066628:=0
def tw11704277065595449339:=0
def tw8899630487623267609:=0
def tw13477297735775592589:=0
def tw476038982432224641:=0
def tw8370144070512935765:=0
def tw2486448835754013627:=0
def tw1069180174045579831:=0
def tw14190486437354654962:=0
def tw1647116595889110771:=0
def tw15018659006585965075:=0
def tw4117239825046500518:=0
def tw8636328084045833880:=0
def tw11426306329886627875:=0
def tw11114636049203763751:=0
def tw2583174443562945500:=0
def tw964965322274478100:=0
def tw17223012224833217993:=0
def tw3590576967021640526:=0
def tw14669857251162408864:=0
def tw7804132068059949364:=0
def tw1252348445650483596:=0
def tw15635553765996655427:=0
def tw7019505577450476771:=0
def tw5737452279938049087:=0
def tw6773067242031263562:=0
def tw6736271624103635236:=0
def tw14921446280894055353:=0
def tw17818173570497455800:=0
def tw6614683756084208027:=0
def tw6005148131868747498:=0
def tw4609244202061237744:=0
def tw17977465203923748829:=0
def tw10420543142610606119:=0
def tw5201926240060770972:=0
def tw17845108211924688812:=0
def tw1122250844599868495:=0
def tw18410856503647799234:=0
def tw10194753647899073502:=0
def tw12896032338821707677:=0
def tw16459907366036722616:=0
def tw9455490165074463914:=0
def tw12179752226204041744:=0
def tw7828829818019148500:=0
def tw4685480946750585051:=0
def tw16457709577306385853:=0
def tw9043810409287831003:=0
def tw12858623223157650083:=0
def tw6893735725133557477:=0
def tw13252210491966579647:=0
def tw12558714837208411619:=0
def tw12345666603956165317:=0
def tw2929161070898781180:=0
def tw17648887126922468667:=0
def tw9197573938153775786:=0
def tw525403163872760771:=0
def tw9106183331461911824:=0
def tw5427943933997737340:=0
def tw13084173846609719957:=0
def tw10955992895070651344:=0
def tw8164797600179834262:=0
def tw14183385932580824577:=0
def tw16416836533743386425:=0
def tw11737371627945257942:=0
def tw147058651320945044:=0
def tw3634034168694281015:=0
def tw29490968922491836:=0
def tw3350291992058582000:=0
def tw11994083963415622238:=0
def tw1734663826138728082:=0
def tw18096581248840323095:=0
def tw6935930779569978517:=0
def tw9761705627434678241:=0
def tw5311572499566328178:=0
def tw3296937487121674846:=0
def tw17704932457503703931:=0
def tw12753230697169965559:=0
def tw16976178351367933167:=0
def tw3542311835012017545:=0
def tw8926705359839253118:=0
def tw2912339707516376448:=0
def tw14619451994378874942:=0
def tw8576258404453352408:=0
def tw16082607710830264306:=0
def tw14349645245271759322:=0
def tw16841244260696125283:=0
def tw13988891353220967651:=0
def tw12004714422864086430:=0
def tw2114996745076202208:=0
def tw839395270977106631:=0
def tw9756951589421744996:=0
def tw16231628856668522941:=0
def tw8361296025161808597:=0
def tw11796399216470924660:=0
def tw14316715287310618213:=0
def tw8798607704182747022:=0
def tw15309364625375322620:=0
def tw18201189652083320859:=0
def tw47668893354631645:=0
def tw6283734693042386434:=0
def tw10547759326015211226:=0
def tw11697440023075337973:=0
def tw7092578423247106782:=0
def tw6642280782037021557:=0
def tw11713167375013903919:=0
def tw4473453725638589465:=0
def tw3402791835659043985:=0
def tw3407694804885315123:=0
def tw16031747719889944696:=0
def tw1491920032171736865:=0
def tw3634609941805681091:=0
def tw8956801530914247861:=0
def tw18023847919532862656:=0
def tw8771444974915447063:=0
def tw11970206384566359468:=0
def tw15760408244689802143:=0
def tw10817715859377326643:=0
def tw570768989865749174:=0
def tw1569374643131274512:=0
def tw555582372805585197:=0
def tw13669005909077821610:=0
def tw16955909975840644261:=0
def tw2923025905086818374:=0
def tw1420492923458541041:=0
def tw9196817435093547876:=0
def tw3140868186215993136:=0
def tw10665010875294396296:=0
def tw371680226103557869:=0
def tw13037057926486255191:=0
def tw6515533909684868585:=0
def tw859690970846105578:=0
def tw21118037696714930:=0
def tw7607327494401204834:=0
def tw15048532117320827919:=0
def tw9786075674664256574:=0
def tw18103578551692952622:=0
def tw8904404629258724003:=0
def tw11912878819302640064:=0
def tw3304464310225548051:=0
def tw11068005673611349834:=0
def tw16891597349701607300:=0
def tw12619069115405291966:=0
def tw12261620160405972072:=0
def tw499778656335057067:=0
def tw4865836454521032397:=0
def tw7286011362584617978:=0
def tw5103887189802613262:=0
def tw1327024684920621443:=0
def tw11897689738021731563:=0
def tw18072905592811059461:=0
def tw17525928662644527968:=0
def tw12916102404896407866:=0
def tw9646225772829156993:=0
def tw3132211590591754322:=0
def tw15382105211892069996:=0
def tw7862154918128174305:=0
def tw518576051112981600:=0
def tw10887462497617883534:=0
def tw15394705308362511828:=0
def tw8078360443702240398:=0
def tw412387338778775965:=0
def tw17346579116038197500:=0
def tw17424608955478749949:=0
def tw10756290251229079963:=0
def tw7754280303552547667:=0
def tw2131348005456297049:=0
def tw15853711443916744269:=0
def tw15844937152520996849:=0
def tw14202176718042822017:=0
def tw6710217744391335198:=0
def tw5680101757191564349:=0
def tw15373714983879470455:=0
def tw8992453980559769431:=0
def tw10193946710978235727:=0
def tw17123192555165818053:=0
def tw650506320306948265:=0
def tw10288100798264767185:=0
def tw13800239074534267931:=0
def tw1021153777998706643:=0
def tw1270972556752294913:=0
def tw2742440795672895445:=0
def tw17926483598835314873:=0
def tw1414351029996677599:=0
def tw18214164724794638878:=0
def tw10751745036068722062:=0
def tw8882670881869779265:=0
def tw2957217815472101986:=0
def tw7468735455202145352:=0
def tw12067159102546451313:=0
def tw13210650706280487738:=0
def tw14582326890105566604:=0
def tw10650858030239053595:=0
def tw7227902373146496088:=0
def tw15973154879668389979:=0
def tw12307490559392262763:=0
def tw17422908119185169202:=0
def tw11760485801387854481:=0
def tw16778137983667875599:=0
def tw6767547349737035022:=0
def tw10115547920714652443:=0
def tw4477571689188190345:=0
def tw16637684645816558604:=0
def tw6525005886703159178:=0
def tw15592614987574227924:=0
def tw15784963920949290397:=0
def tw3146549956582269683:=0
def tw772613850127141349:=0
def tw13525164143560661617:=0
def tw2696362428420290099:=0
def tw11872896555297976129:=0
def tw10254203359969678785:=0
def tw918416443534848868:=0
def tw6878516035989315425:=0
def tw4349277841999529233:=0
def tw1654770296062359706:=0
def tw5778014804294264194:=0
def tw6123346164151198657:=0
def tw8186379446767108602:=0
def tw10369792535504743617:=0
def tw15851636942428245980:=0
def tw3306716592630488647:=0
def tw10949054491702117331:=0
def tw667439940504197416:=0
def tw985436901045755278:=0
def tw1601470338977168443:=0
def tw13044914051858461816:=0
def tw16028595443988695000:=0
def tw3743388331972687859:=0
def tw4770411762461445833:=0
def tw7515426150820719155:=0
def tw7009173654085748706:=0
def tw1573351173200805638:=0
def tw13899133274491354990:=0
def tw1751437347077898454:=0
def tw5598929637953478786:=0
def tw14046567459295846246:=0
def tw9164439519979539556:=0
def tw9803299291001860299:=0
def tw9690591391690485226:=0
def tw15390938240915744288:=0
def tw768483250821814591:=0
def tw8832098806285768344:=0
def tw16605018754924052756:=0
def tw11141382092563369919:=0
def tw12697126053084433578:=0
end PySem.W.Fast
namespace Hq
open PySem PySem.W PySem.Calls PyProof.Rows
def st0 : Stmt := PySem.Challenge.pw_ringreckon_s01_answers.main.body.getD 174 (.Pass ⟨0,0,0,0⟩)
def q0 : Program := { PySem.Challenge.pw_ringreckon_s01_answers with main := { PySem.Challenge.pw_ringreckon_s01_answers.main with body := [st0] } }
def loose0 : List Str := "NEAREST" :: "DOWN" :: "UP" :: "TOWARDS_ZERO" :: "NOTHING_CAME" :: "SMALL_TAKEN" :: "BY_ZERO" :: "TOO_GREAT" :: "TOO_SMALL" :: "NOT_EXACT" :: "DONE" :: "BAD_ARGUMENT" :: "BAD_NUMBER" :: "IS_EMPTY" :: "IS_FULL" :: "Exact" :: "Form" :: "Rounded" :: "exact_whole" :: "lead_of" :: "outward" :: "grows" :: "made_whole" :: "size_by" :: "units_in" :: "to_multiple" :: "same_size" :: "is_below" :: "overflowed" :: "is_tiny" :: "rounded" :: "EMPTY" :: "NONE" :: "INFINITY" :: "BYTES" :: "TOP_EXPONENT" :: "BIAS" :: "LEAST_LEAD" :: "LIMIT_number" :: "PLACES_number" :: "LONGEST" :: "sign_of" :: "exponent_of" :: "bits_of" :: "with_sign" :: "without_sign" :: "opposite" :: "is_zero" :: "is_small" :: "is_infinite" :: "is_well_formed" :: "as_kept" :: "from_row" :: "to_row" :: "number_form" :: "exact_of" :: "number_of" :: "number_of_whole" :: "REGISTERS" :: "Ring" :: "is_within" :: "is_place" :: "DOUBLE_NONE" :: "DOUBLE_INFINITY" :: "PLACES_double" :: "LEAST" :: "LIMIT_double" :: "LOWEST_UNIT" :: "double_form" :: "exponent_in" :: "fraction_in" :: "is_small_double" :: "number_of_double" :: "infinite_double" :: "double_of" :: "WAY_THAT_IS_SET" :: "call_begin" :: "call_control" :: "call_flags" :: "call_told" :: "pushed" :: "is_ten_bytes" :: "call_load" :: "call_whole" :: "call_double" :: "call_copy" :: "call_store" :: "nothing_whole" :: "whole_from" :: "call_int" :: "double_from" :: "call_bits" :: "call_swap" :: "call_turn" :: "call_free" :: "MOVES" :: "answer_of_move" :: "QUOTIENT_SHIFT" :: "ROOT_SHIFT" :: "Division" :: "signed_units" :: "sign_of_no_sum" :: "sum_of" :: "product_of" :: "with_tail" :: "quotient_of" :: "whole_root" :: "root_of" :: "divided" :: "FAR" :: "Result" :: "Rest" :: "plain" :: "nothing" :: "infinite" :: "result_of" :: "sum_result" :: "product_result" :: "quotient_result" :: "do_result" :: "root_result" :: "near_result" :: "scaled_without_end" :: "steps_of" :: "scale_result" :: "exponent_result" :: "without_exponent" :: "rest_result" :: "BELOW" :: "ALIKE" :: "ABOVE" :: "ONE_IS_NONE" :: "KIND_NONE" :: "KIND_INFINITE" :: "KIND_ZERO" :: "KIND_SMALL" :: "KIND_OTHER" :: "KIND_WITH_MINUS" :: "KIND_EMPTY" :: "is_small_taken" :: "keep_flags" :: "settle" :: "are_taken" :: "call_do" :: "call_root" :: "call_near" :: "call_scale" :: "call_split" :: "call_rest" :: "call_sign" :: "rank_of" :: "order_of" :: "compared" :: "call_compare" :: "call_against" :: "kind_without_sign" :: "call_kind" :: "RECKONINGS" :: "answer_of_reckoning" :: "LOAD" :: "LAST_MOVE" :: "GIVEN" :: "numbers_given" :: "answer_of" :: []
def d0 : DefRec := match st0 with
 | .FunctionDef _ a b _ _ _ sc _ _ pos => ⟨"answers",a,b,sc,pos⟩
 | _ => ⟨"answers",{ posonlyargs := [],args := [],vararg := none,kwonlyargs := [],kw_defaults := [],kwarg := none,defaults := [] },[],{ kind := .function,names := [],isGenerator := false,isCoroutine := false },⟨0,0,0,0⟩⟩
theorem PySem.W.holds_os {q : Program} {loose : List Str} {Xt : Shared → Bool} {XP : (Str → Option Value) → Heap → Prop} {α : Type} {Yf : Shared → α} {Ya : World → α} {YP : World → Heap → Prop} {N : Nat}
  (left : LeftO PySem.Challenge.rw_ringreckon_s01_answers.prog q0 loose0 (fun _ => true) Yf Ya N) (hY : ∀ w s,Yf s = Ya w → YP w s.heap) (hYk : ∀ w h h',YP w h → (∀ b o,h.get? b = some o → h'.get? b = some o) → YP w h')
  (hX : ∀ s,Xt s = true → XP (s.heap.nsMap mainGlobals) s.heap) (hXk : ∀ mg h h',XP mg h → (∀ b o,h.get? b = some o → h'.get? b = some o) → XP mg h')
  (_ : 0 = 0) (_ : 0 = 0) (_ : 0 = 0) (hRf : ∀ s,Xt s = true → RecFacts [] s.heap) (hsh : ∀ as,PySem.Challenge.rw_ringreckon_s01_answers.pre as = true → WShape.hasAll [] as (PySem.Challenge.rw_ringreckon_s01_answers.args.map Codec.shape) = true)
  (k1 : PySem.Challenge.rw_ringreckon_s01_answers.wellSaid = true) (ok : (chainsOk q0 && opensWell PySem.Challenge.rw_ringreckon_s01_answers.prog) = true) (hb : PySem.Challenge.rw_ringreckon_s01_answers.prog.bare) (hw : ∃ args,PySem.Challenge.rw_ringreckon_s01_answers.pre args = true ∧ WData.layableAll args = true)
  (call : WalkOS q0 loose0 (fun _ _ => True) YP PySem.Challenge.rw_ringreckon_s01_answers d0 [] fun f vs => PySem.call f vs) : PySem.Challenge.rw_ringreckon_s01_answers.Holds :=
 _root_.PySem.W.holds_os (q := q0) (loose := loose0) (Xt := fun _ => true) (XP := fun _ _ => True) left hY hYk (fun _ _ => trivial) (fun _ _ _ _ _ => trivial) (by rfl) (by rfl) (by rfl) (fun s _ => recFacts_of (R := []) (s := s) rfl) hsh k1 ok hb hw call
theorem fin : PySem.Challenge.rw_ringreckon_s01_answers.Holds := by
 w_on; k_headS; (case hw => exact ⟨[.list []],by decide +kernel,by decide +kernel⟩)
 k_fillS
 refine L2.walk_specK (r := PySem.Challenge.rw_ringreckon_s01_answers) (k := 14) (CX := L2.CX0) (ps := ["calls"]) (sp := Rr.spAnswers) (by decide +kernel) rfl rfl ⟨rfl,by decide,by decide⟩ (fun w h Y => PySem.W.kIn_of Y) ?F ?S (fun _ _ _ _ z => z)
 case F =>
  intro w mg fa h Y KX G hmg0
  have hmg : mg "answers" = some (.ref fa) := hmg0
  clear hmg0
  refine' Rr.all_mk KX G hmg ?x0 ?x1 ?x2 ?x3 ?x4 ?x5 ?x6 ?x7 ?x8 ?x9 ?x10 ?x11 ?x12 ?x13 ?x14 ?x15 ?x16 ?x17 ?x18 ?x19 ?x20 ?x21 ?x22 ?x23 ?x24 ?x25 ?x26 ?x27 ?x28 ?x29 ?x30 ?x31 ?x32 ?x33 ?x34 ?x35 ?x36 ?x37 ?x38 ?x39 ?x40 ?x41 ?x42 ?x43 ?x44 ?x45 ?x46 ?x47 ?x48 ?x49 ?x50 ?x51 ?x52 ?x53 ?x54 ?x55 ?x56 ?x57 ?x58 ?x59 ?x60 ?x61 ?x62 ?x63 ?x64 ?x65 ?x66 ?x67 ?x68 ?x69 ?x70 ?x71 ?x72 ?x73 ?x74 ?x75 ?x76 ?x77 ?x78 ?x79 ?x80 ?x81 ?x82 ?x83 ?x84 ?x85 ?x86 ?x87 ?x88 ?x89 ?x90 ?x91 ?x92 ?x93 ?x94 ?x95 ?x96 ?x97 ?x98 ?x99 ?x100 ?x101 ?x102 ?x103 ?x104 ?x105 ?x106 ?x107 ?x108 ?x109 ?x110 ?x111 ?x112 ?x113 ?x114 ?x115 ?x116 ?x117 ?x118 ?x119 ?x120 ?x121 ?x122 ?x123 ?x124 ?x125 ?x126 ?x127 ?x128 ?x129 ?x130 ?x131 ?x132 ?x133 ?x134 ?x135 ?x136 ?x137 ?x138 ?x139 ?x140 ?x141 ?x142 ?x143 ?x144 ?x145 ?x146 ?x147 ?x148 ?x149 ?x150 ?x151 ?x152 ?x153 ?x154 ?x155 ?x156 ?x157 ?x158 ?x159 ?x160 ?x161 ?x162 ?x163 ?x164 ?x165 ?x166 ?x167 ?x168 ?x169 ?x170 ?x171 ?x172 ?x173 ?x174 ?x175 ?x176 ?x177 ?x178 ?x179 ?x180 ?x181 ?x182 ?x183 ?x184 ?x185 ?x186 ?x187 ?x188 ?x189 ?x190 ?x191 ?x192 ?x193 ?x194 ?x195 ?x196 ?x197 ?x198 ?x199 ?x200 ?x201 ?x202 ?x203 ?x204 ?x205 ?x206 ?x207 ?x208 ?x209 ?x210 ?x211 ?x212 ?x213 ?x214 ?x215 ?x216 ?x217 ?x218 ?x219 ?x220 ?x221 ?x222 ?x223 ?x224 ?x225 ?x226 ?x227 ?x228 ?x229 ?x230 ?x231 ?x232 ?x233 ?x234 ?x235 ?x236 ?x237 ?x238 ?x239 ?x240 ?x241 ?x242 ?x243 ?x244 ?x245 ?x246 ?x247 ?x248 ?x249 ?x250 ?x251 ?x252 ?x253 ?x254 ?x255 ?x256 ?x257 ?x258 ?x259 ?x260 ?x261 ?x262 ?x263 ?x264 ?x265 ?x266 ?x267 ?x268 ?x269 ?x270 ?x271 ?x272 ?x273 ?x274 ?x275 ?x276 ?x277 ?x278 ?x279 ?x280 ?x281 ?x282 ?x283 ?x284 ?x285 ?x286 ?x287 ?x288 ?x289 ?x290 ?x291 ?x292 ?x293 ?x294 ?x295 ?x296 ?x297 ?x298 ?x299 ?x300 ?x301 ?x302 ?x303 ?x304 ?x305 ?x306 ?x307 ?x308 ?x309 ?x310 ?x311 ?x312 ?x313 ?x314 ?x315 ?x316 ?x317 ?x318 ?x319 ?x320 ?x321 ?x322 ?x323 ?x324 ?x325 ?x326 ?x327 ?x328 ?x329 ?x330 ?x331 ?x332 ?x333 ?x334 ?x335 ?x336 ?x337 ?x338 ?x339 ?x340 ?x341 ?x342 ?x343 ?x344 ?x345 ?x346 ?x347 ?x348 ?x349 ?x350 ?x351 ?x352 ?x353 ?x354 ?x355 ?x356 ?x357 ?x358 ?x359 ?x360 ?x361 ?x362 ?x363 ?x364 ?x365 ?x366 ?x367 ?x368 ?x369 ?x370 ?x371
  (case x0 | x2 | x4 | x6 | x8 | x10 | x12 | x34 | x36 | x40 | x43 | x45 | x47 | x50 | x52 | x54 | x57 | x59 | x65 | x67 | x73 | x75 | x77 | x79 | x81 | x84 | x86 | x89 | x92 | x96 | x99 | x103 | x105 | x107 | x109 | x111 | x113 | x115 | x117 | x122 | x124 | x126 | x128 | x132 | x135 | x156 | x158 | x160 | x163 | x166 | x169 | x171 | x174 | x176 | x178 | x182 | x184 | x187 | x189 | x192 | x195 | x197 | x200 | x203 | x207 | x209 | x211 | x213 | x215 | x217 | x220 | x222 | x224 | x231 | x233 | x235 | x237 | x239 | x241 | x243 | x246 | x248 | x250 | x252 | x254 | x257 | x259 | x261 | x263 | x267 | x269 | x271 | x274 | x276 | x278 | x280 | x282 | x284 | x286 | x288 | x290 | x292 | x294 | x296 | x302 | x304 | x306 | x308 | x314 | x319 | x321 | x323 | x325 | x326 | x328 | x329 | x370 => unfold Rr.NsF; k_is)
  (case x32 | x61 | x63 | x137 | x142 | x144 | x146 | x148 | x150 | x152 | x154 | x205 | x227 | x229 | x265 => exact ⟨by k_is,by k_is⟩)
  (case x33 | x35 | x37 | x41 | x44 | x46 | x48 | x51 | x53 | x55 | x58 | x60 | x62 | x64 | x66 | x68 | x74 | x76 | x78 | x80 | x82 | x85 | x87 | x90 | x93 | x97 | x100 | x104 | x106 | x108 | x110 | x112 | x114 | x118 | x123 | x125 | x127 | x129 | x133 | x136 | x138 | x143 | x145 | x147 | x149 | x151 | x153 | x155 | x157 | x159 | x161 | x164 | x167 | x170 | x172 | x175 | x177 | x179 | x183 | x185 | x188 | x190 | x193 | x196 | x198 | x201 | x204 | x206 | x208 | x210 | x212 | x214 | x216 | x218 | x221 | x223 | x225 | x228 | x230 | x232 | x234 | x236 | x238 | x240 | x242 | x244 | x247 | x249 | x251 | x253 | x255 | x258 | x260 | x262 | x264 | x266 | x268 | x270 | x272 | x275 | x277 | x279 | x281 | x283 | x285 | x287 | x289 | x291 | x293 | x295 | x297 | x303 | x305 | x307 | x309 | x315 | x320 | x324 | x327 | x330 | x371 => exact ⟨_,_,_,_,_,_,_,_,_,by k_is,by k_is,by k_is⟩)
  (case x1 | x3 | x5 | x7 | x9 | x11 | x13 => exact ⟨by k_is,by k_is,by k_is,by k_is,by k_is,by k_is⟩)
  (case x38 | x39 | x42 | x70 | x71 | x72 | x83 | x88 | x95 | x98 | x101 | x102 | x116 | x119 | x120 | x121 | x130 | x131 | x134 | x139 | x140 | x141 | x162 | x165 | x168 | x173 | x186 | x191 | x194 | x199 | x202 | x219 | x226 | x245 | x256 | x298 | x299 | x300 | x301 | x310 | x311 | x312 | x313 | x316 | x317 | x318 | x322 | x331 => exact ⟨_,by k_is⟩)
  (case x14 | x15 | x16 | x17 | x18 | x19 | x20 | x21 | x22 | x23 | x24 | x25 | x26 | x27 | x28 | x29 | x30 | x31 | x49 | x56 | x69 | x91 | x94 | x180 | x181 | x273 | x332 | x333 | x334 | x335 => k_is)
  (case x336 => rfl)
  (case x337 => rfl)
  (case x338 => rfl)
  (case x339 => rfl)
  (case x341 => rfl)
  (case x344 => rfl)
  (case x346 => rfl)
  (case x347 => rfl)
  (case x348 => rfl)
  (case x349 => rfl)
  (case x350 => rfl)
  (case x351 => rfl)
  (case x352 => rfl)
  (case x353 => rfl)
  (case x354 => rfl)
  (case x355 => rfl)
  (case x356 => rfl)
  (case x357 => rfl)
  (case x358 => rfl)
  (case x359 => rfl)
  (case x360 => rfl)
  (case x361 => rfl)
  (case x362 => rfl)
  (case x363 => rfl)
  (case x364 => rfl)
  (case x365 => rfl)
  (case x366 => rfl)
  (case x367 => rfl)
  (case x368 => rfl)
  (case x369 => rfl)
  (case x340 | x343 => exact ⟨rfl,rfl,rfl⟩)
  (case x342 | x345 => decide)
 case S =>
  intro K H xs a hO hwi hask hx
  cases hx with
  | cons h1 h2 =>
   cases h2
   cases h1 with
   | lst hs ha =>
    have e := L2.ints_dw a.1 _ ha
    subst e
    have q : ((PySem.W.Codec.inLen 0 16000 a.1 && a.1.all (PySem.W.Codec.inInt (-9223372036854775808) 18446744073709551615)) && true) = true := hwi
    rw [Bool.and_eq_true,Bool.and_eq_true] at q
    exact ⟨_,a.1,rfl,hs,(PySem.W.Codec.inNat_iff.mp q.1.1).2,hask,fun H' p hp => .lst (L2.SqL.of hp) (L2.dw_ints _)⟩
end Hq
theorem PySem.Challenge.cw_ringreckon_s01_answers_holds : PySem.Challenge.rw_ringreckon_s01_answers.Holds := by
 exact Hq.fin
